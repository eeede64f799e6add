import PyProof.Rows.All
import Wide.All
import OpenK.AllK
import Wide.FinOn
import HandS.ForMost
import HandS.Evl
import HandS.Style
import HandS.IsInst
import HandS.SetFor
import HandS.Star
import HandS.SortInts
import HandS.TupAny
import HandS.Conv
import KE.GoesEnum
import HandS.Defaults
import HandS.MakeKwOnly
import HandS.Lambda
import KE.GoesZip
import KE.GoesMore
import HandS.Zip
import HandS.Deep
import HandS.Strs
import KE.DataMinMax
import KE.KUnpackStar
import KE.LtSeq
import PySem.Builtin._heapq.W4All
import HandS.Gcd
import HandS.DictComp
import HandS.TupMul
import PyProof.StrOps2
import HandS.Text
import KE.BitLaws
import KE.DatumOrd
import KE.DatumMoreOrd
import KE.SortData
import HandS.Hot
import HandS.ExcCtx
import HandS.ExcInit
import HandS.ExcIs
import HandS.ExcField
import HandS.WordsExc
import KE.KExcIs
import PyProof.Rows.CountFlat
import HandS.FStr
import HandS.ExcOwn
import HandS.EndTab
import KE.KNest
import KE.KDflt
import PySem.Challenge.RW_seamboard_k12_watched_beat_by_beat
set_option Elab.async false
set_option linter.all false
set_option maxRecDepth 100000
/-! Seamboard, layer 1: what a reading gives, told by data (PyData) alone. -/
namespace Sb
open PySem PySem.Spec PyProof.Rows L2

abbrev Dt := PyData
/-- nothing is lost -/
def Gr (H H' : Hp) : Prop := ∀ a o, H a = some o → H' a = some o
theorem Gr.refl (H : Hp) : Gr H H := fun _ _ h => h
theorem Gr.trans {H H1 H2 : Hp} (a : Gr H H1) (b : Gr H1 H2) : Gr H H2 := fun x o h => b x o (a x o h)
theorem Gr.back {H H' : Hp} {p : Addr} (e : Gr H H') (h : H' p = none) : H p = none := by
  cases q : H p with
  | none => rfl
  | some o => rw [e p o q] at h; cases h
theorem Gr.new {H : Hp} {p : Addr} {o : HO} (h : H p = none) : Gr H (upd H p o) := fun a u e => by
  rw [upd_ne (ne_of_none e h)]; exact e
theorem Gr.both {G H : Hp} {p : Addr} {o : HO} (e : Gr G H) : Gr (upd G p o) (upd H p o) := fun a u h => by
  by_cases q : a = p
  · subst q; rw [upd_same] at h ⊢; exact h
  · rw [upd_ne q] at h ⊢; exact e a u h
theorem gr_l {K : PySem.W.Frag} {H H' : Hp} {a : Addr} {xs : List V} (e : Gr H H') (h : SqL K H a xs) : SqL K H' a xs := by
  rcases h with (h | ⟨o, h⟩) | h
  · exact .inl (.inl (e _ _ h))
  · exact .inl (.inr ⟨o, e _ _ h⟩)
  · exact .inr h
theorem gr_t {K : PySem.W.Frag} {H H' : Hp} {a : Addr} {xs : List V} (e : Gr H H') (h : SqT K H a xs) : SqT K H' a xs := by
  rcases h with (h | ⟨o, h⟩) | h
  · exact .inl (.inl (e _ _ h))
  · exact .inl (.inr ⟨o, e _ _ h⟩)
  · exact .inr h
mutual
theorem dp_up {K : PySem.W.Frag} {H H' : Hp} (e : Gr H H') : ∀ (d : Dt) (v : V), Dp K H v d → Dp K H' v d
  | .none, _, h => by cases h; exact .non
  | .bool b, _, h => by cases h; exact .bl b
  | .int i, _, h => by cases h; exact .int i
  | .str x, _, h => by cases h; exact .str x
  | .list ds, _, h => by cases h with | lst a b => exact .lst (gr_l e a) (dps_up e ds _ b)
  | .tuple ds, _, h => by cases h with | tup a b => exact .tup (gr_t e a) (dps_up e ds _ b)
  | .dict _, _, h => by cases h
theorem dps_up {K : PySem.W.Frag} {H H' : Hp} (e : Gr H H') : ∀ (ds : List Dt) (vs : List V), DpAll K H vs ds → DpAll K H' vs ds
  | [], _, h => by cases h; exact .nil
  | d :: ds, _, h => by cases h with | cons a b => exact .cons (dp_up e d _ a) (dps_up e ds _ b)
end
section
variable {K : PySem.W.Frag} {H H' : Hp} {v : V} {vs : List V} {d : Dt} {ds : List Dt}
theorem Dpu (h : Dp K H v d) (e : Gr H H') : Dp K H' v d := dp_up e d v h
theorem Dpsu (h : DpAll K H vs ds) (e : Gr H H') : DpAll K H' vs ds := dps_up e ds vs h
theorem dps_len : ∀ {vs : List V} {ds : List Dt}, DpAll K H vs ds → vs.length = ds.length
  | _, _, .nil => rfl
  | _, _, .cons _ h => by rw [List.length_cons, List.length_cons, dps_len h]
theorem ints_of : ∀ {ns : List Int} {vs : List V}, DpAll K H vs (ns.map PyData.int) → vs = ns.map V.int
  | [], _, h => by cases h; rfl
  | n :: ns, _, h => by
    rw [List.map_cons] at h
    cases h with
    | cons a b => cases a; rw [ints_of b, List.map_cons]
end

/-- a step that changes nothing that was there; G: what stands for good, H: all -/
structure Stp (G H G2 H2 : Hp) : Prop where
  g : Gr G G2
  s : Gr G2 H2
  h : Gr H H2
  f : ∀ a, H a ≠ none → G a = none → G2 a = none
section
variable {G H G1 H1 G2 H2 : Hp} {p : Addr} {o : HO}
theorem Stp.refl (s : Gr G H) : Stp G H G H := ⟨.refl _, s, .refl _, fun _ _ h => h⟩
theorem Stp.trans (a : Stp G H G1 H1) (b : Stp G1 H1 G2 H2) : Stp G H G2 H2 :=
  ⟨a.g.trans b.g, b.s, a.h.trans b.h, fun x h1 h2 => b.f x (fun q => by
    cases e : H x with
    | none => exact h1 e
    | some o => rw [a.h x o e] at q; cases q) (a.f x h1 h2)⟩
theorem Stp.new (s : Gr G H) (hp : H p = none) : Stp G H (upd G p o) (upd H p o) :=
  ⟨.new (s.back hp), s.both, .new hp, fun a h1 h2 => by
    have : a ≠ p := fun e => h1 (e ▸ hp)
    rw [upd_ne this]; exact h2⟩
/-- a new thing that is kept apart (it will change) -/
theorem Stp.hid (s : Gr G H) (hp : H p = none) : Stp G H G (upd H p o) :=
  ⟨.refl _, s.trans (.new hp), .new hp, fun _ _ h => h⟩
/-- what was kept apart stands for good from now on: it was not there at the start -/
theorem Stp.show (s : Stp G H G2 H2) (hp : H p = none) (hg : G2 p = none) (h2 : H2 p = some o) : Stp G H (upd G2 p o) H2 :=
  ⟨s.g.trans (.new hg), fun a u e => by
    by_cases q : a = p
    · subst q; rw [upd_same] at e; rw [h2]; exact e
    · rw [upd_ne q] at e; exact s.s a u e, s.h, fun a h1 h0 => by
    have : a ≠ p := fun e => h1 (e ▸ hp)
    rw [upd_ne this]; exact s.f a h1 h0⟩
/-- what is kept apart is written -/
theorem Stp.put {u : HO} (s : Stp G H G2 H2) (hp : H p = none) (hg : G2 p = none) : Stp G H G2 (upd H2 p u) :=
  ⟨s.g, fun a o e => by
    have : a ≠ p := fun q => by rw [q, hg] at e; cases e
    rw [upd_ne this]; exact s.s a o e, fun a o e => by
    have : a ≠ p := fun q => by rw [q, hp] at e; cases e
    rw [upd_ne this]; exact s.h a o e, s.f⟩
end

/-- what a name holds: data that stands for good, or a thing at an address -/
inductive Wd where
  | d (x : Dt)
  | r (a : Addr)
  | l (xs : List Dt)
/-- .l: a list that stands for good, tracked -/
def WOk (K : PySem.W.Frag) (G : Hp) (v : V) : Wd → Prop
  | .d x => Dp K G v x
  | .r a => v = .ref a
  | .l xs => ∃ p vs, v = .ref p ∧ G p = some (.lst vs) ∧ DpAll K G vs xs
abbrev Sl := List (Option Wd)
structure En (K : PySem.W.Frag) (G : Hp) (σ : L2.St) (Δ : Sl) : Prop where
  len : σ.length = Δ.length
  at_ : ∀ (i : Nat) (w : Wd), Δ[i]? = some (some w) → ∃ v, σ[i]? = some (some v) ∧ WOk K G v w
section
variable {K : PySem.W.Frag} {G G2 : Hp} {σ : L2.St} {Δ : Sl} {v : V} {w : Wd}
theorem wok_up (h : WOk K G v w) (e : Gr G G2) : WOk K G2 v w := by
  cases w with
  | d x => exact Dpu h e
  | r a => exact h
  | l xs => obtain ⟨p, vs, a, b, c⟩ := h; exact ⟨p, vs, a, e _ _ b, Dpsu c e⟩
theorem En.up (h : En K G σ Δ) (e : Gr G G2) : En K G2 σ Δ :=
  ⟨h.len, fun i w hi => let ⟨v, a, b⟩ := h.at_ i w hi; ⟨v, a, wok_up b e⟩⟩
theorem En.set (h : En K G σ Δ) (i : Nat) (hw : WOk K G v w) : En K G (σ.set i (some v)) (Δ.set i (some w)) := by
  refine ⟨by rw [List.length_set, List.length_set, h.len], fun j u hj => ?_⟩
  by_cases e : j = i
  · subst e
    have hl : j < (Δ.set j (some w)).length := (List.getElem?_eq_some_iff.mp hj).1
    rw [List.length_set] at hl
    rw [List.getElem?_set_self hl] at hj
    cases hj
    exact ⟨v, by rw [List.getElem?_set_self (by rw [h.len]; exact hl)], hw⟩
  · rw [List.getElem?_set_ne (Ne.symm e)] at hj
    obtain ⟨x, a, b⟩ := h.at_ j u hj
    exact ⟨x, by rw [List.getElem?_set_ne (Ne.symm e)]; exact a, b⟩
/-- forgetting -/
def Lt (Δ Δ' : Sl) : Prop := Δ.length = Δ'.length ∧ ∀ (i : Nat) (w : Wd), Δ'[i]? = some (some w) → Δ[i]? = some (some w)
def wipeD (Δ : Sl) : List Nat → Sl
  | [] => Δ
  | v :: vs => (wipeD Δ vs).set v none
theorem En.wipe (h : En K G σ Δ) : ∀ vs : List Nat, En K G (wipe σ vs) (wipeD Δ vs)
  | [] => h
  | v :: vs => by
    have ih := En.wipe h vs
    refine ⟨by show ((L2.wipe σ vs).set v none).length = ((wipeD Δ vs).set v none).length; rw [List.length_set, List.length_set, ih.len], fun j u hj => ?_⟩
    have hj' : ((wipeD Δ vs).set v none)[j]? = some (some u) := hj
    by_cases e : j = v
    · subst e
      have hl : j < ((wipeD Δ vs).set j none).length := (List.getElem?_eq_some_iff.mp hj').1
      rw [List.length_set] at hl
      rw [List.getElem?_set_self hl] at hj'
      cases hj'
    · rw [List.getElem?_set_ne (Ne.symm e)] at hj'
      obtain ⟨x, a, b⟩ := ih.at_ j u hj'
      exact ⟨x, by show ((L2.wipe σ vs).set v none)[j]? = _; rw [List.getElem?_set_ne (Ne.symm e)]; exact a, b⟩
end

/-! ### the judgements, data alone -/
def Ev (K : PySem.W.Frag) (te : TE) (Δ : Sl) (d : Dt) : Prop :=
  ∀ (σ : L2.St) (G H : Hp) (Q : VK), En K G σ Δ → Gr G H → (∀ v G2 H2, Stp G H G2 H2 → Dp K G2 v d → Q v H2) → te σ H Q
def EvA (K : PySem.W.Frag) (ta : TA) (Δ : Sl) (ds : List Dt) : Prop :=
  ∀ (σ : L2.St) (G H : Hp) (Q : List V → Hp → Prop), En K G σ Δ → Gr G H → (∀ vs G2 H2, Stp G H G2 H2 → DpAll K G2 vs ds → Q vs H2) → ta σ H Q
def EvT (K : PySem.W.Frag) (tt : TT) (Δ : Sl) (b : Bool) : Prop :=
  ∀ (σ : L2.St) (G H : Hp) (Q : Bool → Hp → Prop), En K G σ Δ → Gr G H → (∀ G2 H2, Stp G H G2 H2 → Q b H2) → tt σ H Q
/-- operations upon values -/
def RV (K : PySem.W.Frag) (r : R2) (x y z : Dt) : Prop :=
  ∀ (G H : Hp) (v u : V) (Q : VK), Gr G H → Dp K G v x → Dp K G u y → (∀ w G2 H2, Stp G H G2 H2 → Dp K G2 w z → Q w H2) → r v u H Q
def RU (K : PySem.W.Frag) (r : V → Hp → VK → Prop) (x z : Dt) : Prop :=
  ∀ (G H : Hp) (v : V) (Q : VK), Gr G H → Dp K G v x → (∀ w G2 H2, Stp G H G2 H2 → Dp K G2 w z → Q w H2) → r v H Q
def RC (K : PySem.W.Frag) (r : List V → Hp → VK → Prop) (xs : List Dt) (z : Dt) : Prop :=
  ∀ (G H : Hp) (vs : List V) (Q : VK), Gr G H → DpAll K G vs xs → (∀ w G2 H2, Stp G H G2 H2 → Dp K G2 w z → Q w H2) → r vs H Q
section
variable {K : PySem.W.Frag} {Δ : Sl} {ta tb te : TE} {t : TA} {tt tu : TT} {x y z d : Dt} {xs ds : List Dt} {r : R2}
/-! ints -/
theorem rv_I0 {f : Int → Int → Int} {i j : Int} : RV K (rI0 fun i j => .int (f i j)) (.int i) (.int j) (.int (f i j)) := fun G H v u Q s a b q => by
  cases a; cases b; exact ⟨i, j, rfl, rfl, q _ G H (.refl s) (.int _)⟩
theorem rv_B0 {f : Int → Int → Bool} {i j : Int} : RV K (rI0 fun i j => .bl (f i j)) (.int i) (.int j) (.bool (f i j)) := fun G H v u Q s a b q => by
  cases a; cases b; exact ⟨i, j, rfl, rfl, q _ G H (.refl s) (.bl _)⟩
theorem rv_I {C : Int → Int → Prop} {f : Int → Int → Int} {i j : Int} (c : C i j) : RV K (rI C fun i j => .int (f i j)) (.int i) (.int j) (.int (f i j)) := fun G H v u Q s a b q => by
  cases a; cases b; exact ⟨i, j, rfl, rfl, c, q _ G H (.refl s) (.int _)⟩
theorem rv_eqD (hx : SeqAt.shaped x = true) (hy : SeqAt.shaped y = true) : RV K (rEqD K) x y (.bool (PyData.eqv x y)) := fun G H v u Q s a b q =>
  ⟨x, y, Dpu a s, Dpu b s, hx, hy, q _ G H (.refl s) (.bl _)⟩
theorem rv_neD (hx : SeqAt.shaped x = true) (hy : SeqAt.shaped y = true) : RV K (rNeD K) x y (.bool (!PyData.eqv x y)) := fun G H v u Q s a b q =>
  ⟨x, y, Dpu a s, Dpu b s, hx, hy, q _ G H (.refl s) (.bl _)⟩
def isNo : Dt → Bool
  | .none => true
  | _ => false
theorem isNo_v {G : Hp} {v : V} (h : Dp K G v x) : decide (v = .non) = isNo x := by cases h <;> rfl
theorem rv_isN : RV K (fun x y H Q => y = .non ∧ Q (.bl (decide (x = .non))) H) x .none (.bool (isNo x)) := fun G H v u Q s a b q => by
  cases b; refine ⟨rfl, ?_⟩; rw [isNo_v a]; exact q _ G H (.refl s) (.bl _)
theorem rv_notN : RV K (fun x y H Q => y = .non ∧ Q (.bl (!decide (x = .non))) H) x .none (.bool (!isNo x)) := fun G H v u Q s a b q => by
  cases b; refine ⟨rfl, ?_⟩; rw [isNo_v a]; exact q _ G H (.refl s) (.bl _)
theorem at_nn {α : Type} {xs : List α} {i : Int} {v : α} (h0 : 0 ≤ i) (h : xs[i.toNat]? = some v) : atI xs i = some v := by
  have e : i = ((i.toNat : Nat) : Int) := by omega
  rw [e]
  exact atI_nat h
/-! in -/
def hasI (i : Int) (ns : List Int) : Bool := ns.contains i
/-! tuple + tuple, list + list, list * int -/
end
end Sb

/-! Seamboard, layer 2: lists, calls, comprehensions, statements, loops, told by data. -/
namespace Sb
open PySem PySem.Spec PyProof.Rows L2

/-- a new list (or a name's list), tracked -/
def EvN (K : PySem.W.Frag) (te : TE) (Δ : Sl) (ds : List Dt) : Prop :=
  ∀ (σ : L2.St) (G H : Hp) (Q : VK), En K G σ Δ → Gr G H → (∀ p vs G2 H2, Stp G H G2 H2 → G2 p = some (.lst vs) → DpAll K G2 vs ds → Q (.ref p) H2) → te σ H Q
section
variable {K : PySem.W.Frag} {Δ : Sl} {ta tb te : TE} {t : TA} {tt tu : TT} {x y z d : Dt} {xs ys ds : List Dt} {r : R2}
/-! ### calls of built-ins -/
theorem rc_lenT : RC K (fun xs H Q => ∃ p ys, xs = [.ref p] ∧ (SqL K H p ys ∨ SqT K H p ys) ∧ Q (.int ys.length) H) [.tuple ds] (.int (ds.length : Int)) := fun G H vs Q s h q => by
  cases h with
  | cons a b =>
    cases b
    cases a with
    | tup h1 h2 => exact ⟨_, _, rfl, .inr (gr_t s h1), by rw [dps_len h2]; exact q _ G H (.refl s) (.int _)⟩
theorem rc_lenL : RC K (fun xs H Q => ∃ p ys, xs = [.ref p] ∧ (SqL K H p ys ∨ SqT K H p ys) ∧ Q (.int ys.length) H) [.list ds] (.int (ds.length : Int)) := fun G H vs Q s h q => by
  cases h with
  | cons a b =>
    cases b
    cases a with
    | lst h1 h2 => exact ⟨_, _, rfl, .inl (gr_l s h1), by rw [dps_len h2]; exact q _ G H (.refl s) (.int _)⟩
theorem rc_min2 {i j : Int} : RC K (fun xs H Q => ∃ i j, xs = [.int i, .int j] ∧ Q (.int (if j < i then j else i)) H) [.int i, .int j] (.int (min i j)) := fun G H vs Q s h q => by
  cases h with
  | cons a b =>
    cases b with
    | cons c b =>
      cases b; cases a; cases c
      refine ⟨i, j, rfl, ?_⟩
      have e : (if j < i then j else i) = min i j := by rw [Int.min_def]; split <;> split <;> omega
      rw [e]
      exact q _ G H (.refl s) (.int _)
theorem rc_int_i {i : Int} : RC K (fun xs H Q => (∃ i, xs = [.int i] ∧ Q (.int i) H) ∨ ∃ k, xs = [.bl k] ∧ Q (.int (if k then 1 else 0)) H) [.int i] (.int i) := fun G H vs Q s h q => by
  cases h with
  | cons a b => cases b; cases a; exact .inl ⟨i, rfl, q _ G H (.refl s) (.int _)⟩
theorem rc_int_b {k : Bool} : RC K (fun xs H Q => (∃ i, xs = [.int i] ∧ Q (.int i) H) ∨ ∃ k, xs = [.bl k] ∧ Q (.int (if k then 1 else 0)) H) [.bool k] (.int (if k then 1 else 0)) := fun G H vs Q s h q => by
  cases h with
  | cons a b => cases b; cases a; exact .inr ⟨k, rfl, q _ G H (.refl s) (.int _)⟩
/-- sorted of ints -/
def srt (ns : List Int) : List Int := ns.mergeSort (fun a b => decide (a ≤ b))
theorem srt_perm (ns : List Int) : (srt ns).Perm ns := List.mergeSort_perm _ _
theorem srt_sorted (ns : List Int) : (srt ns).Pairwise (· ≤ ·) := by
  have h := List.pairwise_mergeSort (le := fun (a b : Int) => decide (a ≤ b)) (fun a b c h1 h2 => by
    have h1' := of_decide_eq_true h1; have h2' := of_decide_eq_true h2; exact decide_eq_true (Int.le_trans h1' h2')) (fun a b => by
    rcases Int.le_total a b with h | h
    · simp [h]
    · simp [h]) ns
  exact h.imp fun h => of_decide_eq_true h
theorem pw_uniq : ∀ {l m : List Int}, l.Perm m → l.Pairwise (· ≤ ·) → m.Pairwise (· ≤ ·) → l = m := fun {l m} h h1 h2 => h.eq_of_pairwise (fun a b _ _ h3 h4 => Int.le_antisymm h3 h4) h1 h2
/-! ### tests -/
end

/-! ### the promise of a def, by data -/
def spD (K : PySem.W.Frag) (F : List Dt → Dt → Prop) : Sp := fun vs H Q _ => ∃ G ds d, Gr G H ∧ DpAll K G vs ds ∧ F ds d ∧ ∀ v G2 H2, Stp G H G2 H2 → Dp K G2 v d → Q v H2
/-! ### statements -/
inductive Out where
  | nx (Δ : Sl) | bk (Δ : Sl) | ct (Δ : Sl) | rt (d : Dt) | rl (ds : List Dt)
def Post (K : PySem.W.Frag) (D : Ends) (G H : Hp) : Out → Prop
  | .nx Δ => ∀ σ G2 H2, Stp G H G2 H2 → En K G2 σ Δ → D.nx σ H2
  | .bk Δ => ∀ σ G2 H2, Stp G H G2 H2 → En K G2 σ Δ → D.bk σ H2
  | .ct Δ => ∀ σ G2 H2, Stp G H G2 H2 → En K G2 σ Δ → D.ct σ H2
  | .rt d => ∀ v G2 H2, Stp G H G2 H2 → Dp K G2 v d → D.rt v H2
  | .rl ds => ∀ p vs G2 H2, Stp G H G2 H2 → G2 p = some (.lst vs) → DpAll K G2 vs ds → D.rt (.ref p) H2
def Sx (K : PySem.W.Frag) (ts : TS) (Δ : Sl) (o : Out) : Prop := ∀ (D : Ends) (σ : L2.St) (G H : Hp), En K G σ Δ → Gr G H → Post K D G H o → ts D σ H
section
variable {K : PySem.W.Frag} {Δ Δ1 Δ2 : Sl} {t u : TS} {te : TE} {o : Out} {d : Dt} {G H G1 H1 : Hp} {D : Ends}
theorem Post.step (s : Stp G H G1 H1) (p : Post K D G H o) : Post K D G1 H1 o := by
  cases o with
  | nx Δ => exact fun σ G2 H2 s2 e => p σ G2 H2 (s.trans s2) e
  | bk Δ => exact fun σ G2 H2 s2 e => p σ G2 H2 (s.trans s2) e
  | ct Δ => exact fun σ G2 H2 s2 e => p σ G2 H2 (s.trans s2) e
  | rt d => exact fun v G2 H2 s2 e => p v G2 H2 (s.trans s2) e
  | rl ds => exact fun a vs G2 H2 s2 h e => p a vs G2 H2 (s.trans s2) h e
/-! ### what is walked, targets -/
/-- at turn i it yields the data ds[i], a step behind -/
structure WalkD (K : PySem.W.Frag) (J : It) (G0 : Hp) (ds : List Dt) : Prop where
  go : ∀ i G H, Gr G0 G → Gr G H → i < ds.length → J.go i H
  stop : ∀ G H, Gr G0 G → Gr G H → J.stop ds.length H
  yld : ∀ i G H x H2, Gr G0 G → Gr G H → i < ds.length → J.yld i H x H2 → ∃ G2 d, Stp G H G2 H2 ∧ ds[i]? = some d ∧ Dp K G2 x d
def EvI (K : PySem.W.Frag) (wi : TI) (Δ : Sl) (ds : List Dt) : Prop :=
  ∀ (σ : L2.St) (G H : Hp) (R : It → Hp → Prop), En K G σ Δ → Gr G H → (∀ J G2 H2, Stp G H G2 H2 → WalkD K J G2 ds → R J H2) → wi σ H R
/-- lo, lo + 1, .. -/
def upto (lo : Int) (n : Nat) : List Dt := (List.range n).map fun (i : Nat) => PyData.int (lo + (i : Int))
theorem upto_len (lo : Int) (n : Nat) : (upto lo n).length = n := by unfold upto; rw [List.length_map, List.length_range]
theorem upto_get {lo : Int} {n i : Nat} (h : i < n) : (upto lo n)[i]? = some (.int (lo + (i : Int))) := by
  unfold upto; rw [List.getElem?_map, List.getElem?_range h]; rfl
/-- a new pair (i, item) at each turn -/
def pairsFrom : Nat → List Dt → List Dt
  | _, [] => []
  | k, d :: ds => .tuple [.int (k : Nat), d] :: pairsFrom (k + 1) ds
theorem pairs_len : ∀ (ds : List Dt) (k : Nat), (pairsFrom k ds).length = ds.length
  | [], _ => rfl
  | _ :: ds, k => by show (pairsFrom (k + 1) ds).length + 1 = ds.length + 1; rw [pairs_len ds]
theorem pairs_get : ∀ {ds : List Dt} {k i : Nat} {d : Dt}, ds[i]? = some d → (pairsFrom k ds)[i]? = some (.tuple [.int ((k + i : Nat) : Int), d])
  | d0 :: ds, k, 0, d, h => by simp at h; subst h; rfl
  | d0 :: ds, k, i + 1, d, h => by
    show (pairsFrom (k + 1) ds)[i]? = _
    rw [pairs_get (k := k + 1) (by simpa using h), show k + 1 + i = k + (i + 1) by omega]
/-- a target stores a thing: the slots js alone may change -/
def EvG (K : PySem.W.Frag) (g : TG) (Δ : Sl) (d : Dt) (Δ' : Sl) (js : List Nat) : Prop :=
  ∀ (v : V) (σ : L2.St) (G H : Hp) (Q : L2.St → Hp → Prop), En K G σ Δ → Gr G H → Dp K G v d → (∀ σ', En K G σ' Δ' → (∀ vs : List Nat, (∀ j ∈ js, j ∈ vs) → wipe σ' vs = wipe σ vs) → Q σ' H) → g v σ H Q
theorem wipe_at (σ : L2.St) : ∀ (vs : List Nat) (i : Nat), (wipe σ vs)[i]? = if i ∈ vs then (if i < σ.length then some none else none) else σ[i]?
  | [], i => by simp [wipe]
  | v :: vs, i => by
    show ((wipe σ vs).set v none)[i]? = _
    rw [List.getElem?_set, wipe_at σ vs i, wipe_length]
    by_cases e : v = i
    · subst e; simp
    · rw [if_neg e]
      have : (i ∈ v :: vs) ↔ i ∈ vs := by simp [Ne.symm e]
      simp only [this]
theorem wipe_set (σ : L2.St) (j : Nat) (x : Option V) (vs : List Nat) (h : j ∈ vs) : wipe (σ.set j x) vs = wipe σ vs := by
  apply List.ext_getElem?
  intro i
  rw [wipe_at, wipe_at, List.length_set, List.getElem?_set]
  by_cases e : j = i
  · subst e; simp [h]
  · rw [if_neg e]
/-! ### for -/
/-! ### comprehensions -/
end
end Sb

/-! Seamboard, layer 3: enumerate over a tuple, xs[i] += n, stars, isinstance, two clauses. -/
namespace Sb
open PySem PySem.Spec PyProof.Rows L2

/-! ### enumerate(t), t a tuple -/
section
open Sem (wp)
open AutoSeq1 (wpAny_loadPart')
set_option maxHeartbeats 1000000 in
theorem enum_new1 {v : Value} {ob : Obj} {J : Heap → Prop} (B : Begins v ob J) : Meets (Builtin.«enumerate.__new__» ⟨[.type "enumerate", v], []⟩) (fun _ R s => J s.heap ∧
    R (.ok (.ret (.ref (s.heap.push ob).objs.size))) { s with heap := (s.heap.push ob).push { cls := .type "enumerate", data := .fields #[.none, .bool false, .ref s.heap.objs.size, rawInt 0, .none, .none] } }) :=
  .of_wp fun prog w A R s hh => by
    obtain ⟨hp, gn, dr, tok, os⟩ := s
    obtain ⟨j1, hR⟩ := hh
    have hsb := sub_enumerate
    have again : ∀ {A1 : Around} {E1 : Value → Shared → Prop} {Q1 : Value → Shared → Prop}, Q1 (.ref hp.objs.size) ⟨hp.push ob, gn, dr, tok, os⟩ →
        wpAny (model prog w) A1 (pyIter v) Q1 E1 ⟨hp, gn, dr, tok, os⟩ := fun q => B.iter prog w _ _ ⟨hp, gn, dr, tok, os⟩ _ j1 q
    wp_walk using again
    refine wpAny_stack_any fun _ => wpAny_pure ?_
    split
    · rename_i cl _ _ _ _ _
      cases (cl == Value.type "enumerate") <;> (wp_walk using again; exact ⟨_, rfl, hR⟩)
    · wp_walk using again
      exact ⟨_, rfl, hR⟩
theorem enum_call1 {prog : Program} {w : World} {A : Around} {E : Value → Shared → Prop} {s : Shared} {v : Value} {ob : Obj} {J : Heap → Prop} {Q : Value → Shared → Prop} (B : Begins v ob J) (hj : J s.heap)
    (k : ∀ h', IsEnum h' (s.heap.objs.size + 1) s.heap.objs.size 0 .none → h'.get? s.heap.objs.size = some ob → (∀ b u, s.heap.get? b = some u → h'.get? b = some u) → Q (.ref (s.heap.objs.size + 1)) { s with heap := h' }) :
    wpAny (model prog w) A (call (.type "enumerate") [v]) Q E s := by
  refine callType_new F.called_enumerate (by decide) (F.typeCall_enumerate_1 _) (F.newCall_enumerate_1 _) (fun obj => F.args_object_init_2 obj _) F.entry_enumerate_new (enum_new1 B) ⟨hj, ?_⟩
  have hz : (s.heap.push ob).objs.size = s.heap.objs.size + 1 := Heap.size_push ..
  have at2 := Heap.get?_push_size (s.heap.push ob) (o := { cls := .type "enumerate", data := .fields #[.none, .bool false, .ref s.heap.objs.size, rawInt 0, .none, .none] }) rfl
  rw [hz] at at2
  show _ ∧ _
  rw [hz]
  exact ⟨⟨_, at2, rfl⟩, k _ at2 (Heap.get?_push_of_some _ (Heap.get?_push_size _ B.free)) fun b u q => Heap.get?_push_of_some _ (Heap.get?_push_of_some _ q)⟩
end
def Iteu (K : PySem.W.Frag) (a : Addr) : It :=
  ⟨fun i H => ∃ (xs : List V) (x : V), SqT K H a xs ∧ xs[i]? = some x,
   fun i H v H' => ∃ T x, v = .ref T ∧ H T = none ∧ H' = upd H T (.tup [.int (i : Nat), x]) ∧ ∀ xs, SqT K H a xs → xs[i]? = some x,
   fun i H => ∃ xs : List V, SqT K H a xs ∧ xs.length = i⟩
theorem turn_enumT {P : Program} {w : World} {K : PySem.W.Frag} {elts : List Expr} {kk : Nat} {tpos : Pos} (a e it : Addr) (its : List Value) (hia : a ≠ it) (hea : a ≠ e) :
    Turn P w K (.Tuple elts kk tpos) (Iteu K a) [e, it] e (fun i h => (∃ old, IsEnum h e it ((i : Nat) : Int) old) ∧ h.IsTupleIter it a i ∧ e ≠ it) where
  mem := List.mem_cons_self
  obj := fun i h st b hb => by
    obtain ⟨⟨old, he⟩, ⟨ob, ho, _, hd⟩, _⟩ := st
    rcases List.mem_cons.mp hb with z | z
    · subst z; exact ⟨_, he, fun v q => nomatch q⟩
    · have z' : b = it := by simpa using z
      subst z'
      exact ⟨ob, ho, fun v q => by rw [hd] at q; cases q⟩
  keep := fun i h h' st k => by
    obtain ⟨⟨old, he⟩, ⟨ob, ho, hc, hd⟩, hne⟩ := st
    exact ⟨⟨old, k e (by simp) _ he⟩, ⟨ob, k it (by simp) _ ho, hc, hd⟩, hne⟩
  item := by
    intro X hP hw hK hc i pins s σ H E I hf st hg
    subst hP hw hK
    obtain ⟨⟨old, he⟩, hit, hne⟩ := st
    obtain ⟨xs, x, hq, hx⟩ := hg
    obtain ⟨jts, rv, tp, hz⟩ := I.tuple hq
    obtain ⟨u, hu, ru⟩ := rv.get hx
    have ht : s.heap.IsTuple a jts.toArray := tp
    have hlt : i < jts.toArray.size := by
      have := (List.getElem?_eq_some_iff.mp hu).1
      simpa using this
    have hel : e < s.heap.objs.size := Heap.lt_size he
    have hil : it < s.heap.objs.size := by obtain ⟨_, q, _⟩ := hit; exact Heap.lt_size q
    have hal : a < s.heap.objs.size := by obtain ⟨_, q, _⟩ := ht; exact Heap.lt_size q
    have hh : (Around.in1 X.A).handled = none := I.ok.hd hc
    refine wpAny_pyNext_enum_itemD (Draws.tuple hh it a hia jts.toArray) he ⟨hit, ht⟩ hlt hne (by simp [hne, Ne.symm hea]) fun y h' tk hP ho hst hT hsz hk => ?_
    have ey : y = u := by
      have e1 : jts.toArray[i]? = some y := hP
      have e2 : jts.toArray[i]? = some u := by simpa using hu
      rw [e1] at e2; exact Option.some.inj e2
    subst ey
    refine ⟨_, rfl, wpAny_letOwnedTupleGo_enum (s := { s with heap := h', toks := tk + 1 }) ho fun h'' he' sb => ?_⟩
    have hT2 : h''.get? s.heap.objs.size = some { cls := .type "tuple", data := .seq #[.int i tk, y] } := (sb.2 _ (Nat.ne_of_gt hel)).trans hT
    have new : ObjOk X.prog X.w (upd H s.heap.objs.size (.tup [.int (i : Nat), x])) h'' s.heap.objs.size (.tup [.int (i : Nat), x]) :=
      ⟨by show 2 ≤ sizeLine; decide, [.int i tk, y], .cons ⟨_, rfl⟩ (.cons ru .nil), ⟨_, hT2, rfl, _, rfl⟩⟩
    have I1 : Inv X pins σ (upd H s.heap.objs.size (.tup [.int (i : Nat), x])) { s with heap := h'', toks := tk + 1 } :=
      I.turnedNew (ch := [e, it]) (fun b ob hb q => (sb.2 b (fun z => hb (by simp [z]))).trans (hk b ob (fun z => hb (by simp [z])) (fun z => hb (by simp [z])) q)) hf (Nat.le_refl _) new
    obtain ⟨⟨oi, hoi, hci, hdi⟩, _⟩ := hst
    refine ⟨.ref s.heap.objs.size, _, I1, rfl, ⟨_, x, rfl, I.hok.fresh (Nat.le_refl _), rfl, fun ys hy => by rw [I.tuple_inj hy hq]; exact hx⟩, ⟨⟨y, ?_⟩, ⟨oi, (sb.2 it (Ne.symm hne)).trans hoi, hci, hdi⟩, hne⟩, fun b hb => ?_⟩
    · have e1 : ((i + 1 : Nat) : Int) = (i : Int) + 1 := by omega
      rw [e1]; exact he'
    · have hb' : b < s.heap.objs.size := by
        rcases List.mem_cons.mp hb with z | z
        · rw [z]; exact hel
        · have z' : b = it := by simpa using z
          rw [z']; exact hil
      rw [upd_ne (Nat.ne_of_lt hb')]
      exact (hf b hb).1
  done := by
    intro X hP hw hK hc i pins s σ H E I hf st hg
    subst hP hw hK
    obtain ⟨⟨old, he⟩, hit, hne⟩ := st
    obtain ⟨xs, hq, hx⟩ := hg
    obtain ⟨jts, rv, tp, hz⟩ := I.tuple hq
    have ht : s.heap.IsTuple a jts.toArray := tp
    have hn : i = jts.toArray.size := by rw [List.size_toArray, ← rv.length]; exact hx.symm
    obtain ⟨f0, f1, f2, f3, f4, f5⟩ := hf it (by simp)
    have hh : (Around.in1 X.A).handled = none := I.ok.hd hc
    subst hn
    exact wpAny_pyNext_enum_endD (Draws.tuple hh it a hia jts.toArray) he ⟨hit, ht⟩ fun h' eb => ⟨rfl, I.turned (t' := s.toks) (fun b o hb q => eb b o hb q) f0 f1 f3 f4 f5⟩
  self := fun A i s Q E st h => by
    obtain ⟨⟨_, he⟩, _⟩ := st
    exact wpAny_pyIter_enum he h
def iEnumT (K : PySem.W.Frag) (te : TE) : TI := fun σ H R => te σ H fun x H1 => ∃ a xs, x = .ref a ∧ SqT K H1 a xs ∧ R (Iteu K a) H1
theorem pi_enumT {X : Cx} {e : Expr} {te : TE} {p pos tpos : Pos} {elts : List Expr} {kk : Nat} (hg : Gl X "enumerate") (hm : X.mg "enumerate" = none) (ha : PA X [e] (tCons te tNil)) (hs : starEach [e] X.env = [(false, eval e X.env)] := by rfl) :
    PI X (.Tuple elts kk tpos) (.Call (.Name "enumerate" p) [e] [] pos) (iEnumT X.K te) := by
  refine ⟨fun pins s σ H R I h => ?_⟩
  refine Call_ (ld_blt I hg hm boot_enumerate (PyProof.Rows.callWith_type1 (thn (ha.run pos pins s σ H (fun vs H1 => ∃ x, vs = [x] ∧ ∃ a xs, x = .ref a ∧ SqT X.K H1 a xs ∧ R (Iteu X.K a) H1) I ?_) fun us s1 ⟨vs, H1, I1, r1, q1⟩ => ?_) hs rfl))
  · have mono : ∀ (x : V) (H1 : Hp), (∃ a xs, x = .ref a ∧ SqT X.K H1 a xs ∧ R (Iteu X.K a) H1) → (∃ y, [x] = [y] ∧ ∃ a xs, y = .ref a ∧ SqT X.K H1 a xs ∧ R (Iteu X.K a) H1) := fun x H1 q => ⟨x, rfl, q⟩
    have e2 : (fun x H1 => ∃ y, [x] = [y] ∧ ∃ a xs, y = .ref a ∧ SqT X.K H1 a xs ∧ R (Iteu X.K a) H1) = (fun (x : V) (H1 : Hp) => ∃ a xs, x = .ref a ∧ SqT X.K H1 a xs ∧ R (Iteu X.K a) H1) := by
      funext x H1
      exact propext ⟨fun ⟨y, ey, q⟩ => by cases ey; exact q, mono x H1⟩
    show te σ H (fun x H1 => ∃ y, [x] = [y] ∧ ∃ a xs, y = .ref a ∧ SqT X.K H1 a xs ∧ R (Iteu X.K a) H1)
    rw [e2]
    exact h
  obtain ⟨x, ex, a, xs, e2, hq, q⟩ := q1
  subst ex
  cases r1 with
  | cons r rr =>
    cases rr
    subst e2
    cases r
    obtain ⟨jts, rv, tp, hz⟩ := I1.tuple hq
    have ht : s1.heap.IsTuple a jts.toArray := tp
    have hal : a < s1.heap.objs.size := by obtain ⟨_, z, _⟩ := ht; exact Heap.lt_size z
    refine enum_call1 (begins_tuple a jts.toArray) ht fun h' hE hI hk => wpAny_pyIter_enum hE ?_
    have I2 : Inv X pins σ H1 { s1 with heap := h' } := I1.kept (t' := s1.toks) hk
    refine ⟨s1.heap.objs.size + 1, [s1.heap.objs.size + 1, s1.heap.objs.size], _, _, H1, rfl, I2,
      turn_enumT a (s1.heap.objs.size + 1) s1.heap.objs.size jts (Nat.ne_of_lt hal) (Nat.ne_of_lt (Nat.lt_succ_of_lt hal)), ⟨⟨.none, hE⟩, ⟨_, hI, rfl, rfl⟩, Nat.succ_ne_self _⟩, fun b hb => ?_, q⟩
    have hle : s1.heap.objs.size ≤ b := by
      rcases List.mem_cons.mp hb with z | z
      · rw [z]; exact Nat.le_succ _
      · have z' : b = s1.heap.objs.size := by simpa using z
        rw [z']; exact Nat.le_refl _
    exact I1.fpOk hle (I1.hok.fresh hle)
section
variable {K : PySem.W.Frag} {Δ : Sl} {ta tb te : TE} {t : TA} {ds : List Dt}
/-! ### stars in a display -/
/-! ### isinstance -/
def tyN : Dt → String
  | .none => "NoneType"
  | .bool _ => "bool"
  | .int _ => "int"
  | .str _ => "str"
  | .list _ => "list"
  | .tuple _ => "tuple"
  | .dict _ => "dict"
theorem tyx_of {G H : Hp} {v : V} {d : Dt} (s : Gr G H) (h : Dp K G v d) : TyX K H v (.type (tyN d)) := by
  cases h with
  | non => exact .base .non
  | bl b => exact .base (.bl b)
  | int i => exact .base (.int i)
  | str x => exact .base (.str x)
  | lst h1 h2 =>
    rcases gr_l s h1 with (e | ⟨o, e⟩) | ⟨o, its, n, e, hc, _⟩
    · exact .base (.lst e)
    · exact .base (.frz e)
    · exact .kList e hc
  | tup h1 h2 =>
    rcases gr_t s h1 with (e | ⟨o, e⟩) | ⟨o, its, n, e, hc, _⟩
    · exact .base (.tup e)
    · exact .fTuple e
    · exact .kTuple e hc
def tCls (n : String) : TE := tC (.ty n)
/-! ### xs[i] += .., a list -/
/-! ### two clauses: [e for a in xs for b in f(a)] -/
end
end Sb

/-! Seamboard, layer 4: what a row of drawn numbers gives: any number below its bound. -/
namespace Sb
open PySem PySem.Spec PyProof.Rows L2

/-! ### the row: [the script, a count, a mix, a rest] -/
structure RowOk (K : PySem.W.Frag) (G H : Hp) (L : Addr) : Prop where
  g : G L = none
  at_ : ∃ (a : Addr) (ns : List Int) (i s r : Int), H L = some (.lst [.ref a, .int i, .int s, .int r]) ∧ SqL K G a (ns.map V.int) ∧ 0 ≤ i
structure StpR (L : Addr) (G H G2 H2 : Hp) : Prop where
  g : Gr G G2
  s : Gr G2 H2
  h : ∀ a o, a ≠ L → H a = some o → H2 a = some o
  f : ∀ a, H a ≠ none → G a = none → G2 a = none
section
variable {K : PySem.W.Frag} {L : Addr} {G H G1 H1 G2 H2 : Hp}
theorem Stp.row (s : Stp G H G2 H2) : StpR L G H G2 H2 := ⟨s.g, s.s, fun a o _ e => s.h a o e, s.f⟩
theorem StpR.refl (s : Gr G H) : StpR L G H G H := (Stp.refl s).row
theorem StpR.trans (a : StpR L G H G1 H1) (b : StpR L G1 H1 G2 H2) (hL : H1 L ≠ none) : StpR L G H G2 H2 :=
  ⟨a.g.trans b.g, b.s, fun x o n e => b.h x o n (a.h x o n e), fun x h1 h2 => b.f x (fun q => by
    by_cases e : x = L
    · exact hL (e ▸ q)
    · cases e2 : H x with
      | none => exact h1 e2
      | some o => rw [a.h x o e e2] at q; cases q) (a.f x h1 h2)⟩
theorem RowOk.there (r : RowOk K G H L) : H L ≠ none := by
  obtain ⟨a, ns, i, s, g, e, _⟩ := r.at_
  rw [e]; simp
theorem RowOk.step (r : RowOk K G H L) (s : Stp G H G2 H2) : RowOk K G2 H2 L := by
  refine ⟨s.f L r.there r.g, ?_⟩
  obtain ⟨a, ns, i, m, g, e, h1, h2⟩ := r.at_
  exact ⟨a, ns, i, m, g, s.h _ _ e, gr_l s.g h1, h2⟩
end
def ER (K : PySem.W.Frag) (L : Addr) (te : TE) (Δ : Sl) (P : Dt → Prop) : Prop :=
  ∀ (σ : L2.St) (G H : Hp) (Q : VK), En K G σ Δ → Gr G H → RowOk K G H L → (∀ v d G2 H2, StpR L G H G2 H2 → RowOk K G2 H2 L → P d → Dp K G2 v d → Q v H2) → te σ H Q
def ERA (K : PySem.W.Frag) (L : Addr) (ta : TA) (Δ : Sl) (P : List Dt → Prop) : Prop :=
  ∀ (σ : L2.St) (G H : Hp) (Q : List V → Hp → Prop), En K G σ Δ → Gr G H → RowOk K G H L → (∀ vs ds G2 H2, StpR L G H G2 H2 → RowOk K G2 H2 L → P ds → DpAll K G2 vs ds → Q vs H2) → ta σ H Q
def ERT (K : PySem.W.Frag) (L : Addr) (tt : TT) (Δ : Sl) (P : Bool → Prop) : Prop :=
  ∀ (σ : L2.St) (G H : Hp) (Q : Bool → Hp → Prop), En K G σ Δ → Gr G H → RowOk K G H L → (∀ b G2 H2, StpR L G H G2 H2 → RowOk K G2 H2 L → P b → Q b H2) → tt σ H Q
/-- a new list -/
def ERN (K : PySem.W.Frag) (L : Addr) (te : TE) (Δ : Sl) (P : List Dt → Prop) : Prop :=
  ∀ (σ : L2.St) (G H : Hp) (Q : VK), En K G σ Δ → Gr G H → RowOk K G H L → (∀ p vs ds G2 H2, StpR L G H G2 H2 → RowOk K G2 H2 L → P ds → G2 p = some (.lst vs) → DpAll K G2 vs ds → Q (.ref p) H2) → te σ H Q
section
variable {K : PySem.W.Frag} {L : Addr} {Δ : Sl} {ta tb te : TE} {t : TA} {tt tu : TT} {d : Dt} {ds : List Dt} {r : R2} {P PA PB : Dt → Prop} {PL PM : List Dt → Prop}
/-- the promise of a def that draws: the row first -/
def spR (K : PySem.W.Frag) (Pre : List Dt → Prop) (F : List Dt → Dt → Prop) : Sp := fun vs H Q _ => ∃ G L ws ds, vs = .ref L :: ws ∧ Gr G H ∧ RowOk K G H L ∧ DpAll K G ws ds ∧ Pre ds ∧
  ∀ v d G2 H2, F ds d → StpR L G H G2 H2 → RowOk K G2 H2 L → Dp K G2 v d → Q v H2
end
/-! ### statements that draw -/
def PostR (K : PySem.W.Frag) (L : Addr) (D : Ends) (G H : Hp) : Out → Prop
  | .nx Δ => ∀ σ G2 H2, StpR L G H G2 H2 → RowOk K G2 H2 L → En K G2 σ Δ → D.nx σ H2
  | .bk Δ => ∀ σ G2 H2, StpR L G H G2 H2 → RowOk K G2 H2 L → En K G2 σ Δ → D.bk σ H2
  | .ct Δ => ∀ σ G2 H2, StpR L G H G2 H2 → RowOk K G2 H2 L → En K G2 σ Δ → D.ct σ H2
  | .rt d => ∀ v G2 H2, StpR L G H G2 H2 → RowOk K G2 H2 L → Dp K G2 v d → D.rt v H2
  | .rl ds => ∀ p vs G2 H2, StpR L G H G2 H2 → RowOk K G2 H2 L → G2 p = some (.lst vs) → DpAll K G2 vs ds → D.rt (.ref p) H2
def SR (K : PySem.W.Frag) (L : Addr) (ts : TS) (Δ : Sl) (P : Out → Prop) : Prop := ∀ (D : Ends) (σ : L2.St) (G H : Hp), En K G σ Δ → Gr G H → RowOk K G H L → (∀ o, P o → PostR K L D G H o) → ts D σ H
section
variable {K : PySem.W.Frag} {L : Addr} {Δ Δ1 Δ2 : Sl} {t u w : TS} {te : TE} {o : Out} {d : Dt} {G H G1 H1 : Hp} {D : Ends} {P : Out → Prop} {PA : Dt → Prop} {PL : List Dt → Prop}
theorem PostR.step (s : StpR L G H G1 H1) (r : RowOk K G1 H1 L) (p : PostR K L D G H o) : PostR K L D G1 H1 o := by
  cases o with
  | nx Δ => exact fun σ G2 H2 s2 r2 e => p σ G2 H2 (s.trans s2 r.there) r2 e
  | bk Δ => exact fun σ G2 H2 s2 r2 e => p σ G2 H2 (s.trans s2 r.there) r2 e
  | ct Δ => exact fun σ G2 H2 s2 r2 e => p σ G2 H2 (s.trans s2 r.there) r2 e
  | rt d => exact fun v G2 H2 s2 r2 e => p v G2 H2 (s.trans s2 r.there) r2 e
  | rl ds => exact fun a vs G2 H2 s2 r2 h e => p a vs G2 H2 (s.trans s2 r.there) r2 h e
end
/-! ### a def of the text, told by its promise -/
structure Has (P : Program) (w : World) (K : PySem.W.Frag) (mg : Str → Option Value) (base : Heap) (x : Str) (k : Nat) (ps : List Str) (sp : Sp) : Prop where
  ex : ∃ f fd, FnOk P w K mg base CX0 k f fd ps sp ∧ mg x = some (.ref f) ∧ PySem.W.keepIn K (.ref f) = true ∧ Binds K fd ps []
structure TextFn (K : PySem.W.Frag) (x : Str) (st : Stmt) : Prop where
  ex : ∃ (f : Addr) (oc : Value) (od : Option Addr) (osl : Array (Option Value)) (kV dc pm : Value) (an : Option Addr) (cd ct : Value), PySem.W.nsIn K mainGlobals x = some (some (.ref f)) ∧
    K.lookup f = some ⟨oc, od, .func (PySem.W.fnOf x x (defArgs st) (defBody st) (defScope st) .none kV dc pm an cd ct), osl⟩ ∧ PySem.W.codeIn K cd x = true ∧ PySem.W.keepIn K (.ref f) = true
theorem textFn_mk {K : PySem.W.Frag} {x : Str} {st : Stmt} {f : Addr} {oc : Value} {od : Option Addr} {osl : Array (Option Value)} {kV dc pm : Value} {an : Option Addr} {cd ct : Value} (a : PySem.W.nsIn K mainGlobals x = some (some (.ref f)))
    (l : K.lookup f = some ⟨oc, od, .func (PySem.W.fnOf x x (defArgs st) (defBody st) (defScope st) .none kV dc pm an cd ct), osl⟩) (c : PySem.W.codeIn K cd x = true) (k : PySem.W.keepIn K (.ref f) = true) : TextFn K x st :=
  ⟨f, oc, od, osl, kV, dc, pm, an, cd, ct, a, l, c, k⟩
structure FnAt (K : PySem.W.Frag) (mg : Str → Option Value) (x : Str) (st : Stmt) : Prop where
  ex : ∃ f fd, Fun K x x st f fd ∧ mg x = some (.ref f)
theorem TextFn.at_ {K : PySem.W.Frag} {mg : Str → Option Value} {h : Heap} {x : Str} {st : Stmt} (t : TextFn K x st) (X : K.In h) (G : h.Ns mainGlobals mg) : FnAt K mg x st := by
  obtain ⟨f, oc, od, osl, kV, dc, pm, an, cd, ct, a, l, c, k⟩ := t.ex
  exact ⟨f, _, fun_mk (st := st) l c k, PySem.W.mg_of X G a⟩
/-- how the arguments bind: one word a def -/
def BindsAt (x : Str) (st : Stmt) (ps : List Str) : Prop :=
  ∀ (kV doc pm : Value) (an : Option Addr) (cdv ct : Value) (us : List Value), us.length = ps.length → bindArgs (PySem.W.fnOf x x (defArgs st) (defBody st) (defScope st) .none kV doc pm an cdv ct) ⟨us, []⟩ = pure (ps.zip us)
section
variable {P : Program} {w : World} {K : PySem.W.Frag} {mg : Str → Option Value} {base : Heap} {x : Str} {st : Stmt} {N ps : List Str} {k : Nat}
/-- .. for one that hands back a new list -/
def spDL (K : PySem.W.Frag) (F : List Dt → List Dt → Prop) : Sp := fun vs H Q _ => ∃ G ds es, Gr G H ∧ DpAll K G vs ds ∧ F ds es ∧ ∀ p us G2 H2, Stp G H G2 H2 → G2 p = some (.lst us) → DpAll K G2 us es → Q (.ref p) H2
end
section
variable {X : Cx} {x : Str} {k : Nat} {ps : List Str} {sp : Sp} {p pos : Pos} {e : Expr} {es : List Expr} {t : TA}
/-- a call of such a def -/
theorem ca (h : Has X.prog X.w X.K X.mg X.base x k ps sp) (hr : Room k X.A) (hg : Gl X x) (ha : PA X (e :: es) t) (hdb : (x == ("__debug__" : Str)) = false := by decide) (he : starEach (e :: es) X.env = (false, eval e X.env) :: starEach es X.env := by rfl)
    (hpl : (backTo pos (starEach es X.env)).any (·.1) = false := by rfl) : PE X (.Call (.Name x p) (e :: es) [] pos) (tCall sp [] E0 t) := by
  obtain ⟨f, fd, F, hm, hk, hb⟩ := h.ex
  exact pe_call F hr hg hm hk hb .nil pass0 ha hdb he hpl
end
/-! ### the law itself -/
def spLaw (K : PySem.W.Frag) : Sp := fun vs H Q _ => ∃ (a : Addr) (ns : List Int), vs = [.ref a] ∧ SqL K H a (ns.map V.int) ∧ ns.length ≤ 63 ∧ ∀ H', Q (.bl true) H'
end Sb

/-! Seamboard, layer 5: shapes of data, sets as chosen numbers. -/
namespace Sb
open PySem PySem.Spec PyProof.Rows L2
/-! ### the rules that name the written part, by K itself (a block of a comprehension has the same one) -/
section
variable {X : Cx} {K : PySem.W.Frag} {tg l e o : Expr} {es : List Expr} {tl te to : TE} {t : TA}
theorem pi_listK (q : X.K = K) (h : PE X l tl) : PI X tg l (iList K tl) := q ▸ pi_list h
theorem pi_enumTK {p pos tpos : Pos} {elts : List Expr} {kk : Nat} (q : X.K = K) (hg : Gl X "enumerate") (hm : X.mg "enumerate" = none) (ha : PA X [e] (tCons te tNil)) (hs : starEach [e] X.env = [(false, eval e X.env)] := by rfl) :
    PI X (.Tuple elts kk tpos) (.Call (.Name "enumerate" p) [e] [] pos) (iEnumT K te) := q ▸ pi_enumT hg hm ha hs
theorem op_eqK (q : X.K = K) (hu : X.A.units + 64 < cLine) : OpR X (compareOp .Eq) (rEqD K) := q ▸ op_eqD hu
theorem op_neK (q : X.K = K) (hu : X.A.units + 64 < cLine) : OpR X (compareOp .NotEq) (rNeD K) := q ▸ op_neD hu
theorem op_niK (q : X.K = K) : OpR X (compareOp .NotIn) (rIn K true) := q ▸ op_notIn_seq
theorem op_catAK (q : X.K = K) : OpR X (binaryOp .Add) (rCatA K) := q ▸ op_catA
theorem ix_tupK (q : X.K = K) : IxR X (rIxT K) := q ▸ ix_tup
theorem ix_listK (q : X.K = K) : IxR X (rIxL K) := q ▸ ix_list
def rIxO (K : PySem.W.Frag) : R2 := fun x y H Q => rIxT K x y H Q ∨ rIxL K x y H Q
theorem ix_orK (q : X.K = K) : IxR X (rIxO K) := q ▸ ix_tup.or ix_list
def rLen (K : PySem.W.Frag) : List V → Hp → VK → Prop := fun xs H Q => ∃ p ys, xs = [.ref p] ∧ (SqL K H p ys ∨ SqT K H p ys) ∧ Q (.int ys.length) H
def rTupOf (K : PySem.W.Frag) : List V → Hp → VK → Prop := fun xs H Q => ∃ p ys, xs = [.ref p] ∧ ((SqL K H p ys ∧ ∀ l, H l = none → Q (.ref l) (upd H l (.tup ys))) ∨ (SqT K H p ys ∧ Q (.ref p) H))
def rListOf (K : PySem.W.Frag) : List V → Hp → VK → Prop := fun xs H Q => ∃ p ys, xs = [.ref p] ∧ (SqL K H p ys ∨ SqT K H p ys) ∧ ∀ l, H l = none → Q (.ref l) (upd H l (.lst ys))
theorem kc_len (q : X.K = K) : CallR X (.builtin "len") (rLen K) := q ▸ call_len_seq
theorem kc_tup (q : X.K = K) : CallR X (.type "tuple") (rTupOf K) := q ▸ call_tuple_of
theorem kc_list (q : X.K = K) : CallR X (.type "list") (rListOf K) := q ▸ call_list_of
theorem kc_isi (q : X.K = K) : CallR X (.builtin "isinstance") (rIsi K) := q ▸ call_isi
theorem kc_isiT (q : X.K = K) : CallR X (.builtin "isinstance") (rIsiT K) := q ▸ call_isiT
theorem kc_sorted (q : X.K = K) : CallR X (.builtin "sorted") (rSortedI K) := q ▸ cr_sortedI
theorem pa_starK {p : Pos} (q : X.K = K) (he : PE X e te) (hr : PA X es t) (hs : starEach (.Starred e p :: es) X.env = (true, eval e X.env) :: starEach es X.env := by rfl) : PA X (.Starred e p :: es) (StX.tStar K te t) := q ▸ StX.pa_star he hr hs
end
section
variable {K : PySem.W.Frag} {Δ : Sl} {t u : TS} {te : TE} {o : Out} {d : Dt} {ds : List Dt}
end
theorem cmul {i j : Int} (h : -1000000000000 ≤ i ∧ i ≤ 1000000000000) : CMul i j := by
  have e : (2 : Int) ^ 64 = 18446744073709551616 := by decide
  refine .inl ⟨?_, ?_⟩ <;> rw [e] <;> omega
theorem cmul' {i j : Int} (h : -1000000000000 ≤ j ∧ j ≤ 1000000000000) : CMul i j := by
  have e : (2 : Int) ^ 64 = 18446744073709551616 := by decide
  refine .inr ⟨?_, ?_⟩ <;> rw [e] <;> omega
theorem Sx.go {K : PySem.W.Frag} {ts : TS} {Δ : Sl} {o : Out} {D : Ends} {σ : L2.St} {G H : Hp} (h : Sx K ts Δ o) (e : En K G σ Δ) (s : Gr G H) (p : Post K D G H o) : ts D σ H := h D σ G H e s p
/-- a tuple of ints; a board -/
abbrev ti (ns : List Int) : Dt := .tuple (ns.map .int)
abbrev li (ns : List Int) : Dt := .list (ns.map .int)
abbrev bd (r c : Int) : Dt := .tuple [.int r, .int c]
/-- the numbers below n that f takes -/
def sel (n : Nat) (f : Nat → Bool) : List Int := ((List.range n).filter f).map fun (k : Nat) => (k : Int)
theorem sel_len (n : Nat) (f : Nat → Bool) : (sel n f).length ≤ n := by
  unfold sel
  rw [List.length_map]
  exact Nat.le_trans (List.length_filter_le _ _) (by rw [List.length_range]; exact Nat.le_refl _)
theorem mem_sel {n : Nat} {f : Nat → Bool} {x : Int} : x ∈ sel n f ↔ ∃ k : Nat, x = k ∧ k < n ∧ f k = true := by
  unfold sel
  rw [List.mem_map]
  constructor
  · rintro ⟨k, hk, rfl⟩
    rw [List.mem_filter, List.mem_range] at hk
    exact ⟨k, rfl, hk.1, hk.2⟩
  · rintro ⟨k, rfl, h1, h2⟩
    exact ⟨k, by rw [List.mem_filter, List.mem_range]; exact ⟨h1, h2⟩, rfl⟩
theorem sel_rise (n : Nat) (f : Nat → Bool) : (sel n f).Pairwise (· < ·) := by
  unfold sel
  refine List.Pairwise.map _ (fun a b (h : a < b) => ?_) (List.Pairwise.filter _ List.pairwise_lt_range)
  omega
/-- a rising list is what its members choose -/
theorem rise_eq : ∀ {l m : List Int}, l.Pairwise (· < ·) → m.Pairwise (· < ·) → (∀ x, x ∈ l ↔ x ∈ m) → l = m := fun {l m} h1 h2 h => by
  have n1 : l.Nodup := h1.imp fun h => Int.ne_of_lt h
  have n2 : m.Nodup := h2.imp fun h => Int.ne_of_lt h
  exact pw_uniq ((List.perm_ext_iff_of_nodup n1 n2).mpr h) (h1.imp fun h => Int.le_of_lt h) (h2.imp fun h => Int.le_of_lt h)
theorem sel_of {n : Nat} {l : List Int} (h : l.Pairwise (· < ·)) (hb : ∀ x ∈ l, 0 ≤ x ∧ x < n) : l = sel n fun k => hasI (k : Int) l := rise_eq h (sel_rise _ _) fun x => by
  rw [mem_sel]
  constructor
  · intro hx
    obtain ⟨h0, h1⟩ := hb x hx
    refine ⟨x.toNat, by omega, by omega, ?_⟩
    have e : ((x.toNat : Nat) : Int) = x := by omega
    rw [e]
    exact List.elem_eq_true_of_mem hx
  · rintro ⟨k, rfl, _, hk⟩
    exact List.mem_of_elem_eq_true hk
/-! ### equal data -/
theorem can_ints : ∀ ns : List Int, PyData.canLayAll0 (ns.map PyData.int) = true
  | [] => rfl
  | n :: ns => by
    rw [List.map_cons]
    show (PyData.canLay0 (.int n) && PyData.canLayAll0 (ns.map PyData.int)) = true
    rw [can_ints ns]; rfl
theorem depth_ints : ∀ ns : List Int, PyData.depthAll (ns.map PyData.int) = 0
  | [] => rfl
  | n :: ns => by
    rw [List.map_cons]
    show max 0 (PyData.depthAll (ns.map PyData.int)) = 0
    rw [depth_ints ns]; rfl
theorem eqv_int (a b : Int) : PyData.eqv (.int a) (.int b) = decide (a = b) := by
  show (a == b) = decide (a = b)
  exact Bool.beq_eq_decide_eq a b
/-! ### draws within calls that draw nothing; tests that draw -/
section
variable {K : PySem.W.Frag} {L : Addr} {Δ Δ1 : Sl} {ta te : TE} {t : TA} {tt tu : TT} {u v : TS} {P : Out → Prop}
end
section
variable {K : PySem.W.Frag} {Δ : Sl} {te : TE} {x z : Dt} {xs : List Dt} {t u : TS}
def kTL : Dt → Bool
  | .tuple _ => true
  | .list _ => true
  | _ => false
theorem kit_TL (K : PySem.W.Frag) : ∀ x : Dt, PySem.W.kitAny K (.type (tyN x)) [.type "tuple", .type "list"] = some (kTL x)
  | .none => kitAny_cons (kit_ty (by decide +kernel : kitB "NoneType" "tuple" = some false)) (fun _ => kitAny_cons (kit_ty (by decide +kernel : kitB "NoneType" "list" = some false)) (fun _ => rfl) fun h => nomatch h) fun h => nomatch h
  | .bool _ => kitAny_cons (kit_ty (by decide +kernel : kitB "bool" "tuple" = some false)) (fun _ => kitAny_cons (kit_ty (by decide +kernel : kitB "bool" "list" = some false)) (fun _ => rfl) fun h => nomatch h) fun h => nomatch h
  | .int _ => kitAny_cons (kit_ty (by decide +kernel : kitB "int" "tuple" = some false)) (fun _ => kitAny_cons (kit_ty (by decide +kernel : kitB "int" "list" = some false)) (fun _ => rfl) fun h => nomatch h) fun h => nomatch h
  | .str _ => kitAny_cons (kit_ty (by decide +kernel : kitB "str" "tuple" = some false)) (fun _ => kitAny_cons (kit_ty (by decide +kernel : kitB "str" "list" = some false)) (fun _ => rfl) fun h => nomatch h) fun h => nomatch h
  | .list _ => kitAny_cons (kit_ty (by decide +kernel : kitB "list" "tuple" = some false)) (fun _ => kitAny_cons (kit_ty (by decide +kernel : kitB "list" "list" = some true)) (fun h => nomatch h) fun _ => rfl) fun h => nomatch h
  | .tuple _ => kitAny_cons (kit_ty (by decide +kernel : kitB "tuple" "tuple" = some true)) (fun h => nomatch h) fun _ => rfl
  | .dict _ => kitAny_cons (kit_ty (by decide +kernel : kitB "dict" "tuple" = some false)) (fun _ => kitAny_cons (kit_ty (by decide +kernel : kitB "dict" "list" = some false)) (fun _ => rfl) fun h => nomatch h) fun h => nomatch h
/-- isinstance(x, (tuple, list)) -/
theorem ev_isiTL (h : Ev K te Δ x) : Ev K (tCB (rIsiT K) (tCons te (tCons (tTup (tCons (tC (.ty "tuple")) (tCons (tC (.ty "list")) tNil))) tNil))) Δ (.bool (kTL x)) := fun σ G H Q e s q => h σ G H _ e s fun v G1 H1 s1 dv =>
  ⟨by show 2 ≤ sizeLine; decide, fun p hp => ⟨v, p, [.ty "tuple", .ty "list"], _, [.type "tuple", .type "list"], kTL x, rfl, upd_same, .cons (.ty _) (.cons (.ty _) .nil), tyx_of (s1.s.trans (.new hp)) dv, kit_TL K x, q _ _ _ (s1.trans (.hid s1.s hp)) (.bl _)⟩⟩
end
end Sb

/-! Seamboard, layer 6: texts. -/
namespace Sb
open PySem PySem.Spec PyProof.Rows L2
abbrev dS (z : Str) : Dt := .str z
/-- one sign -/
abbrev sg (c : Nat) : Str := ⟨#[c]⟩
def rCatS : R2 := fun x y H Q => ∃ i j, x = .str i ∧ y = .str j ∧ i.length + j.length ≤ sizeLine ∧ Q (.str (i ++ j)) H
def rLenS : List V → Hp → VK → Prop := fun xs H Q => ∃ z, xs = [.str z] ∧ z.length ≤ sizeLine ∧ Q (.int z.length) H
def rInC : R2 := fun x y H Q => ∃ (c : Nat) (z : Str), x = .str ⟨#[c]⟩ ∧ y = .str z ∧ Q (.bl (decide (c ∈ z.cps.toList))) H
def rNiC : R2 := fun x y H Q => ∃ (c : Nat) (z : Str), x = .str ⟨#[c]⟩ ∧ y = .str z ∧ Q (.bl (!decide (c ∈ z.cps.toList))) H
def rJoin (K : PySem.W.Frag) : V → List V → Hp → VK → Prop := fun x xs H Q => ∃ a p, ∃ ys : List Str, x = .str a ∧ xs = [.ref p] ∧ (SqL K H p (ys.map V.str) ∨ SqT K H p (ys.map V.str)) ∧
  (ys.map (·.length)).sum + ys.length * a.length ≤ 16777216 ∧ Q (.str (Txt.join a ys)) H
def rSplit : V → List V → Hp → VK → Prop := fun x xs H Q => ∃ a b, x = .str a ∧ xs = [.str b] ∧ (b.length == 0) = false ∧ a.length + 2 ≤ sizeLine ∧ rNewStrs (Txt.split a b) H Q
section
variable {X : Cx} {K : PySem.W.Frag} {o e : Expr} {to te : TE}
theorem kc_lenS : CallR X (.builtin "len") rLenS := call_len_str
theorem op_inC : OpR X (compareOp .In) rInC := op_in_sign
end
section
variable {K : PySem.W.Frag} {Δ : Sl} {ta tb te to : TE} {xs ds : List Dt}
theorem rc_lenS {z : Str} (h : z.length ≤ 100000) : RC K rLenS [.str z] (.int (z.length : Int)) := fun G H vs Q s h2 q => by
  cases h2 with
  | cons a b => cases b; cases a; exact ⟨z, rfl, Evl.sz_of h, q _ G H (.refl s) (.int _)⟩
theorem rv_inC {c : Nat} {z : Str} : RV K rInC (.str (sg c)) (.str z) (.bool (decide (c ∈ z.cps.toList))) := fun G H v u Q s x y q => by
  cases x; cases y; exact ⟨c, z, rfl, rfl, q _ G H (.refl s) (.bl _)⟩
/-- a text, a number, a truth or none among such -/
def flatD : Dt → Bool
  | .none => true
  | .bool _ => true
  | .int _ => true
  | .str _ => true
  | _ => false
def inD (x : Dt) (ys : List Dt) : Bool := ys.any fun y => PyData.eqv y x
theorem flat_v {G : Hp} {v : V} {d : Dt} (h : Dp K G v d) (f : flatD d = true) : flatV v = true := by cases h <;> first | rfl | cases f
theorem flats_v {G : Hp} : ∀ {vs : List V} {ds : List Dt}, DpAll K G vs ds → ds.all flatD = true → vs.all flatV = true
  | _, _, .nil, _ => rfl
  | _, _, .cons a b, f => by
    rw [List.all_cons, Bool.and_eq_true] at f
    rw [List.all_cons, flat_v a f.1, flats_v b f.2]; rfl
theorem eqv_v {G : Hp} {v u : V} {x y : Dt} (hx : Dp K G v x) (hy : Dp K G u y) (fx : flatD x = true) (fy : flatD y = true) : eqV v u = PyData.eqv x y := by
  cases hx <;> cases hy <;> first | rfl | (exfalso; cases fx; done) | (exfalso; cases fy; done)
theorem inV_v {G : Hp} {v : V} {x : Dt} (hx : Dp K G v x) (fx : flatD x = true) : ∀ {vs : List V} {ds : List Dt}, DpAll K G vs ds → ds.all flatD = true → inV v vs = inD x ds
  | _, _, .nil, _ => rfl
  | _, _, .cons a b, f => by
    rw [List.all_cons, Bool.and_eq_true] at f
    have ih := inV_v hx fx b f.2
    unfold inV inD at ih ⊢
    rw [List.any_cons, List.any_cons, ih, eqv_v a hx f.1 fx]
end
end Sb

/-! Seamboard, layer 7: lists that change, kept apart from what stands for good. -/
namespace Sb
open PySem PySem.Spec PyProof.Rows L2
inductive Mo where
  | l (ds : List Dt)
  | d (kds : List (Key × Dt))
/-- a dict's pairs: the same keys, the values as data -/
inductive KdOk (K : PySem.W.Frag) (G : Hp) : List (Key × V) → List (Key × Dt) → Prop where
  | nil : KdOk K G [] []
  | cons {k : Key} {v : V} {d : Dt} {kvs : List (Key × V)} {kds : List (Key × Dt)} : Dp K G v d → KdOk K G kvs kds → KdOk K G ((k, v) :: kvs) ((k, d) :: kds)
def MoOk (K : PySem.W.Frag) (G : Hp) (o : HO) : Mo → Prop
  | .l ds => ∃ vs, o = .lst vs ∧ DpAll K G vs ds
  | .d kds => ∃ kvs, o = .dK kvs ∧ KdOk K G kvs kds
theorem kd_up {K : PySem.W.Frag} {G G2 : Hp} (e : Gr G G2) : ∀ {kvs : List (Key × V)} {kds : List (Key × Dt)}, KdOk K G kvs kds → KdOk K G2 kvs kds
  | _, _, .nil => .nil
  | _, _, .cons a b => .cons (Dpu a e) (kd_up e b)
abbrev Mt := List (Addr × Mo)
/-- M lies apart: new since H0, not among G -/
structure Own (K : PySem.W.Frag) (H0 G H : Hp) (M : Mt) : Prop where
  nd : (M.map (·.1)).Nodup
  at_ : ∀ p m, (p, m) ∈ M → H0 p = none ∧ G p = none ∧ ∃ o, H p = some o ∧ MoOk K G o m
inductive OutM where
  | nx (Δ : Sl) (M : Mt) | bk (Δ : Sl) (M : Mt) | ct (Δ : Sl) (M : Mt) | rt (d : Dt) | rl (ds : List Dt)
def PostM (K : PySem.W.Frag) (D : Ends) (G0 H0 : Hp) : OutM → Prop
  | .nx Δ M => ∀ σ G H, Stp G0 H0 G H → En K G σ Δ → Own K H0 G H M → D.nx σ H
  | .bk Δ M => ∀ σ G H, Stp G0 H0 G H → En K G σ Δ → Own K H0 G H M → D.bk σ H
  | .ct Δ M => ∀ σ G H, Stp G0 H0 G H → En K G σ Δ → Own K H0 G H M → D.ct σ H
  | .rt d => ∀ v G H, Stp G0 H0 G H → Dp K G v d → D.rt v H
  | .rl ds => ∀ p vs G H, Stp G0 H0 G H → G p = some (.lst vs) → DpAll K G vs ds → D.rt (.ref p) H
def SM (K : PySem.W.Frag) (t : TS) (Δ : Sl) (M : Mt) (o : OutM) : Prop :=
  ∀ (D : Ends) (σ : L2.St) (G0 H0 G H : Hp), Stp G0 H0 G H → En K G σ Δ → Own K H0 G H M → PostM K D G0 H0 o → t D σ H
def Out.wM : Out → Mt → OutM
  | .nx Δ, M => .nx Δ M
  | .bk Δ, M => .bk Δ M
  | .ct Δ, M => .ct Δ M
  | .rt d, _ => .rt d
  | .rl ds, _ => .rl ds
section
variable {K : PySem.W.Frag} {G0 H0 G H G2 H2 : Hp} {M M1 M2 : Mt} {Δ Δ1 Δ2 : Sl} {σ : L2.St} {t u : TS} {o : OutM} {p : Addr} {d : Dt} {ds : List Dt} {te ta tb : TE} {tt : TT} {m : Mo}
theorem moOk_up {a : HO} (h : MoOk K G a m) (e : Gr G G2) : MoOk K G2 a m := by
  cases m with
  | l ds => obtain ⟨vs, a, b⟩ := h; exact ⟨vs, a, Dpsu b e⟩
  | d kds => obtain ⟨kvs, a, b⟩ := h; exact ⟨kvs, a, kd_up e b⟩
theorem Own.step (w : Own K H0 G H M) (s : Stp G H G2 H2) : Own K H0 G2 H2 M :=
  ⟨w.nd, fun p m hm => by
    obtain ⟨a, b, o, c, e⟩ := w.at_ p m hm
    exact ⟨a, s.f p (by rw [c]; simp) b, o, s.h p o c, moOk_up e s.g⟩⟩
theorem Own.nil : Own K H0 G H [] := ⟨List.nodup_nil, fun _ _ h => nomatch h⟩
theorem Own.sub (w : Own K H0 G H M) (s : M2.Sublist M) : Own K H0 G H M2 := ⟨List.Sublist.nodup (s.map _) w.nd, fun p m hm => w.at_ p m (s.subset hm)⟩
/-! reading -/
inductive Fz (M : Mt) (Δ : Sl) : Sl → Prop
  | refl : Fz M Δ Δ
  | step {Δ' : Sl} (i : Nat) (p : Addr) (ds : List Dt) : Fz M Δ Δ' → Δ[i]? = some (some (.r p)) → (p, Mo.l ds) ∈ M → Fz M Δ (Δ'.set i (some (.l ds)))
def allG (G H : Hp) (M : Mt) : Hp := fun a => if a ∈ M.map (·.1) then H a else G a
def EvM (K : PySem.W.Frag) (te : TE) (Δ : Sl) (M : Mt) (d : Dt) : Prop :=
  ∀ (σ : L2.St) (H0 G H : Hp) (Q : VK), En K G σ Δ → Gr G H → Own K H0 G H M → (∀ v G2 H2, Stp G H G2 H2 → Dp K G2 v d → Q v H2) → te σ H Q
def EvTM (K : PySem.W.Frag) (tt : TT) (Δ : Sl) (M : Mt) (b : Bool) : Prop :=
  ∀ (σ : L2.St) (H0 G H : Hp) (Q : Bool → Hp → Prop), En K G σ Δ → Gr G H → Own K H0 G H M → (∀ G2 H2, Stp G H G2 H2 → Q b H2) → tt σ H Q
/-! statements -/
def lowH (H : Hp) (M : Mt) : Hp := fun a => if a ∈ M.map (·.1) then none else H a
end
end Sb

/-! Seamboard, layer 8: stores, loops, dicts, of what changes. -/
namespace Sb
open PySem PySem.Spec PyProof.Rows L2
section
variable {K : PySem.W.Frag} {G0 H0 G H G2 H2 : Hp} {M M1 M2 : Mt} {Δ Δ1 Δ2 : Sl} {σ : L2.St} {t u tb : TS} {o : OutM} {p : Addr} {d : Dt} {ds : List Dt} {te tk : TE} {tt : TT} {m : Mo}
/-- a for that is left at turn n: what its last turn comes to -/
def OutM.up : OutM → OutM
  | .bk Δ M => .nx Δ M
  | o => o
/-! dicts with keys that are numbers or texts -/
def getK (kds : List (Key × Dt)) (k : Key) : Option Dt := (kds.find? fun kd => decide (kd.1 = k)).map (·.2)
def putD (kds : List (Key × Dt)) (k : Key) (d : Dt) : List (Key × Dt) := if (kds.any fun kd => decide (kd.1 = k)) = true then kds.map (fun kd => if kd.1 = k then (kd.1, d) else kd) else kds ++ [(k, d)]
def kD : Key → Dt
  | .inl i => .int i
  | .inr x => .str x
end
end Sb

/-! Seamboard, layer 9: defs with arguments that are handed in by name alone. -/
namespace Sb
open PySem PySem.Spec PyProof.Rows L2
structure TextFnK (K : PySem.W.Frag) (x : Str) (st : Stmt) (kws : List (Str × V)) : Prop where
  ex : ∃ (f D : Addr) (oc : Value) (od : Option Addr) (osl : Array (Option Value)) (dc pm : Value) (an : Option Addr) (cd ct : Value), PySem.W.nsIn K mainGlobals x = some (some (.ref f)) ∧
    K.lookup f = some ⟨oc, od, .func (PySem.W.fnOf x x (defArgs st) (defBody st) (defScope st) .none (.ref D) dc pm an cd ct), osl⟩ ∧ PySem.W.codeIn K cd x = true ∧ PySem.W.keepIn K (.ref f) = true ∧ ∀ q ∈ kws, ∃ u, PySem.W.nsIn K D q.1 = some (some u) ∧ RelV q.2 u
section
variable {K : PySem.W.Frag} {x : Str} {st : Stmt} {f D : Addr} {oc : Value} {od : Option Addr} {osl : Array (Option Value)} {dc pm : Value} {an : Option Addr} {cd ct : Value}
end
structure FnAtK (K : PySem.W.Frag) (mg : Str → Option Value) (x : Str) (st : Stmt) (kws : List (Str × V)) : Prop where
  ex : ∃ f fd, FunD K x x (defArgs st) (defBody st) (defScope st) [] kws f fd ∧ Fun K x x st f fd ∧ mg x = some (.ref f)
theorem TextFnK.at_ {K : PySem.W.Frag} {mg : Str → Option Value} {h : Heap} {x : Str} {st : Stmt} {kws : List (Str × V)} (t : TextFnK K x st kws) (X : K.In h) (G : h.Ns mainGlobals mg) : FnAtK K mg x st kws := by
  obtain ⟨f, D, oc, od, osl, dc, pm, an, cd, ct, a, l, c, k, d⟩ := t.ex
  exact ⟨f, _, ⟨⟨oc, od, .none, .ref D, dc, pm, an, cd, ct, osl, rfl, l, c, .inl ⟨rfl, rfl⟩, .inr ⟨D, rfl, d⟩⟩, k⟩, fun_mk (st := st) l c k, PySem.W.mg_of X G a⟩
structure HasK (P : Program) (w : World) (K : PySem.W.Frag) (mg : Str → Option Value) (base : Heap) (x : Str) (k : Nat) (ps : List Str) (st : Stmt) (kws : List (Str × V)) (sp : Sp) : Prop where
  ex : ∃ f fd, FnOk P w K mg base CX0 k f fd ps sp ∧ mg x = some (.ref f) ∧ PySem.W.keepIn K (.ref f) = true ∧ FunD K x x (defArgs st) (defBody st) (defScope st) [] kws f fd
section
variable {P : Program} {w : World} {K : PySem.W.Frag} {mg : Str → Option Value} {base : Heap} {x : Str} {st : Stmt} {N ps : List Str} {k : Nat} {kws : List (Str × V)}
end
section
variable {X : Cx} {x : Str} {k n : Nat} {ps ks : List Str} {sp : Sp} {p pos : Pos} {e : Expr} {es : List Expr} {t tk : TA} {st : Stmt} {kws : List (Str × V)} {kwe : List Keyword}
end
section
variable {K : PySem.W.Frag} {Δ : Sl} {t tk : TA} {ds ms zs : List Dt} {d : Dt} {F : List Dt → Dt → Prop} {E : XK}
end
end Sb

/-! Seamboard, layer 10: counts in texts. -/
namespace Sb
open PySem PySem.Spec PyProof.Rows L2
def rCountS : V → List V → Hp → VK → Prop := fun x xs H Q => ∃ a b, x = .str a ∧ xs = [.str b] ∧ Q (.int (Txt.count a b)) H
section
variable {X : Cx} {K : PySem.W.Frag} {Δ : Sl} {o e : Expr} {to te : TE}
end
end Sb

/-! Seamboard, layer F1: what a text does, as a function of what its names hold. -/
namespace Sb
open PySem PySem.Spec PyProof.Rows L2

/-! ### data laid so that every list is tracked -/
mutual
inductive Dq (K : PySem.W.Frag) (G : Hp) : V → Dt → Prop where
  | non : Dq K G .non .none
  | bl (b : Bool) : Dq K G (.bl b) (.bool b)
  | int (i : Int) : Dq K G (.int i) (.int i)
  | str (x : Str) : Dq K G (.str x) (.str x)
  | lst {a : Addr} {vs : List V} {ds : List Dt} : G a = some (.lst vs) → DqAll K G vs ds → Dq K G (.ref a) (.list ds)
  | tup {a : Addr} {vs : List V} {ds : List Dt} : SqT K G a vs → DqAll K G vs ds → Dq K G (.ref a) (.tuple ds)
inductive DqAll (K : PySem.W.Frag) (G : Hp) : List V → List Dt → Prop where
  | nil : DqAll K G [] []
  | cons {v : V} {vs : List V} {d : Dt} {ds : List Dt} : Dq K G v d → DqAll K G vs ds → DqAll K G (v :: vs) (d :: ds)
end
mutual
theorem dq_up {K : PySem.W.Frag} {H H' : Hp} (e : Gr H H') : ∀ (d : Dt) (v : V), Dq K H v d → Dq K H' v d
  | .none, _, h => by cases h; exact .non
  | .bool b, _, h => by cases h; exact .bl b
  | .int i, _, h => by cases h; exact .int i
  | .str x, _, h => by cases h; exact .str x
  | .list ds, _, h => by cases h with | lst a b => exact .lst (e _ _ a) (dqs_up e ds _ b)
  | .tuple ds, _, h => by cases h with | tup a b => exact .tup (gr_t e a) (dqs_up e ds _ b)
  | .dict _, _, h => by cases h
theorem dqs_up {K : PySem.W.Frag} {H H' : Hp} (e : Gr H H') : ∀ (ds : List Dt) (vs : List V), DqAll K H vs ds → DqAll K H' vs ds
  | [], _, h => by cases h; exact .nil
  | d :: ds, _, h => by cases h with | cons a b => exact .cons (dq_up e d _ a) (dqs_up e ds _ b)
end
mutual
theorem dq_dp {K : PySem.W.Frag} {H : Hp} : ∀ (d : Dt) (v : V), Dq K H v d → Dp K H v d
  | .none, _, h => by cases h; exact .non
  | .bool b, _, h => by cases h; exact .bl b
  | .int i, _, h => by cases h; exact .int i
  | .str x, _, h => by cases h; exact .str x
  | .list ds, _, h => by cases h with | lst a b => exact .lst (SqL.of a) (dqs_dps ds _ b)
  | .tuple ds, _, h => by cases h with | tup a b => exact .tup a (dqs_dps ds _ b)
  | .dict _, _, h => by cases h
theorem dqs_dps {K : PySem.W.Frag} {H : Hp} : ∀ (ds : List Dt) (vs : List V), DqAll K H vs ds → DpAll K H vs ds
  | [], _, h => by cases h; exact .nil
  | d :: ds, _, h => by cases h with | cons a b => exact .cons (dq_dp d _ a) (dqs_dps ds _ b)
end
section
variable {K : PySem.W.Frag} {H H' : Hp} {v : V} {vs : List V} {d : Dt} {ds : List Dt}
theorem Dqu (h : Dq K H v d) (e : Gr H H') : Dq K H' v d := dq_up e d v h
theorem Dqsu (h : DqAll K H vs ds) (e : Gr H H') : DqAll K H' vs ds := dqs_up e ds vs h
theorem Dq.p (h : Dq K H v d) : Dp K H v d := dq_dp d v h
theorem DqAll.p (h : DqAll K H vs ds) : DpAll K H vs ds := dqs_dps ds vs h
theorem dqs_len (h : DqAll K H vs ds) : vs.length = ds.length := dps_len h.p
theorem dqs_get : ∀ {vs : List V} {ds : List Dt} {i : Nat} {d : Dt}, DqAll K H vs ds → ds[i]? = some d → ∃ v, vs[i]? = some v ∧ Dq K H v d
  | _, _, _, _, .nil, e => by simp at e
  | _, _, 0, _, .cons a _, e => by simp at e; subst e; exact ⟨_, rfl, a⟩
  | _, _, i + 1, d, .cons _ h, e => by
    obtain ⟨v, h1, h2⟩ := dqs_get (i := i) (d := d) h (by simpa using e)
    exact ⟨v, by simpa using h1, h2⟩
theorem dqs_get' {vs : List V} {ds : List Dt} {i : Nat} {v : V} (h : DqAll K H vs ds) (e : vs[i]? = some v) : ∃ d, ds[i]? = some d ∧ Dq K H v d := by
  have hi := (List.getElem?_eq_some_iff.mp e).1
  rw [dqs_len h] at hi
  obtain ⟨w, h1, h2⟩ := dqs_get h (List.getElem?_eq_getElem hi)
  rw [e] at h1; cases h1
  exact ⟨_, List.getElem?_eq_getElem hi, h2⟩
theorem dqs_app : ∀ {vs ws : List V} {ds es : List Dt}, DqAll K H vs ds → DqAll K H ws es → DqAll K H (vs ++ ws) (ds ++ es)
  | _, _, _, _, .nil, s => s
  | _, _, _, _, .cons a t, s => .cons a (dqs_app t s)
theorem dqs_ints : ∀ (ns : List Int), DqAll K H (ns.map V.int) (ns.map PyData.int)
  | [] => .nil
  | n :: ns => .cons (.int n) (dqs_ints ns)
theorem dqs_take : ∀ {vs : List V} {ds : List Dt} (n : Nat), DqAll K H vs ds → DqAll K H (vs.take n) (ds.take n)
  | _, _, 0, _ => .nil
  | _, _, _ + 1, .nil => .nil
  | _, _, n + 1, .cons a b => .cons a (dqs_take n b)
theorem dqs_drop : ∀ {vs : List V} {ds : List Dt} (n : Nat), DqAll K H vs ds → DqAll K H (vs.drop n) (ds.drop n)
  | _, _, 0, h => h
  | _, _, _ + 1, .nil => .nil
  | _, _, n + 1, .cons a b => dqs_drop n b
theorem dqs_rep (h : DqAll K H vs ds) : ∀ n : Nat, DqAll K H (List.replicate n vs).flatten (List.replicate n ds).flatten
  | 0 => .nil
  | n + 1 => by
    rw [List.replicate_succ, List.replicate_succ, List.flatten_cons, List.flatten_cons]
    exact dqs_app h (dqs_rep h n)
/-- a flat thing -/
theorem dp_q (h : Dp K H v d) (f : flatD d = true) : Dq K H' v d := by
  cases h with
  | non => exact .non
  | bl b => exact .bl b
  | int i => exact .int i
  | str x => exact .str x
  | lst _ _ => cases f
  | tup _ _ => cases f
theorem newq_t {G H : Hp} {p : Addr} (s : Gr G H) (hp : H p = none) (h : DqAll K G vs ds) : Stp G H (upd G p (.tup vs)) (upd H p (.tup vs)) ∧ Dq K (upd G p (.tup vs)) (.ref p) (.tuple ds) :=
  ⟨.new s hp, .tup (.inl (.inl upd_same)) (Dqsu h (.new (s.back hp)))⟩
theorem newq_l {G H : Hp} {p : Addr} (s : Gr G H) (hp : H p = none) (h : DqAll K G vs ds) : Stp G H (upd G p (.lst vs)) (upd H p (.lst vs)) ∧ Dq K (upd G p (.lst vs)) (.ref p) (.list ds) :=
  ⟨.new s hp, .lst upd_same (Dqsu h (.new (s.back hp)))⟩
/-- a dict's pairs -/
inductive KqOk (K : PySem.W.Frag) (G : Hp) : List (Key × V) → List (Key × Dt) → Prop where
  | nil : KqOk K G [] []
  | cons {k : Key} {v : V} {d : Dt} {kvs : List (Key × V)} {kds : List (Key × Dt)} : Dq K G v d → KqOk K G kvs kds → KqOk K G ((k, v) :: kvs) ((k, d) :: kds)
theorem kq_up {G G2 : Hp} (e : Gr G G2) : ∀ {kvs : List (Key × V)} {kds : List (Key × Dt)}, KqOk K G kvs kds → KqOk K G2 kvs kds
  | _, _, .nil => .nil
  | _, _, .cons a b => .cons (Dqu a e) (kq_up e b)
end

/-! ### states and results -/
/-- a watch: board, flip, lie, beats, points -/
structure Wt where
  (b f l t : Dt) (ps : List (Str × Dt))
def wflds (b f l t : V) (p : Addr) : List (Str × V) := [("board", b), ("flip", f), ("lie", l), ("beats", t), ("points", .ref p)]
def ptsK (ps : List (Str × Dt)) : List (Key × Dt) := ps.map fun q => (Sum.inr q.1, q.2)
inductive Oc where
  | l (xs : List Dt) | ll (xss : List (List Dt)) | m (kds : List (Key × Dt)) | w (t : Wt) | t (P : Addr) (q : Str) | e (a : Addr) (d : Option Addr) (p : Option (Str × Int)) | f (LO : Nat → Addr → Addr → Addr → HO) (df : Nat → Bool) (q : Str) (js : List Nat) | tt (P : Addr) (q : Str) (P1 : Addr) (q1 : Str) | wx (x p : Addr) (t : Wt)
/-- what a name holds: data that stands for good; a thing of its own that may change; the row -/
inductive Wv where
  | d (x : Dt) | o (c : Oc) | row | m (kds : List (Key × Dt))
structure Rw where
  (ns : List Int) (i s r : Int)
abbrev Ss := List (Option Wv)
abbrev Ro := Option Rw
/-- an error: its class, its one value -/
structure Exn where
  (c : Str) (p : Option (Str × Int))
abbrev ME (α : Type) := Ss → Ro → Option (Except Exn α × Ro)
def ret {α : Type} (a : α) : ME α := fun _ ρ => some (.ok a, ρ)
def lft {α : Type} (o : Option α) : ME α := fun _ ρ => match o with
  | none => none
  | some a => some (.ok a, ρ)
def bnd {α β : Type} (g : ME α) (k : α → ME β) : ME β := fun s ρ => match g s ρ with
  | none => none
  | some (.error x, ρ1) => some (.error x, ρ1)
  | some (.ok a, ρ1) => k a s ρ1
inductive Ot where
  | nx (s : Ss) (ρ : Ro) | bk (s : Ss) (ρ : Ro) | ct (s : Ss) (ρ : Ro) | rt (d : Dt) (ρ : Ro) | er (x : Exn) (ρ : Ro)
abbrev MS := Ss → Ro → Option Ot
def fOut {α : Type} (e : ME α) (k : α → MS) : MS := fun s ρ => match e s ρ with
  | none => none
  | some (.error x, ρ1) => some (.er x ρ1)
  | some (.ok a, ρ1) => k a s ρ1

/-! ### steps -/
structure Sq (Lo : Option Addr) (G H G2 H2 : Hp) : Prop where
  g : Gr G G2
  s : Gr G2 H2
  h : ∀ a o, some a ≠ Lo → H a = some o → H2 a = some o
  k : ∀ a, H a ≠ none → H2 a ≠ none
  f : ∀ a, H a ≠ none → G a = none → G2 a = none
/-- within a def: what was there at its start (H0) stands -/
structure Sr (Lo : Option Addr) (H0 G H G2 H2 : Hp) : Prop where
  g : Gr G G2
  s : Gr G2 H2
  h : ∀ a o, some a ≠ Lo → H0 a ≠ none → H a = some o → H2 a = some o
  k : ∀ a, H a ≠ none → H2 a ≠ none
  f : ∀ a, H0 a ≠ none → G a = none → G2 a = none
section
variable {Lo : Option Addr} {H0 G H G1 H1 G2 H2 : Hp}
theorem some_of_ne {α : Type} {o : Option α} (h : o ≠ none) : ∃ x, o = some x := by
  cases o with
  | none => exact absurd rfl h
  | some x => exact ⟨x, rfl⟩
theorem ne_of_some {α : Type} {o : Option α} {x : α} (h : o = some x) : o ≠ none := by rw [h]; simp
theorem Stp.sq (s : Stp G H G2 H2) : Sq Lo G H G2 H2 := ⟨s.g, s.s, fun a o _ e => s.h a o e, fun a e => by
  obtain ⟨o, q⟩ := some_of_ne e
  exact ne_of_some (s.h a o q), s.f⟩
theorem Sq.stp (s : Sq none G H G2 H2) : Stp G H G2 H2 := ⟨s.g, s.s, fun a o e => s.h a o (by simp) e, s.f⟩
theorem Sq.refl (s : Gr G H) : Sq Lo G H G H := (Stp.refl s).sq
theorem Sq.trans (a : Sq Lo G H G1 H1) (b : Sq Lo G1 H1 G2 H2) : Sq Lo G H G2 H2 :=
  ⟨a.g.trans b.g, b.s, fun x o n e => b.h x o n (a.h x o n e), fun x e => b.k x (a.k x e), fun x h1 h2 => b.f x (a.k x h1) (a.f x h1 h2)⟩
theorem Sr.refl (s : Gr G H) : Sr Lo H0 G H G H := ⟨.refl _, s, fun _ _ _ _ h => h, fun _ h => h, fun _ _ h => h⟩
theorem Sr.trans (a : Sr Lo H0 G H G1 H1) (b : Sr Lo H0 G1 H1 G2 H2) : Sr Lo H0 G H G2 H2 :=
  ⟨a.g.trans b.g, b.s, fun x o n m e => b.h x o n m (a.h x o n m e), fun x e => b.k x (a.k x e), fun x h1 h2 => b.f x h1 (a.f x h1 h2)⟩
theorem Sq.sr (s : Sq Lo G H G2 H2) (low : ∀ a, H0 a ≠ none → H a ≠ none) : Sr Lo H0 G H G2 H2 :=
  ⟨s.g, s.s, fun a o n _ e => s.h a o n e, s.k, fun a h1 h2 => s.f a (low a h1) h2⟩
theorem Sr.sq (s : Sr Lo H G H G2 H2) : Sq Lo G H G2 H2 := ⟨s.g, s.s, fun a o n e => s.h a o n (ne_of_some e) e, s.k, s.f⟩
end
/-! ### the row -/
structure RowAt (K : PySem.W.Frag) (G H : Hp) (L : Addr) (x : Rw) : Prop where
  g : G L = none
  at_ : ∃ a : Addr, H L = some (.lst [.ref a, .int x.i, .int x.s, .int x.r]) ∧ SqL K G a (x.ns.map V.int)
def RwOk (K : PySem.W.Frag) (Lo : Option Addr) (G H : Hp) (ρ : Ro) : Prop := ∀ x, ρ = some x → ∃ L, Lo = some L ∧ RowAt K G H L x
section
variable {K : PySem.W.Frag} {Lo : Option Addr} {G H G2 H2 : Hp} {ρ : Ro}
theorem RowAt.step {L : Addr} {x : Rw} (r : RowAt K G H L x) (s : Stp G H G2 H2) : RowAt K G2 H2 L x := by
  obtain ⟨a, e, h⟩ := r.at_
  exact ⟨s.f L (ne_of_some e) r.g, a, s.h _ _ e, gr_l s.g h⟩
theorem RwOk.step (r : RwOk K Lo G H ρ) (s : Stp G H G2 H2) : RwOk K Lo G2 H2 ρ := fun x hx =>
  let ⟨L, e, h⟩ := r x hx
  ⟨L, e, h.step s⟩
end
/-! ### what names hold -/
inductive LlOk (K : PySem.W.Frag) (G H : Hp) : List Addr → List (List Dt) → Prop where
  | nil : LlOk K G H [] []
  | cons {p : Addr} {vs : List V} {ds : List Dt} {ps : List Addr} {dss : List (List Dt)} : H p = some (.lst vs) → DqAll K G vs ds → LlOk K G H ps dss → LlOk K G H (p :: ps) (ds :: dss)
/-- things that are called: made of the lambdas js -/
inductive FsOk (G : Hp) (LO : Nat → Addr → Addr → Addr → HO) (df : Nat → Bool) (q : Str) : List V → List Nat → Prop where
  | nil : FsOk G LO df q [] []
  | cons {f d c' : Addr} {j : Nat} {vs : List V} {js : List Nat} : G f = some (LO j d c' f) → G c' = some (LamX.CodeO c' q) → (df j = true → G d = some (.tup [.int 0])) → FsOk G LO df q vs js → FsOk G LO df q (.ref f :: vs) (j :: js)
theorem fsOk_up {G G2 : Hp} {LO : Nat → Addr → Addr → Addr → HO} {df : Nat → Bool} {q : Str} (g : Gr G G2) : ∀ {vs : List V} {js : List Nat}, FsOk G LO df q vs js → FsOk G2 LO df q vs js
  | _, _, .nil => .nil
  | _, _, .cons a b c t => .cons (g _ _ a) (g _ _ b) (fun h => g _ _ (c h)) (fsOk_up g t)
def TabQ (G H : Hp) (P : Addr) (q : Str) : Prop := ∃ ps : Array Value, H P = some (.tbl ps) ∧ TriplesOk ps.toList ∧ ∀ (pos : Pos) (cv : Value), codeAmong pos ps.toList = some cv → ∃ c, cv = .ref c ∧ G c = some (LamX.CodeO c q)
theorem tabQ_up {G G2 H H2 : Hp} {P : Addr} {q : Str} (t : TabQ G H P q) (g : Gr G G2) (h : ∀ o, H P = some o → H2 P = some o) : TabQ G2 H2 P q := by
  obtain ⟨ps, a, b, c⟩ := t
  refine ⟨ps, h _ a, b, fun pos cv e => ?_⟩
  obtain ⟨x, y, z⟩ := c pos cv e
  exact ⟨x, y, g _ _ z⟩
def OcOk (K : PySem.W.Frag) (G H : Hp) (v : V) (fp : List Addr) : Oc → Prop
  | .l xs => ∃ p vs, v = .ref p ∧ fp = [p] ∧ H p = some (.lst vs) ∧ DqAll K G vs xs
  | .ll xss => ∃ p ps, v = .ref p ∧ fp = p :: ps ∧ H p = some (.lst (ps.map V.ref)) ∧ LlOk K G H ps xss
  | .m kds => ∃ p kvs, v = .ref p ∧ fp = [p] ∧ H p = some (.dK kvs) ∧ KqOk K G kvs kds
  | .w t => ∃ C x dx p vb vf vl vt kvs, PySem.W.nsIn K mainGlobals "Watch" = some (some (.ref C)) ∧ v = .ref x ∧ fp = [x, p] ∧ H x = some (.ins C dx (wflds vb vf vl vt p)) ∧ Dq K G vb t.b ∧ Dq K G vf t.f ∧ Dq K G vl t.l ∧ Dq K G vt t.t ∧ H p = some (.dK kvs) ∧ KqOk K G kvs (ptsK t.ps)
  | .t P q => fp = [P] ∧ ∃ ps : Array Value, H P = some (.tbl ps) ∧ TriplesOk ps.toList ∧ ∀ (pos : Pos) (cv : Value), codeAmong pos ps.toList = some cv → ∃ c, cv = .ref c ∧ G c = some (LamX.CodeO c q)
  | .e a d p => v = .ref a ∧ fp = [] ∧ match p with
    | none => d = none
    | some (f, i) => ∃ dd, d = some dd ∧ G dd = some (.xd [(f, .int i)])
  | .f LO df q js => ∃ p vs, v = .ref p ∧ fp = [p] ∧ H p = some (.lst vs) ∧ FsOk G LO df q vs js
  | .tt P q P1 q1 => fp = [P, P1] ∧ TabQ G H P q ∧ TabQ G H P1 q1
  | .wx x p t => v = .ref x ∧ fp = [x, p] ∧ ∃ C dx vb vf vl vt kvs, PySem.W.nsIn K mainGlobals "Watch" = some (some (.ref C)) ∧ H x = some (.ins C dx (wflds vb vf vl vt p)) ∧ Dq K G vb t.b ∧ Dq K G vf t.f ∧ Dq K G vl t.l ∧ Dq K G vt t.t ∧ H p = some (.dK kvs) ∧ KqOk K G kvs (ptsK t.ps)
def WvOk (K : PySem.W.Frag) (Lo : Option Addr) (G H : Hp) (v : V) (fp : List Addr) : Wv → Prop
  | .d x => Dq K G v x
  | .o c => OcOk K G H v fp c
  | .row => ∃ L, Lo = some L ∧ v = .ref L
  | .m kds => ∃ a kvs, v = .ref a ∧ G a = some (.dK kvs) ∧ KqOk K G kvs kds
structure EnS (K : PySem.W.Frag) (Lo : Option Addr) (H0 G H : Hp) (σ : L2.St) (s : Ss) (ρ : Ro) (A : Nat → List Addr) : Prop where
  gr : Gr G H
  row : RwOk K Lo G H ρ
  lo : ∀ L, Lo = some L → H L ≠ none
  low : ∀ a, H0 a ≠ none → H a ≠ none
  len : σ.length = s.length
  at_ : ∀ (i : Nat) (w : Wv), s[i]? = some (some w) → ∃ v, σ[i]? = some (some v) ∧ WvOk K Lo G H v (A i) w
  fp : ∀ i p, p ∈ A i → G p = none ∧ H0 p = none ∧ H p ≠ none ∧ some p ≠ Lo
  dj : ∀ i j p, p ∈ A i → p ∈ A j → i = j
  nd : ∀ i, (A i).Nodup
section
variable {K : PySem.W.Frag} {Lo : Option Addr} {H0 G H G2 H2 : Hp} {σ : L2.St} {s : Ss} {ρ ρ2 : Ro} {A : Nat → List Addr} {v : V} {w : Wv} {fp : List Addr} {c : Oc} {i : Nat}
theorem llOk_step : ∀ {ps : List Addr} {dss : List (List Dt)}, LlOk K G H ps dss → Gr G G2 → (∀ p ∈ ps, ∀ o, H p = some o → H2 p = some o) → LlOk K G2 H2 ps dss
  | _, _, .nil, _, _ => .nil
  | _, _, .cons a b t, g, h => .cons (h _ List.mem_cons_self _ a) (Dqsu b g) (llOk_step t g fun p hp => h p (List.mem_cons_of_mem _ hp))
theorem ocOk_step (o : OcOk K G H v fp c) (g : Gr G G2) (h : ∀ p ∈ fp, ∀ o, H p = some o → H2 p = some o) : OcOk K G2 H2 v fp c := by
  cases c with
  | l xs =>
    obtain ⟨p, vs, e1, e2, e3, e4⟩ := o
    subst e2
    exact ⟨p, vs, e1, rfl, h p List.mem_cons_self _ e3, Dqsu e4 g⟩
  | ll xss =>
    obtain ⟨p, ps, e1, e2, e3, e4⟩ := o
    subst e2
    exact ⟨p, ps, e1, rfl, h p List.mem_cons_self _ e3, llOk_step e4 g fun q hq => h q (List.mem_cons_of_mem _ hq)⟩
  | m kds =>
    obtain ⟨p, kvs, e1, e2, e3, e4⟩ := o
    subst e2
    exact ⟨p, kvs, e1, rfl, h p List.mem_cons_self _ e3, kq_up g e4⟩
  | w t =>
    obtain ⟨C, x, dx, p, vb, vf, vl, vt, kvs, e0, e1, e2, e3, e4, e5, e6, e7, e8, e9⟩ := o
    subst e2
    exact ⟨C, x, dx, p, vb, vf, vl, vt, kvs, e0, e1, rfl, h x List.mem_cons_self _ e3, Dqu e4 g, Dqu e5 g, Dqu e6 g, Dqu e7 g, h p (List.mem_cons_of_mem _ List.mem_cons_self) _ e8, kq_up g e9⟩
  | t P q =>
    obtain ⟨e1, ps, e2, e3, e4⟩ := o
    subst e1
    exact ⟨rfl, ps, h P List.mem_cons_self _ e2, e3, fun pos cv hc => by
      obtain ⟨c, a, b⟩ := e4 pos cv hc
      exact ⟨c, a, g _ _ b⟩⟩
  | e a d p =>
    obtain ⟨e1, e2, e3⟩ := o
    refine ⟨e1, e2, ?_⟩
    cases p with
    | none => exact e3
    | some p =>
      obtain ⟨dd, a1, a2⟩ := e3
      exact ⟨dd, a1, g _ _ a2⟩
  | f LO df q js =>
    obtain ⟨p, vs, e1, e2, e3, e4⟩ := o
    subst e2
    exact ⟨p, vs, e1, rfl, h p List.mem_cons_self _ e3, fsOk_up g e4⟩
  | tt P q P1 q1 =>
    obtain ⟨e1, e2, e3⟩ := o
    subst e1
    exact ⟨rfl, tabQ_up e2 g (h P List.mem_cons_self), tabQ_up e3 g (h P1 (List.mem_cons_of_mem _ List.mem_cons_self))⟩
  | wx x p t =>
    obtain ⟨e1, e2, C, dx, vb, vf, vl, vt, kvs, e0, e3, e4, e5, e6, e7, e8, e9⟩ := o
    subst e2
    exact ⟨e1, rfl, C, dx, vb, vf, vl, vt, kvs, e0, h x List.mem_cons_self _ e3, Dqu e4 g, Dqu e5 g, Dqu e6 g, Dqu e7 g, h p (List.mem_cons_of_mem _ List.mem_cons_self) _ e8, kq_up g e9⟩
theorem wvOk_step (o : WvOk K Lo G H v fp w) (g : Gr G G2) (h : ∀ p ∈ fp, ∀ o, H p = some o → H2 p = some o) : WvOk K Lo G2 H2 v fp w := by
  cases w with
  | d x => exact Dqu o g
  | o c => exact ocOk_step o g h
  | row => exact o
  | m kds =>
    obtain ⟨a, kvs, e1, e2, e3⟩ := o
    exact ⟨a, kvs, e1, g _ _ e2, kq_up g e3⟩
theorem EnS.step (e : EnS K Lo H0 G H σ s ρ A) (q : Sq Lo G H G2 H2) (r : RwOk K Lo G2 H2 ρ2) : EnS K Lo H0 G2 H2 σ s ρ2 A where
  gr := q.s
  row := r
  lo := fun L h => q.k L (e.lo L h)
  low := fun a h => q.k a (e.low a h)
  len := e.len
  at_ := fun i w hw => by
    obtain ⟨v, a, b⟩ := e.at_ i w hw
    exact ⟨v, a, wvOk_step b q.g fun p hp o ho => q.h p o (e.fp i p hp).2.2.2 ho⟩
  fp := fun i p hp => by
    obtain ⟨a, b, c, d⟩ := e.fp i p hp
    exact ⟨q.f p c a, b, q.k p c, d⟩
  dj := e.dj
  nd := e.nd
theorem EnS.stp (e : EnS K Lo H0 G H σ s ρ A) (q : Stp G H G2 H2) : EnS K Lo H0 G2 H2 σ s ρ A := e.step q.sq (e.row.step q)
/-- a name is set -/
theorem EnS.set (e : EnS K Lo H0 G H σ s ρ A) (i : Nat) (hw : WvOk K Lo G H v [] w) (hn : ∀ c : Oc, w ≠ .o c) : EnS K Lo H0 G H (σ.set i (some v)) (s.set i (some w)) ρ A where
  gr := e.gr
  row := e.row
  lo := e.lo
  low := e.low
  len := by rw [List.length_set, List.length_set, e.len]
  at_ := fun j u hj => by
    by_cases q : j = i
    · subst q
      have hl : j < (s.set j (some w)).length := (List.getElem?_eq_some_iff.mp hj).1
      rw [List.length_set] at hl
      rw [List.getElem?_set_self hl] at hj
      have hj' : w = u := by injection hj with hj; injection hj
      subst hj'
      refine ⟨v, by rw [List.getElem?_set_self (by rw [e.len]; exact hl)], ?_⟩
      cases w with
      | d x => exact hw
      | row => exact hw
      | m kds => exact hw
      | o c => exact absurd rfl (hn c)
    · rw [List.getElem?_set_ne (Ne.symm q)] at hj
      obtain ⟨x, a, b⟩ := e.at_ j u hj
      exact ⟨x, by rw [List.getElem?_set_ne (Ne.symm q)]; exact a, b⟩
  fp := e.fp
  dj := e.dj
  nd := e.nd
theorem EnS.setD {x : Dt} (e : EnS K Lo H0 G H σ s ρ A) (i : Nat) (h : Dq K G v x) : EnS K Lo H0 G H (σ.set i (some v)) (s.set i (some (.d x))) ρ A := e.set i (w := .d x) h fun c h => nomatch h
def wipeS (s : Ss) : List Nat → Ss
  | [] => s
  | v :: vs => (wipeS s vs).set v none
theorem EnS.unset (e : EnS K Lo H0 G H σ s ρ A) (v : Nat) : EnS K Lo H0 G H (σ.set v none) (s.set v none) ρ A where
  gr := e.gr
  row := e.row
  lo := e.lo
  low := e.low
  len := by rw [List.length_set, List.length_set, e.len]
  at_ := fun j u hj => by
    by_cases q : j = v
    · subst q
      have hl : j < (s.set j none).length := (List.getElem?_eq_some_iff.mp hj).1
      rw [List.length_set] at hl
      rw [List.getElem?_set_self hl] at hj
      cases hj
    · rw [List.getElem?_set_ne (Ne.symm q)] at hj
      obtain ⟨x, a, b⟩ := e.at_ j u hj
      exact ⟨x, by rw [List.getElem?_set_ne (Ne.symm q)]; exact a, b⟩
  fp := e.fp
  dj := e.dj
  nd := e.nd
theorem EnS.wipe (e : EnS K Lo H0 G H σ s ρ A) : ∀ vs : List Nat, EnS K Lo H0 G H (wipe σ vs) (wipeS s vs) ρ A
  | [] => e
  | v :: vs => (EnS.wipe e vs).unset v
end
/-! ### judgements -/
def ExOk (mg : Str → Option Value) (x : Exn) (c : Value) (da : Option Addr) (H : Hp) : Prop := mg x.c = some c ∧ match x.p with
  | none => da = none
  | some (f, i) => ∃ d, da = some d ∧ H d = some (.xd [(f, .int i)])
def Kt {β γ : Type} (K : PySem.W.Frag) (mg : Str → Option Value) (E : XK) (P : Hp → β → γ → Prop) (Lo : Option Addr) (G H : Hp) (ρ : Ro) (Q : β → Hp → Prop) : Except Exn γ → Prop
  | .ok d => ∀ v G2 H2, Sq Lo G H G2 H2 → RwOk K Lo G2 H2 ρ → P G2 v d → Q v H2
  | .error x => ∀ c da G2 H2, Sq Lo G H G2 H2 → RwOk K Lo G2 H2 ρ → ExOk mg x c da H2 → E c da H2
def XJ {β γ : Type} (K : PySem.W.Frag) (mg : Str → Option Value) (E : XK) (P : Hp → β → γ → Prop) (t : L2.St → Hp → (β → Hp → Prop) → Prop) (g : ME γ) : Prop :=
  ∀ (Lo : Option Addr) (H0 : Hp) (σ : L2.St) (G H : Hp) (s : Ss) (ρ : Ro) (A : Nat → List Addr) (r : Except Exn γ) (ρ' : Ro) (Q : β → Hp → Prop), g s ρ = some (r, ρ') → EnS K Lo H0 G H σ s ρ A → Kt K mg E P Lo G H ρ' Q r → t σ H Q
abbrev XE (K : PySem.W.Frag) (mg : Str → Option Value) (E : XK) (t : TE) (g : ME Dt) : Prop := XJ K mg E (Dq K) t g
abbrev XA (K : PySem.W.Frag) (mg : Str → Option Value) (E : XK) (t : TA) (g : ME (List Dt)) : Prop := XJ K mg E (DqAll K) t g
abbrev XT (K : PySem.W.Frag) (mg : Str → Option Value) (E : XK) (t : TT) (g : ME Bool) : Prop := XJ K mg E (fun _ b c => b = c) t g
section
variable {K : PySem.W.Frag} {mg : Str → Option Value} {E : XK} {Lo : Option Addr} {H0 G H G1 H1 G2 H2 : Hp} {σ : L2.St} {s : Ss} {ρ ρ' : Ro} {A : Nat → List Addr}
theorem Kt.step {β γ : Type} {P : Hp → β → γ → Prop} {Q : β → Hp → Prop} {r : Except Exn γ} (k : Kt K mg E P Lo G H ρ Q r) (q : Sq Lo G H G1 H1) : Kt K mg E P Lo G1 H1 ρ Q r := by
  cases r with
  | ok d => exact fun v G2 H2 s2 => k v G2 H2 (q.trans s2)
  | error x => exact fun c da G2 H2 s2 => k c da G2 H2 (q.trans s2)
theorem xj_at {α β γ δ : Type} {P1 : Hp → α → γ → Prop} {P2 : Hp → β → δ → Prop} {t1 : L2.St → Hp → (α → Hp → Prop) → Prop} {g : ME γ} {k : γ → ME δ} {r : Except Exn δ} {Q : β → Hp → Prop} {T : α → Hp → Prop}
    (h1 : XJ K mg E P1 t1 g) (hg : bnd g k s ρ = some (r, ρ')) (e : EnS K Lo H0 G H σ s ρ A) (q : Kt K mg E P2 Lo G H ρ' Q r)
    (c : ∀ v d G1 H1 ρ1, Sq Lo G H G1 H1 → P1 G1 v d → k d s ρ1 = some (r, ρ') → EnS K Lo H0 G1 H1 σ s ρ1 A → Kt K mg E P2 Lo G1 H1 ρ' Q r → T v H1) : t1 σ H T := by
  unfold bnd at hg
  cases h : g s ρ with
  | none => rw [h] at hg; cases hg
  | some p =>
    obtain ⟨r1, ρ1⟩ := p
    rw [h] at hg
    cases r1 with
    | error x =>
      cases hg
      exact h1 Lo H0 σ G H s ρ A _ _ _ h e q
    | ok d => exact h1 Lo H0 σ G H s ρ A _ _ _ h e fun v G1 H1 s1 r1 p1 => c v d G1 H1 ρ1 s1 p1 hg (e.step s1 r1) (q.step s1)
theorem lft_some {α : Type} {o : Option α} {s : Ss} {ρ ρ' : Ro} {r : Except Exn α} (h : lft o s ρ = some (r, ρ')) : ∃ a, o = some a ∧ r = .ok a ∧ ρ' = ρ := by
  unfold lft at h
  cases o with
  | none => cases h
  | some a => cases h; exact ⟨a, rfl, rfl, rfl⟩
/-! expressions -/
def fVar (i : Nat) : ME Dt := fun s ρ => match s[i]? with
  | some (some (.d x)) => some (.ok x, ρ)
  | _ => none
theorem xe_var (i : Nat) : XE K mg E (tVar i) (fVar i) := fun Lo H0 σ G H s ρ A r ρ' Q hg e q => by
  unfold fVar at hg
  split at hg
  · rename_i x hx
    cases hg
    obtain ⟨v, a, b⟩ := e.at_ i _ hx
    exact ⟨v, a, q v G H (.refl e.gr) e.row b⟩
  · cases hg
theorem xe_C {v : V} {d : Dt} (h : ∀ G, Dq K G v d) : XE K mg E (tC v) (ret d) := fun Lo H0 σ G H s ρ A r ρ' Q hg e q => by
  cases hg
  exact q v G H (.refl e.gr) e.row (h G)
theorem xe_int (i : Int) : XE K mg E (tC (.int i)) (ret (.int i)) := xe_C fun _ => .int i
theorem xe_bl (b : Bool) : XE K mg E (tC (.bl b)) (ret (.bool b)) := xe_C fun _ => .bl b
theorem xe_non : XE K mg E (tC .non) (ret .none) := xe_C fun _ => .non
theorem xe_str (z : Str) : XE K mg E (tC (.str z)) (ret (.str z)) := xe_C fun _ => .str z
end
end Sb

/-! Seamboard, layer F2: expressions. -/
namespace Sb
open PySem PySem.Spec PyProof.Rows L2
section
variable {K : PySem.W.Frag}
def RVq (K : PySem.W.Frag) (r : R2) (x y z : Dt) : Prop := ∀ (G H : Hp) (v u : V) (Q : VK), Gr G H → Dq K G v x → Dq K G u y → (∀ w G2 H2, Stp G H G2 H2 → Dq K G2 w z → Q w H2) → r v u H Q
def RVo (K : PySem.W.Frag) (r : R2) (o : Dt → Dt → Option Dt) : Prop := ∀ x y z, o x y = some z → RVq K r x y z
def RUo (K : PySem.W.Frag) (r : V → Hp → VK → Prop) (o : Dt → Option Dt) : Prop := ∀ x z, o x = some z → ∀ (G H : Hp) (v : V) (Q : VK), Gr G H → Dq K G v x → (∀ w G2 H2, Stp G H G2 H2 → Dq K G2 w z → Q w H2) → r v H Q
def RCo (K : PySem.W.Frag) (r : List V → Hp → VK → Prop) (o : List Dt → Option Dt) : Prop := ∀ xs z, o xs = some z → ∀ (G H : Hp) (vs : List V) (Q : VK), Gr G H → DqAll K G vs xs → (∀ w G2 H2, Stp G H G2 H2 → Dq K G2 w z → Q w H2) → r vs H Q
theorem rvq_of {r : R2} {x y z : Dt} (h : RV K r x y z) (f : flatD z = true) : RVq K r x y z := fun G H v u Q s a b q => h G H v u Q s a.p b.p fun w G2 H2 s2 d => q w G2 H2 s2 (dp_q d f)
theorem rcq_of {r : List V → Hp → VK → Prop} {xs : List Dt} {z : Dt} (h : RC K r xs z) (f : flatD z = true) (G H : Hp) (vs : List V) (Q : VK) (s : Gr G H) (a : DqAll K G vs xs) (q : ∀ w G2 H2, Stp G H G2 H2 → Dq K G2 w z → Q w H2) : r vs H Q := h G H vs Q s a.p fun w G2 H2 s2 d => q w G2 H2 s2 (dp_q d f)
/-! ### operators -/
def oI (f : Int → Int → Int) : Dt → Dt → Option Dt
  | .int i, .int j => some (.int (f i j))
  | _, _ => none
def oB (f : Int → Int → Bool) : Dt → Dt → Option Dt
  | .int i, .int j => some (.bool (f i j))
  | _, _ => none
def oIC (c : Int → Int → Bool) (f : Int → Int → Int) : Dt → Dt → Option Dt
  | .int i, .int j => if c i j = true then some (.int (f i j)) else none
  | _, _ => none
theorem rvo_I (f : Int → Int → Int) : RVo K (rI0 fun i j => .int (f i j)) (oI f) := fun x y z h => by
  unfold oI at h
  split at h
  · cases h; exact rvq_of rv_I0 rfl
  · cases h
theorem rvo_B (f : Int → Int → Bool) : RVo K (rI0 fun i j => .bl (f i j)) (oB f) := fun x y z h => by
  unfold oB at h
  split at h
  · cases h; exact rvq_of rv_B0 rfl
  · cases h
theorem rvo_IC {C : Int → Int → Prop} {c : Int → Int → Bool} {f : Int → Int → Int} (hc : ∀ i j, c i j = true → C i j) : RVo K (rI C fun i j => .int (f i j)) (oIC c f) := fun x y z h => by
  unfold oIC at h
  split at h
  · split at h
    · rename_i e
      cases h; exact rvq_of (rv_I (hc _ _ e)) rfl
    · cases h
  · cases h
def cMul (i j : Int) : Bool := decide (-1000000000000 ≤ i ∧ i ≤ 1000000000000) || decide (-1000000000000 ≤ j ∧ j ≤ 1000000000000)
def cPos (_ j : Int) : Bool := decide (0 < j)
def cDiv (_ j : Int) : Bool := decide (0 < j ∧ j < 1073741824)
def cPow (i j : Int) : Bool := decide (0 ≤ j ∧ j ≤ 1000000) && decide (i.natAbs < 2 ^ 64)
def cNn (_ j : Int) : Bool := decide (0 ≤ j)
abbrev oAdd := oI fun i j => i + j
abbrev oSub := oI fun i j => i - j
abbrev oMul := oIC cMul fun i j => i * j
abbrev oMod := oIC cPos fun i j => i % j
abbrev oDiv := oIC cDiv fun i j => i / j
abbrev oPow := oIC cPow fun i j => i ^ j.toNat
abbrev oShl := oIC cPow fun i j => i * 2 ^ j.toNat
abbrev oShr := oIC cNn fun i j => i / 2 ^ j.toNat
abbrev oXor := oI fun i j => Builtin.bitXor i j
abbrev oLt := oB fun i j => decide (i < j)
abbrev oLe := oB fun i j => decide (i ≤ j)
abbrev oGt := oB fun i j => decide (j < i)
abbrev oGe := oB fun i j => decide (j ≤ i)
theorem rvo_mul : RVo K (rI CMul fun i j => .int (i * j)) oMul := rvo_IC fun i j h => by
  unfold cMul at h
  rw [Bool.or_eq_true, decide_eq_true_eq, decide_eq_true_eq] at h
  rcases h with h | h
  · exact cmul h
  · exact cmul' h
theorem rvo_mod : RVo K (rI (fun _ j => 0 < j) fun i j => .int (i % j)) oMod := rvo_IC fun i j h => of_decide_eq_true h
theorem rvo_div : RVo K (rI CDiv fun i j => .int (i / j)) oDiv := rvo_IC fun i j h => (of_decide_eq_true (p := 0 < j ∧ j < 1073741824) h : CDiv i j)
theorem cpow_of {i j : Int} (h : cPow i j = true) : CPow i j := by
  unfold cPow at h
  rw [Bool.and_eq_true, decide_eq_true_eq, decide_eq_true_eq] at h
  exact ⟨h.1.1, h.1.2, h.2⟩
theorem rvo_pow : RVo K (rI CPow fun i j => .int (i ^ j.toNat)) oPow := rvo_IC fun i j h => cpow_of h
def oEq (x y : Dt) : Option Dt := if (SeqAt.shaped x && SeqAt.shaped y) = true then some (.bool (PyData.eqv x y)) else none
def oNe (x y : Dt) : Option Dt := if (SeqAt.shaped x && SeqAt.shaped y) = true then some (.bool (!PyData.eqv x y)) else none
theorem rvo_eq : RVo K (rEqD K) oEq := fun x y z h => by
  unfold oEq at h
  split at h
  · rename_i e
    rw [Bool.and_eq_true] at e
    cases h; exact rvq_of (rv_eqD e.1 e.2) rfl
  · cases h
theorem rvo_ne : RVo K (rNeD K) oNe := fun x y z h => by
  unfold oNe at h
  split at h
  · rename_i e
    rw [Bool.and_eq_true] at e
    cases h; exact rvq_of (rv_neD e.1 e.2) rfl
  · cases h
def oIsN (x y : Dt) : Option Dt := match y with
  | .none => some (.bool (isNo x))
  | _ => none
def oNotN (x y : Dt) : Option Dt := match y with
  | .none => some (.bool (!isNo x))
  | _ => none
theorem rvo_isN : RVo K (fun x y H Q => y = .non ∧ Q (.bl (decide (x = .non))) H) oIsN := fun x y z h => by
  unfold oIsN at h
  split at h
  · cases h; exact rvq_of rv_isN rfl
  · cases h
theorem rvo_notN : RVo K (fun x y H Q => y = .non ∧ Q (.bl (!decide (x = .non))) H) oNotN := fun x y z h => by
  unfold oNotN at h
  split at h
  · cases h; exact rvq_of rv_notN rfl
  · cases h
/-- a sequence's things -/
def seqD : Dt → Option (List Dt)
  | .tuple ds => some ds
  | .list ds => some ds
  | _ => none
def oIn (x y : Dt) : Option Dt := match seqD y with
  | some ds => if (flatD x && ds.all flatD) = true then some (.bool (inD x ds)) else none
  | none => none
def oNi (x y : Dt) : Option Dt := match seqD y with
  | some ds => if (flatD x && ds.all flatD) = true then some (.bool (!inD x ds)) else none
  | none => none
theorem rvo_inS (neg : Bool) {x y z : Dt} (h : (match seqD y with
  | some ds => if (flatD x && ds.all flatD) = true then some (.bool (if neg then !inD x ds else inD x ds)) else none
  | none => none) = some z) : RVq K (rIn K neg) x y z := fun G H v u Q s a b q => by
  cases hy : seqD y with
  | none => rw [hy] at h; cases h
  | some ds =>
    rw [hy] at h
    simp only [] at h
    split at h
    · rename_i e
      rw [Bool.and_eq_true] at e
      cases h
      have key : ∀ (p : Addr) (vs : List V), u = .ref p → (SqL K H p vs ∨ SqT K H p vs) → DqAll K G vs ds → rIn K neg v u H Q := fun p vs eu hs dv => by
        refine ⟨p, vs, eu, hs, flat_v a.p e.1, flats_v dv.p e.2, ?_⟩
        rw [inV_v a.p e.1 dv.p e.2]
        exact q _ G H (.refl s) (.bl _)
      cases y with
      | list ds' =>
        cases hy
        cases b with
        | lst h1 h2 => exact key _ _ rfl (.inl (SqL.of (s _ _ h1))) h2
      | tuple ds' =>
        cases hy
        cases b with
        | tup h1 h2 => exact key _ _ rfl (.inr (gr_t s h1)) h2
      | none => cases hy
      | bool _ => cases hy
      | int _ => cases hy
      | str _ => cases hy
      | dict _ => cases hy
    · cases h
theorem rvo_ni : RVo K (rIn K true) oNi := fun x y z h => rvo_inS true h
/-! subscripts -/
theorem atq_of {G : Hp} {vs : List V} {ds : List Dt} {i : Int} {d : Dt} (h : DqAll K G vs ds) (e : atI ds i = some d) : ∃ v, atI vs i = some v ∧ Dq K G v d := by
  unfold atI at e ⊢
  rw [dqs_len h]
  cases q : ixN ds.length i with
  | none => rw [q] at e; cases e
  | some j =>
    rw [q] at e
    exact dqs_get h e
def oIxT : Dt → Dt → Option Dt
  | .tuple ds, .int i => atI ds i
  | _, _ => none
def oIxL : Dt → Dt → Option Dt
  | .list ds, .int i => atI ds i
  | _, _ => none
def oIxO : Dt → Dt → Option Dt
  | .tuple ds, .int i => atI ds i
  | .list ds, .int i => atI ds i
  | _, _ => none
theorem rvq_ixT {ds : List Dt} {i : Int} {d : Dt} (e : atI ds i = some d) : RVq K (rIxT K) (.tuple ds) (.int i) d := fun G H v u Q s a b q => by
  cases b
  cases a with
  | tup h1 h2 =>
    obtain ⟨w, e1, e2⟩ := atq_of h2 e
    exact ⟨_, _, i, w, rfl, rfl, gr_t s h1, e1, q _ G H (.refl s) e2⟩
theorem rvq_ixL {ds : List Dt} {i : Int} {d : Dt} (e : atI ds i = some d) : RVq K (rIxL K) (.list ds) (.int i) d := fun G H v u Q s a b q => by
  cases b
  cases a with
  | lst h1 h2 =>
    obtain ⟨w, e1, e2⟩ := atq_of h2 e
    exact ⟨_, _, i, w, rfl, rfl, SqL.of (s _ _ h1), e1, q _ G H (.refl s) e2⟩
theorem rvo_ixT : RVo K (rIxT K) oIxT := fun x y z h => by
  unfold oIxT at h
  split at h
  · exact rvq_ixT h
  · cases h
theorem rvo_ixL : RVo K (rIxL K) oIxL := fun x y z h => by
  unfold oIxL at h
  split at h
  · exact rvq_ixL h
  · cases h
theorem rvo_ixO : RVo K (rIxO K) oIxO := fun x y z h G H v u Q s a b q => by
  unfold oIxO at h
  split at h
  · exact .inl (rvq_ixT h G H v u Q s a b q)
  · exact .inr (rvq_ixL h G H v u Q s a b q)
  · cases h
/-- a sign of a text -/
def oIxS : Dt → Dt → Option Dt
  | .str z, .int i => if z.length ≤ 100000 then match atI z.cps.toList i with
    | some c => some (.str (sg c))
    | none => none
    else none
  | _, _ => none
def oCatT : Dt → Dt → Option Dt
  | .tuple xs, .tuple ys => if xs.length + ys.length ≤ 100000 then some (.tuple (xs ++ ys)) else none
  | _, _ => none
theorem rvo_catT : RVo K (rCatA K) oCatT := fun x y z h G H v u Q s a b q => by
  unfold oCatT at h
  split at h
  · split at h
    · rename_i hl
      cases h
      cases a with
      | tup h1 h2 =>
        cases b with
        | tup k1 k2 =>
          refine ⟨_, _, _, _, rfl, rfl, gr_t s h1, gr_t s k1, by rw [dqs_len h2, dqs_len k2]; exact Evl.sz_of hl, fun e => ?_, fun e e' => ?_, fun e e' p hp => ?_⟩
          · subst e; cases h2; exact q _ G H (.refl s) (.tup k1 k2)
          · subst e'; cases k2; exact q _ G H (.refl s) (by rw [List.append_nil]; exact .tup h1 h2)
          · have n := newq_t s hp (dqs_app h2 k2); exact q _ _ _ n.1 n.2
    · cases h
  · cases h
def oCatS : Dt → Dt → Option Dt
  | .str a, .str b => if a.length + b.length ≤ 100000 then some (.str (a ++ b)) else none
  | _, _ => none
/-- one sign in a text -/
def oInC : Dt → Dt → Option Dt
  | .str a, .str z => match a.cps.toList with
    | [c] => some (.bool (decide (c ∈ z.cps.toList)))
    | _ => none
  | _, _ => none
def oNiC : Dt → Dt → Option Dt
  | .str a, .str z => match a.cps.toList with
    | [c] => some (.bool (!decide (c ∈ z.cps.toList)))
    | _ => none
  | _, _ => none
theorem one_sign {a : Str} {c : Nat} (h : a.cps.toList = [c]) : a = sg c := by
  cases a with
  | mk cps => 
    have : cps = #[c] := by
      apply Array.toList_inj.mp
      exact h
    subst this; rfl
theorem rvo_inC : RVo K rInC oInC := fun x y z h => by
  unfold oInC at h
  split at h
  · split at h
    · rename_i e
      have := one_sign e
      subst this
      cases h; exact rvq_of rv_inC rfl
    · cases h
  · cases h
/-! ### built-ins -/
def oLen : List Dt → Option Dt
  | [x] => match seqD x with
    | some ds => some (.int ds.length)
    | none => none
  | _ => none
theorem rco_len : RCo K (rLen K) oLen := fun xs z h => by
  unfold oLen at h
  split at h
  · rename_i x
    cases x with
    | list ds => cases h; exact rcq_of rc_lenL rfl
    | tuple ds => cases h; exact rcq_of rc_lenT rfl
    | none => cases h
    | bool _ => cases h
    | int _ => cases h
    | str _ => cases h
    | dict _ => cases h
  · cases h
def oLenS : List Dt → Option Dt
  | [.str z] => if z.length ≤ 100000 then some (.int z.length) else none
  | _ => none
theorem rco_lenS : RCo K rLenS oLenS := fun xs z h => by
  unfold oLenS at h
  split at h
  · split at h
    · rename_i hl
      cases h; exact rcq_of (rc_lenS hl) rfl
    · cases h
  · cases h
def oTup : List Dt → Option Dt
  | [.list ds] => some (.tuple ds)
  | [.tuple ds] => some (.tuple ds)
  | _ => none
theorem rco_tup : RCo K (rTupOf K) oTup := fun xs z h G H vs Q s a q => by
  unfold oTup at h
  split at h
  · cases h
    cases a with
    | cons a b =>
      cases b
      cases a with
      | lst h1 h2 => exact ⟨_, _, rfl, .inl ⟨SqL.of (s _ _ h1), fun l hl => let n := newq_t s hl h2; q _ _ _ n.1 n.2⟩⟩
  · cases h
    cases a with
    | cons a b =>
      cases b
      cases a with
      | tup h1 h2 => exact ⟨_, _, rfl, .inr ⟨gr_t s h1, q _ G H (.refl s) (.tup h1 h2)⟩⟩
  · cases h
def oInt : List Dt → Option Dt
  | [.int i] => some (.int i)
  | [.bool b] => some (.int (if b then 1 else 0))
  | _ => none
theorem rco_int : RCo K (fun xs H Q => (∃ i, xs = [.int i] ∧ Q (.int i) H) ∨ ∃ k, xs = [.bl k] ∧ Q (.int (if k then 1 else 0)) H) oInt := fun xs z h => by
  unfold oInt at h
  split at h
  · cases h; exact rcq_of rc_int_i rfl
  · cases h; exact rcq_of rc_int_b rfl
  · cases h
def oMin2 : List Dt → Option Dt
  | [.int i, .int j] => some (.int (min i j))
  | _ => none
theorem rco_min2 : RCo K (fun xs H Q => ∃ i j, xs = [.int i, .int j] ∧ Q (.int (if j < i then j else i)) H) oMin2 := fun xs z h => by
  unfold oMin2 at h
  split at h
  · cases h; exact rcq_of rc_min2 rfl
  · cases h
/-- the numbers of data that are numbers -/
def toInts : List Dt → Option (List Int)
  | [] => some []
  | .int i :: ds => match toInts ds with
    | some is => some (i :: is)
    | none => none
  | _ :: _ => none
theorem toInts_eq : ∀ {ds : List Dt} {is : List Int}, toInts ds = some is → ds = is.map .int
  | [], _, h => by cases h; rfl
  | .int i :: ds, _, h => by
    unfold toInts at h
    split at h
    · rename_i e
      cases h
      rw [toInts_eq e]; rfl
    · cases h
  | .none :: _, _, h => by cases h
  | .bool _ :: _, _, h => by cases h
  | .str _ :: _, _, h => by cases h
  | .list _ :: _, _, h => by cases h
  | .tuple _ :: _, _, h => by cases h
  | .dict _ :: _, _, h => by cases h
theorem toInts_map : ∀ is : List Int, toInts (is.map PyData.int) = some is
  | [] => rfl
  | i :: is => by rw [List.map_cons]; unfold toInts; rw [toInts_map is]
def oSum : List Dt → Option Dt
  | [.list ds] => match toInts ds with
    | some is => some (.int is.sum)
    | none => none
  | _ => none
end
end Sb

/-! Seamboard, layer F3: expressions, arguments, tests, what is walked. -/
namespace Sb
open PySem PySem.Spec PyProof.Rows L2
section
variable {K : PySem.W.Frag} {mg : Str → Option Value} {E : XK} {Lo : Option Addr} {H0 G H G1 H1 G2 H2 : Hp} {σ : L2.St} {s : Ss} {ρ ρ' : Ro} {A : Nat → List Addr}
theorem Kt.ok {β γ : Type} {P : Hp → β → γ → Prop} {Q : β → Hp → Prop} {d : γ} (q : Kt K mg E P Lo G H ρ Q (.ok d)) (e : EnS K Lo H0 G H σ s ρ A) {v : β} (s1 : Stp G H G2 H2) (p : P G2 v d) : Q v H2 := q v G2 H2 s1.sq (e.row.step s1) p
def fOp (o : Dt → Dt → Option Dt) (a b : ME Dt) : ME Dt := bnd a fun x => bnd b fun y => lft (o x y)
theorem xe_op {r : R2} {o : Dt → Dt → Option Dt} {ta tb : TE} {a b : ME Dt} (hr : RVo K r o) (ha : XE K mg E ta a) (hb : XE K mg E tb b) : XE K mg E (tOp r ta tb) (fOp o a b) := fun Lo H0 σ G H s ρ A r' ρ' Q hg e q => by
  show ta σ H _
  refine xj_at ha hg e q fun v x G1 H1 ρ1 s1 dv hg e q => ?_
  show tb σ H1 _
  refine xj_at hb hg e q fun u y G2 H2 ρ2 s2 du hg e q => ?_
  obtain ⟨z, hz, rfl, rfl⟩ := lft_some hg
  exact hr x y z hz G2 H2 v u Q e.gr (Dqu dv s2.g) du fun w G3 H3 s3 dw => q.ok e s3 dw
def fUn (o : Dt → Option Dt) (a : ME Dt) : ME Dt := bnd a fun x => lft (o x)
theorem xe_un {r : V → Hp → VK → Prop} {o : Dt → Option Dt} {ta : TE} {a : ME Dt} (hr : RUo K r o) (ha : XE K mg E ta a) : XE K mg E (tUn r ta) (fUn o a) := fun Lo H0 σ G H s ρ A r' ρ' Q hg e q => by
  show ta σ H _
  refine xj_at ha hg e q fun v x G1 H1 ρ1 s1 dv hg e q => ?_
  obtain ⟨z, hz, rfl, rfl⟩ := lft_some hg
  exact hr x z hz G1 H1 v Q e.gr dv fun w G3 H3 s3 dw => q.ok e s3 dw
/-! arguments -/
def fNil : ME (List Dt) := ret []
def fCons (a : ME Dt) (t : ME (List Dt)) : ME (List Dt) := bnd a fun x => bnd t fun xs => ret (x :: xs)
def fStar (a : ME Dt) (t : ME (List Dt)) : ME (List Dt) := bnd a fun x => match seqD x with
  | some ds => bnd t fun xs => ret (ds ++ xs)
  | none => lft none
theorem ret_some {α : Type} {a : α} {s : Ss} {ρ ρ' : Ro} {r : Except Exn α} (h : ret a s ρ = some (r, ρ')) : r = .ok a ∧ ρ' = ρ := by
  unfold ret at h; cases h; exact ⟨rfl, rfl⟩
theorem xa_nil : XA K mg E tNil fNil := fun Lo H0 σ G H s ρ A r ρ' Q hg e q => by
  obtain ⟨rfl, rfl⟩ := ret_some hg
  exact q.ok e (.refl e.gr) .nil
theorem xa_cons {ta : TE} {tt : TA} {a : ME Dt} {t : ME (List Dt)} (ha : XE K mg E ta a) (ht : XA K mg E tt t) : XA K mg E (tCons ta tt) (fCons a t) := fun Lo H0 σ G H s ρ A r' ρ' Q hg e q => by
  show ta σ H _
  refine xj_at ha hg e q fun v x G1 H1 ρ1 s1 dv hg e q => ?_
  show tt σ H1 _
  refine xj_at ht hg e q fun u y G2 H2 ρ2 s2 du hg e q => ?_
  obtain ⟨rfl, rfl⟩ := ret_some hg
  exact q.ok e (.refl e.gr) (.cons (Dqu dv s2.g) du)
theorem xa_star {ta : TE} {tt : TA} {a : ME Dt} {t : ME (List Dt)} (ha : XE K mg E ta a) (ht : XA K mg E tt t) : XA K mg E (StX.tStar K ta tt) (fStar a t) := fun Lo H0 σ G H s ρ A r' ρ' Q hg e q => by
  show ta σ H _
  refine xj_at ha hg e q fun v x G1 H1 ρ1 s1 dv hg e q => ?_
  cases hx : seqD x with
  | none => rw [hx] at hg; cases hg
  | some ds =>
    rw [hx] at hg
    have key : ∀ (p : Addr) (vs : List V), v = .ref p → (SqT K H1 p vs ∨ SqL K H1 p vs) → DqAll K G1 vs ds → ∃ p xs, v = V.ref p ∧ (SqT K H1 p xs ∨ SqL K H1 p xs) ∧ tt σ H1 fun ys H2 => Q (xs ++ ys) H2 := fun p vs ev hs dvs => by
      refine ⟨p, vs, ev, hs, ?_⟩
      refine xj_at ht hg e q fun u y G2 H2 ρ2 s2 du hg e q => ?_
      obtain ⟨rfl, rfl⟩ := ret_some hg
      exact q.ok e (.refl e.gr) (dqs_app (Dqsu dvs s2.g) du)
    cases x with
    | list ds' =>
      cases hx
      cases dv with
      | lst h1 h2 => exact key _ _ rfl (.inr (SqL.of (e.gr _ _ h1))) h2
    | tuple ds' =>
      cases hx
      cases dv with
      | tup h1 h2 => exact key _ _ rfl (.inl (gr_t e.gr h1)) h2
    | none => cases hx
    | bool _ => cases hx
    | int _ => cases hx
    | str _ => cases hx
    | dict _ => cases hx

def fTup (t : ME (List Dt)) : ME Dt := bnd t fun ds => lft (if ds.length ≤ 100000 then some (.tuple ds) else none)
theorem xe_tup {tt : TA} {t : ME (List Dt)} (ht : XA K mg E tt t) : XE K mg E (tTup tt) (fTup t) := fun Lo H0 σ G H s ρ A r ρ' Q hg e q => by
  show tt σ H _
  refine xj_at ht hg e q fun vs ds G1 H1 ρ1 s1 dv hg e q => ?_
  obtain ⟨z, hz, rfl, rfl⟩ := lft_some hg
  split at hz
  · rename_i hl
    cases hz
    refine ⟨by rw [dqs_len dv]; exact Evl.sz_of hl, fun p hp => ?_⟩
    have n := newq_t e.gr hp dv
    exact q.ok e n.1 n.2
  · cases hz
def fCB (o : List Dt → Option Dt) (t : ME (List Dt)) : ME Dt := bnd t fun ds => lft (o ds)
theorem xe_cb {r : List V → Hp → VK → Prop} {o : List Dt → Option Dt} {tt : TA} {t : ME (List Dt)} (hr : RCo K r o) (ht : XA K mg E tt t) : XE K mg E (tCB r tt) (fCB o t) := fun Lo H0 σ G H s ρ A r' ρ' Q hg e q => by
  show tt σ H _
  refine xj_at ht hg e q fun vs ds G1 H1 ρ1 s1 dv hg e q => ?_
  obtain ⟨z, hz, rfl, rfl⟩ := lft_some hg
  exact hr ds z hz G1 H1 vs Q e.gr dv fun w G3 H3 s3 dw => q.ok e s3 dw
/-! tests -/
def asB : Dt → Option Bool
  | .bool b => some b
  | _ => none
def fB (a : ME Dt) : ME Bool := bnd a fun x => lft (asB x)
theorem asB_some {x : Dt} {b : Bool} (h : asB x = some b) : x = .bool b := by
  cases x <;> cases h; rfl
theorem xt_test {ta : TE} {a : ME Dt} (ha : XE K mg E ta a) : XT K mg E (tTest ta) (fB a) := fun Lo H0 σ G H s ρ A r ρ' Q hg e q => by
  show ta σ H _
  refine xj_at ha hg e q fun v x G1 H1 ρ1 s1 dv hg e q => ?_
  obtain ⟨b, hb, rfl, rfl⟩ := lft_some hg
  have := asB_some hb
  subst this
  cases dv
  exact ⟨b, rfl, q.ok e (.refl e.gr) rfl⟩
theorem xt_B {ta : TE} {a : ME Dt} (ha : XE K mg E ta a) : XT K mg E (tB ta) (fB a) := xt_test ha
theorem xt_yes : XT K mg E tYes (ret true) := fun Lo H0 σ G H s ρ A r ρ' Q hg e q => by
  obtain ⟨rfl, rfl⟩ := ret_some hg
  exact q.ok e (.refl e.gr) rfl
def fNot (a : ME Bool) : ME Bool := bnd a fun b => ret (!b)
theorem xt_not {ta : TT} {a : ME Bool} (ha : XT K mg E ta a) : XT K mg E (tNot ta) (fNot a) := fun Lo H0 σ G H s ρ A r ρ' Q hg e q => by
  show ta σ H _
  refine xj_at ha hg e q fun v x G1 H1 ρ1 s1 dv hg e q => ?_
  obtain ⟨rfl, rfl⟩ := ret_some hg
  subst dv
  exact q.ok e (.refl e.gr) rfl
def fAnd (a b : ME Bool) : ME Bool := bnd a fun x => if x = true then b else ret false
def fOr (a b : ME Bool) : ME Bool := bnd a fun x => if x = true then ret true else b
theorem xt_and {ta tb : TT} {a b : ME Bool} (ha : XT K mg E ta a) (hb : XT K mg E tb b) : XT K mg E (tAnd ta tb) (fAnd a b) := fun Lo H0 σ G H s ρ A r ρ' Q hg e q => by
  show ta σ H _
  refine xj_at ha hg e q fun v x G1 H1 ρ1 s1 dv hg e q => ?_
  subst dv
  cases v with
  | true => exact iteT (hb Lo H0 σ G1 H1 s ρ1 A r ρ' Q hg e q)
  | false =>
    obtain ⟨rfl, rfl⟩ := ret_some (s := s) hg
    exact iteF (q.ok e (.refl e.gr) rfl)
theorem xt_or {ta tb : TT} {a b : ME Bool} (ha : XT K mg E ta a) (hb : XT K mg E tb b) : XT K mg E (tOr ta tb) (fOr a b) := fun Lo H0 σ G H s ρ A r ρ' Q hg e q => by
  show ta σ H _
  refine xj_at ha hg e q fun v x G1 H1 ρ1 s1 dv hg e q => ?_
  subst dv
  cases v with
  | true =>
    obtain ⟨rfl, rfl⟩ := ret_some (s := s) hg
    exact iteT (q.ok e (.refl e.gr) rfl)
  | false => exact iteF (hb Lo H0 σ G1 H1 s ρ1 A r ρ' Q hg e q)
def fNotV (a : ME Dt) : ME Dt := bnd a fun x => lft ((asB x).map fun b => .bool (!b))
theorem xe_notV {ta : TE} {a : ME Dt} (ha : XE K mg E ta a) : XE K mg E (tNotV ta) (fNotV a) := fun Lo H0 σ G H s ρ A r ρ' Q hg e q => by
  show ta σ H _
  refine xj_at ha hg e q fun v x G1 H1 ρ1 s1 dv hg e q => ?_
  obtain ⟨z, hz, rfl, rfl⟩ := lft_some hg
  cases x <;> cases hz
  cases dv
  exact ⟨_, rfl, q.ok e (.refl e.gr) (.bl _)⟩
def fAndV (a b : ME Dt) : ME Dt := bnd a fun x => match x with
  | .bool true => b
  | .bool false => ret (.bool false)
  | _ => lft none
def fOrV (a b : ME Dt) : ME Dt := bnd a fun x => match x with
  | .bool true => ret (.bool true)
  | .bool false => b
  | _ => lft none
theorem xe_andV {ta tb : TE} {a b : ME Dt} (ha : XE K mg E ta a) (hb : XE K mg E tb b) : XE K mg E (tAndV ta tb) (fAndV a b) := fun Lo H0 σ G H s ρ A r ρ' Q hg e q => by
  show ta σ H _
  refine xj_at ha hg e q fun v x G1 H1 ρ1 s1 dv hg e q => ?_
  cases x with
  | bool c =>
    cases dv
    cases c with
    | true => exact ⟨_, rfl, iteT (hb Lo H0 σ G1 H1 s ρ1 A r ρ' Q hg e q)⟩
    | false =>
      obtain ⟨rfl, rfl⟩ := ret_some hg
      exact ⟨_, rfl, iteF (q.ok e (.refl e.gr) (.bl _))⟩
  | none => cases hg
  | int _ => cases hg
  | str _ => cases hg
  | list _ => cases hg
  | tuple _ => cases hg
  | dict _ => cases hg
def fIf (c : ME Bool) (a b : ME Dt) : ME Dt := bnd c fun x => if x = true then a else b
theorem xe_if {tc : TT} {ta tb : TE} {c : ME Bool} {a b : ME Dt} (hc : XT K mg E tc c) (ha : XE K mg E ta a) (hb : XE K mg E tb b) : XE K mg E (tIf tc ta tb) (fIf c a b) := fun Lo H0 σ G H s ρ A r ρ' Q hg e q => by
  show tc σ H _
  refine xj_at hc hg e q fun v x G1 H1 ρ1 s1 dv hg e q => ?_
  subst dv
  cases v with
  | true => exact iteT (ha Lo H0 σ G1 H1 s ρ1 A r ρ' Q hg e q)
  | false => exact iteF (hb Lo H0 σ G1 H1 s ρ1 A r ρ' Q hg e q)
def fChain (o o' : Dt → Dt → Option Dt) (a b c : ME Dt) : ME Dt := bnd a fun x => bnd b fun y => match o x y with
  | some (.bool true) => bnd c fun z => lft (o' y z)
  | some (.bool false) => ret (.bool false)
  | _ => lft none
theorem xe_chain {r r' : R2} {o o' : Dt → Dt → Option Dt} {ta tb tc : TE} {a b c : ME Dt} (hr : RVo K r o) (hr' : RVo K r' o') (ha : XE K mg E ta a) (hb : XE K mg E tb b) (hc : XE K mg E tc c) : XE K mg E (tChain r r' ta tb tc) (fChain o o' a b c) := fun Lo H0 σ G H s ρ A r1 ρ' Q hg e q => by
  show ta σ H _
  refine xj_at ha hg e q fun v x G1 H1 ρ1 s1 dv hg e q => ?_
  show tb σ H1 _
  refine xj_at hb hg e q fun u y G2 H2 ρ2 s2 du hg e q => ?_
  cases ho : o x y with
  | none => rw [ho] at hg; cases hg
  | some z =>
    rw [ho] at hg
    cases z with
    | bool k =>
      refine hr x y _ ho G2 H2 v u _ e.gr (Dqu dv s2.g) du fun w G3 H3 s3 dw => ?_
      cases dw
      refine ⟨k, rfl, ?_⟩
      cases k with
      | true =>
        refine iteT ?_
        refine xj_at hc hg (e.stp s3) (q.step s3.sq) fun u3 z G4 H4 ρ4 s4 du3 hg e q => ?_
        obtain ⟨z2, hz, rfl, rfl⟩ := lft_some hg
        exact hr' y z z2 hz G4 H4 u u3 Q e.gr (Dqu du (s3.g.trans s4.g)) du3 fun w G5 H5 s5 dw => q.ok e s5 dw
      | false =>
        obtain ⟨rfl, rfl⟩ := ret_some hg
        exact iteF (q.ok e s3 (.bl _))
    | none => cases hg
    | int _ => cases hg
    | str _ => cases hg
    | list _ => cases hg
    | tuple _ => cases hg
    | dict _ => cases hg
/-! calls of the text's own defs -/
abbrev Fn := List Dt → Option (Except Exn Dt)
/-- what a def that draws nothing promises -/
def spF (K : PySem.W.Frag) (mg : Str → Option Value) (F : Fn) : Sp := fun vs H Q E => ∃ G ds r, Gr G H ∧ DqAll K G vs ds ∧ F ds = some r ∧ match r with
  | .ok d => ∀ v G2 H2, Stp G H G2 H2 → Dq K G2 v d → Q v H2
  | .error x => ∀ c da G2 H2, Stp G H G2 H2 → ExOk mg x c da H2 → E c da H2
def fCall (F : Fn) (t : ME (List Dt)) : ME Dt := bnd t fun ds s ρ => match F ds with
  | none => none
  | some r => some (r, ρ)
theorem xe_callV {F : Fn} {tt : TA} {t : ME (List Dt)} {mv : List V} {ms : List Dt} (hm : ∀ G, DqAll K G mv ms) (ht : XA K mg E tt t) : XE K mg E (tCall (spF K mg F) mv E tt) (fCall (fun ds => F (ds ++ ms)) t) := fun Lo H0 σ G H s ρ A r ρ' Q hg e q => by
  show tt σ H _
  refine xj_at ht hg e q fun vs ds G1 H1 ρ1 s1 dv hg e q => ?_
  cases hF : F (ds ++ ms) with
  | none => simp only [hF] at hg; cases hg
  | some r2 =>
    simp only [hF] at hg
    cases hg
    refine ⟨G1, ds ++ ms, r, e.gr, dqs_app dv (hm _), hF, ?_⟩
    cases r with
    | ok d => exact fun v G2 H2 s2 d2 => q.ok e s2 d2
    | error x => exact fun c da G2 H2 s2 hx => q c da G2 H2 s2.sq (e.row.step s2) hx
theorem xe_call {F : Fn} {tt : TA} {t : ME (List Dt)} (ht : XA K mg E tt t) : XE K mg E (tCall (spF K mg F) [] E tt) (fCall F t) := by
  have h := xe_callV (F := F) (mv := []) (ms := []) (fun _ => .nil) ht
  have e : (fun ds : List Dt => F (ds ++ [])) = F := by funext ds; rw [List.append_nil]
  rw [e] at h
  exact h
/-- .. some of it by name -/
def fCallN (F : Fn) (n m : Nat) (g : List Dt → List Dt → List Dt) (t tk : ME (List Dt)) : ME Dt := bnd t fun ds => bnd tk fun zs s ρ => if ds.length = n ∧ zs.length = m then match F (g ds zs) with
  | none => none
  | some r => some (r, ρ)
  else none
/-- a def that draws: the row first -/
abbrev Fr := Rw → List Dt → Option (Except Exn Dt × Rw)
def spW (K : PySem.W.Frag) (mg : Str → Option Value) (F : Fr) : Sp := fun vs H Q E => ∃ G L ws ds x r x', vs = .ref L :: ws ∧ Gr G H ∧ RowAt K G H L x ∧ DqAll K G ws ds ∧ F x ds = some (r, x') ∧ match r with
  | .ok d => ∀ v G2 H2, Sq (some L) G H G2 H2 → RowAt K G2 H2 L x' → Dq K G2 v d → Q v H2
  | .error y => ∀ c da G2 H2, Sq (some L) G H G2 H2 → RowAt K G2 H2 L x' → ExOk mg y c da H2 → E c da H2
def fCallR (F : Fr) (i : Nat) (t : ME (List Dt)) : ME Dt := fun s ρ => match s[i]? with
  | some (some .row) => bnd t (fun ds s ρ => match ρ with
    | none => none
    | some x => match F x ds with
      | none => none
      | some (r, x') => some (r, some x')) s ρ
  | _ => none
theorem xe_callR {F : Fr} {i : Nat} {tt : TA} {t : ME (List Dt)} (ht : XA K mg E tt t) : XE K mg E (tCall (spW K mg F) [] E (tCons (tVar i) tt)) (fCallR F i t) := fun Lo H0 σ G H s ρ A r ρ' Q hg e q => by
  unfold fCallR at hg
  split at hg
  · rename_i hi
    obtain ⟨v, hv, L, hL, hv2⟩ := e.at_ i _ hi
    subst hv2
    refine ⟨_, hv, ?_⟩
    refine xj_at ht hg e q fun vs ds G1 H1 ρ1 s1 dv hg e q => ?_
    cases ρ1 with
    | none => cases hg
    | some x =>
      simp only [] at hg
      cases hF : F x ds with
      | none => rw [hF] at hg; cases hg
      | some p =>
        obtain ⟨r2, x'⟩ := p
        rw [hF] at hg
        cases hg
        obtain ⟨L', hL', hr⟩ := e.row x rfl
        rw [hL] at hL'
        cases hL'
        subst hL
        refine ⟨G1, L, vs, ds, x, r, x', by rw [List.append_nil], e.gr, hr, dv, hF, ?_⟩
        have row : ∀ {G2 H2}, RowAt K G2 H2 L x' → RwOk K (some L) G2 H2 (some x') := fun h y hy => ⟨L, rfl, by cases hy; exact h⟩
        cases r with
        | ok d => exact fun v G2 H2 s2 r2 d2 => q v G2 H2 s2 (row r2) d2
        | error y => exact fun c da G2 H2 s2 r2 hx => q c da G2 H2 s2 (row r2) hx
  · cases hg
end
end Sb

/-! Seamboard, layer F4: new lists, what is walked, targets, comprehensions. -/
namespace Sb
open PySem PySem.Spec PyProof.Rows L2
section
variable {K : PySem.W.Frag} {mg : Str → Option Value} {E : XK} {Lo : Option Addr} {H0 G H G1 H1 G2 H2 : Hp} {σ : L2.St} {s : Ss} {ρ ρ' : Ro} {A : Nat → List Addr}
/-! ### new lists -/
def KtN (K : PySem.W.Frag) (mg : Str → Option Value) (E : XK) (Lo : Option Addr) (G H : Hp) (ρ : Ro) (Q : VK) : Except Exn (List Dt) → Prop
  | .ok ds => ∀ p vs G2 H2, Sq Lo G H G2 H2 → RwOk K Lo G2 H2 ρ → H p = none → G2 p = none → some p ≠ Lo → H2 p = some (.lst vs) → DqAll K G2 vs ds → Q (.ref p) H2
  | .error x => ∀ c da G2 H2, Sq Lo G H G2 H2 → RwOk K Lo G2 H2 ρ → ExOk mg x c da H2 → E c da H2
def XN (K : PySem.W.Frag) (mg : Str → Option Value) (E : XK) (t : TE) (g : ME (List Dt)) : Prop :=
  ∀ (Lo : Option Addr) (H0 : Hp) (σ : L2.St) (G H : Hp) (s : Ss) (ρ : Ro) (A : Nat → List Addr) (r : Except Exn (List Dt)) (ρ' : Ro) (Q : VK), g s ρ = some (r, ρ') → EnS K Lo H0 G H σ s ρ A → KtN K mg E Lo G H ρ' Q r → t σ H Q
theorem KtN.step {Q : VK} {r : Except Exn (List Dt)} (k : KtN K mg E Lo G H ρ Q r) (q : Sq Lo G H G1 H1) : KtN K mg E Lo G1 H1 ρ Q r := by
  cases r with
  | ok d => exact fun p vs G2 H2 s2 r2 hp => k p vs G2 H2 (q.trans s2) r2 (by
      cases h : H p with
      | none => rfl
      | some o => exact absurd hp (q.k p (by rw [h]; simp)))
  | error x => exact fun c da G2 H2 s2 => k c da G2 H2 (q.trans s2)
theorem xjn_at {α γ : Type} {P1 : Hp → α → γ → Prop} {t1 : L2.St → Hp → (α → Hp → Prop) → Prop} {g : ME γ} {k : γ → ME (List Dt)} {r : Except Exn (List Dt)} {Q : VK} {T : α → Hp → Prop}
    (h1 : XJ K mg E P1 t1 g) (hg : bnd g k s ρ = some (r, ρ')) (e : EnS K Lo H0 G H σ s ρ A) (q : KtN K mg E Lo G H ρ' Q r)
    (c : ∀ v d G1 H1 ρ1, Sq Lo G H G1 H1 → P1 G1 v d → k d s ρ1 = some (r, ρ') → EnS K Lo H0 G1 H1 σ s ρ1 A → KtN K mg E Lo G1 H1 ρ' Q r → T v H1) : t1 σ H T := by
  unfold bnd at hg
  cases h : g s ρ with
  | none => rw [h] at hg; cases hg
  | some p =>
    obtain ⟨r1, ρ1⟩ := p
    rw [h] at hg
    cases r1 with
    | error x =>
      cases hg
      exact h1 Lo H0 σ G H s ρ A _ _ _ h e q
    | ok d => exact h1 Lo H0 σ G H s ρ A _ _ _ h e fun v G1 H1 s1 r1 p1 => c v d G1 H1 ρ1 s1 p1 hg (e.step s1 r1) (q.step s1)
theorem EnS.new_lo {p : Addr} (e : EnS K Lo H0 G H σ s ρ A) (hp : H p = none) : some p ≠ Lo := fun h => e.lo p h.symm hp
/-- the new list is handed on -/
theorem KtN.new {Q : VK} {ds : List Dt} {vs : List V} {p : Addr} (q : KtN K mg E Lo G H ρ Q (.ok ds)) (e : EnS K Lo H0 G H σ s ρ A) (hp : H p = none) (dv : DqAll K G vs ds) : Q (.ref p) (upd H p (.lst vs)) :=
  q p vs G _ (Stp.hid e.gr hp).sq (e.row.step (Stp.hid e.gr hp)) hp (e.gr.back hp) (e.new_lo hp) upd_same dv
def fN (g : ME (List Dt)) : ME Dt := bnd g fun ds => ret (.list ds)
theorem xe_n {t : TE} {g : ME (List Dt)} (h : XN K mg E t g) : XE K mg E t (fN g) := fun Lo H0 σ G H s ρ A r ρ' Q hg e q => by
  unfold fN bnd at hg
  cases hq : g s ρ with
  | none => rw [hq] at hg; cases hg
  | some p =>
    obtain ⟨r1, ρ1⟩ := p
    rw [hq] at hg
    cases r1 with
    | error x =>
      cases hg
      exact h Lo H0 σ G H s ρ A _ _ _ hq e q
    | ok ds =>
      obtain ⟨rfl, rfl⟩ := ret_some (s := s) hg
      refine h Lo H0 σ G H s ρ A _ _ _ hq e fun p vs G2 H2 s2 r2 hp np nl h2 dv => ?_
      have g2 : Gr G2 (upd G2 p (.lst vs)) := .new np
      refine q _ (upd G2 p (.lst vs)) H2 ⟨s2.g.trans g2, fun a u ea => ?_, s2.h, s2.k, fun a h1 h0 => ?_⟩ (fun x hx => ?_) (.lst upd_same (Dqsu dv g2))
      · by_cases z : a = p
        · subst z; rw [upd_same] at ea; rw [h2]; exact ea
        · rw [upd_ne z] at ea; exact s2.s a u ea
      · have : a ≠ p := fun z => h1 (z ▸ hp)
        rw [upd_ne this]; exact s2.f a h1 h0
      · obtain ⟨L, e1, hr⟩ := r2 x hx
        obtain ⟨a, ea, ha⟩ := hr.at_
        have : L ≠ p := fun z => nl (by rw [e1, z])
        exact ⟨L, e1, by rw [upd_ne this]; exact hr.g, a, ea, gr_l g2 ha⟩
def RVn (K : PySem.W.Frag) (r : R2) (o : Dt → Dt → Option (List Dt)) : Prop := ∀ x y ds, o x y = some ds → ∀ (G H : Hp) (v u : V) (Q : VK), Gr G H → Dq K G v x → Dq K G u y → (∀ p vs, H p = none → DqAll K G vs ds → Q (.ref p) (upd H p (.lst vs))) → r v u H Q
def RCn (K : PySem.W.Frag) (r : List V → Hp → VK → Prop) (o : List Dt → Option (List Dt)) : Prop := ∀ xs ds, o xs = some ds → ∀ (G H : Hp) (vs : List V) (Q : VK), Gr G H → DqAll K G vs xs → (∀ p us, H p = none → DqAll K G us ds → Q (.ref p) (upd H p (.lst us))) → r vs H Q
def fOpN (o : Dt → Dt → Option (List Dt)) (a b : ME Dt) : ME (List Dt) := bnd a fun x => bnd b fun y => lft (o x y)
theorem xn_op {r : R2} {o : Dt → Dt → Option (List Dt)} {ta tb : TE} {a b : ME Dt} (hr : RVn K r o) (ha : XE K mg E ta a) (hb : XE K mg E tb b) : XN K mg E (tOp r ta tb) (fOpN o a b) := fun Lo H0 σ G H s ρ A r' ρ' Q hg e q => by
  show ta σ H _
  refine xjn_at ha hg e q fun v x G1 H1 ρ1 s1 dv hg e q => ?_
  show tb σ H1 _
  refine xjn_at hb hg e q fun u y G2 H2 ρ2 s2 du hg e q => ?_
  obtain ⟨z, hz, rfl, rfl⟩ := lft_some hg
  exact hr x y z hz G2 H2 v u Q e.gr (Dqu dv s2.g) du fun p vs hp dvs => q.new e hp dvs
def fCBN (o : List Dt → Option (List Dt)) (t : ME (List Dt)) : ME (List Dt) := bnd t fun xs => lft (o xs)
theorem xn_cb {r : List V → Hp → VK → Prop} {o : List Dt → Option (List Dt)} {tt : TA} {t : ME (List Dt)} (hr : RCn K r o) (ht : XA K mg E tt t) : XN K mg E (tCB r tt) (fCBN o t) := fun Lo H0 σ G H s ρ A r' ρ' Q hg e q => by
  show tt σ H _
  refine xjn_at ht hg e q fun v x G1 H1 ρ1 s1 dv hg e q => ?_
  obtain ⟨z, hz, rfl, rfl⟩ := lft_some hg
  exact hr x z hz G1 H1 v Q e.gr dv fun p vs hp dvs => q.new e hp dvs
def few (ds : List Dt) : Option (List Dt) := if ds.length ≤ 100000 then some ds else none
theorem few_some {ds es : List Dt} (h : few ds = some es) : es = ds ∧ ds.length ≤ 100000 := by
  unfold few at h
  split at h
  · rename_i hl; cases h; exact ⟨rfl, hl⟩
  · cases h
def fLst (t : ME (List Dt)) : ME (List Dt) := bnd t fun ds => lft (few ds)
theorem xn_lst {tt : TA} {t : ME (List Dt)} (ht : XA K mg E tt t) : XN K mg E (tLst tt) (fLst t) := fun Lo H0 σ G H s ρ A r' ρ' Q hg e q => by
  show tt σ H _
  refine xjn_at ht hg e q fun v x G1 H1 ρ1 s1 dv hg e q => ?_
  obtain ⟨z, hz, rfl, rfl⟩ := lft_some hg
  obtain ⟨rfl, hl⟩ := few_some hz
  exact ⟨by rw [dqs_len dv]; exact Evl.sz_of hl, fun p hp => q.new e hp dv⟩
def oCat (x y : Dt) : Option (List Dt) := match x, y with
  | .list a, .list b => few (a ++ b)
  | _, _ => none
theorem rvn_cat : RVn K rCat oCat := fun x y ds h G H v u Q s a b q => by
  unfold oCat at h
  split at h
  · obtain ⟨rfl, hl⟩ := few_some h
    cases a with
    | lst h1 h2 =>
      cases b with
      | lst k1 k2 => exact ⟨_, _, _, _, rfl, rfl, s _ _ h1, s _ _ k1, by rw [dqs_len h2, dqs_len k2, ← List.length_append]; exact Evl.sz_of hl, fun p hp => q p _ hp (dqs_app h2 k2)⟩
  · cases h
def oRep (x y : Dt) : Option (List Dt) := match x, y with
  | .list a, .int k => if -1000 ≤ k ∧ k ≤ 1000 ∧ a.length ≤ 100 then some (List.replicate k.toNat a).flatten else none
  | _, _ => none
theorem rvn_rep : RVn K rRep oRep := fun x y ds h G H v u Q s a b q => by
  unfold oRep at h
  split at h
  · split at h
    · rename_i k hk
      cases h
      cases b
      cases a with
      | lst h1 h2 =>
        refine ⟨_, _, _, rfl, rfl, s _ _ h1, by omega, by omega, ?_, fun p hp => q p _ hp (dqs_rep h2 _)⟩
        rw [dqs_len h2]
        have h3 : k.toNat ≤ 1000 := by omega
        exact Evl.sz_of (Nat.le_trans (Nat.mul_le_mul hk.2.2 h3) (by decide))
    · cases h
  · cases h
def oListOf : List Dt → Option (List Dt)
  | [x] => seqD x
  | _ => none
theorem rcn_listOf : RCn K (rListOf K) oListOf := fun xs ds h G H vs Q s a q => by
  unfold oListOf at h
  split at h
  · rename_i x
    cases a with
    | cons a b =>
      cases b
      cases x with
      | list ds' =>
        cases h
        cases a with
        | lst h1 h2 => exact ⟨_, _, rfl, .inl (SqL.of (s _ _ h1)), fun l hl => q l _ hl h2⟩
      | tuple ds' =>
        cases h
        cases a with
        | tup h1 h2 => exact ⟨_, _, rfl, .inr (gr_t s h1), fun l hl => q l _ hl h2⟩
      | none => cases h
      | bool _ => cases h
      | int _ => cases h
      | str _ => cases h
      | dict _ => cases h
  · cases h
def oSorted : List Dt → Option (List Dt)
  | [.list ds] => match toInts ds with
    | some is => some ((srt is).map .int)
    | none => none
  | _ => none
theorem rcn_sorted : RCn K (rSortedI K) oSorted := fun xs ds h G H vs Q s a q => by
  unfold oSorted at h
  split at h
  · split at h
    · rename_i ds' is e
      cases h
      have e' := toInts_eq e
      subst e'
      cases a with
      | cons a b =>
        cases b
        cases a with
        | lst h1 h2 =>
          have ev := ints_of h2.p
          subst ev
          refine ⟨_, is, rfl, SqL.of (s _ _ h1), fun ns' p hp1 hp2 hp => ?_⟩
          have e2 : ns' = srt is := pw_uniq (hp1.trans (srt_perm is).symm) hp2 (srt_sorted is)
          subst e2
          exact q p _ hp (dqs_ints _)
    · cases h
  · cases h
/-! ### what is walked -/
structure WalkQ (K : PySem.W.Frag) (J : It) (G0 : Hp) (ds : List Dt) : Prop where
  go : ∀ i G H, Gr G0 G → Gr G H → i < ds.length → J.go i H
  stop : ∀ G H, Gr G0 G → Gr G H → J.stop ds.length H
  yld : ∀ i G H x H2, Gr G0 G → Gr G H → i < ds.length → J.yld i H x H2 → ∃ G2 d, Stp G H G2 H2 ∧ ds[i]? = some d ∧ Dq K G2 x d
abbrev XI (K : PySem.W.Frag) (mg : Str → Option Value) (E : XK) (t : TI) (g : ME (List Dt)) : Prop := XJ K mg E (fun G J ds => WalkQ K J G ds) t g
theorem walkQ_list {a : Addr} {vs : List V} {ds : List Dt} (h : SqL K G a vs) (hd : DqAll K G vs ds) : WalkQ K (Itl K a) G ds where
  go := fun i G1 H1 a b hi => ⟨vs, vs[i]'(by rw [dqs_len hd]; exact hi), gr_l b (gr_l a h), by simp [dqs_len hd, hi]⟩
  stop := fun G1 H1 a b => ⟨vs, gr_l b (gr_l a h), by rw [dqs_len hd]; exact Nat.le_refl _⟩
  yld := fun i G1 H1 x H2 a b hi y => by
    obtain ⟨e, y⟩ := y
    subst e
    obtain ⟨d, e1, e2⟩ := dqs_get' hd (y vs (gr_l b (gr_l a h)))
    exact ⟨G1, d, .refl b, e1, Dqu e2 a⟩
theorem walkQ_range {lo : Int} {n : Nat} : WalkQ K (Itr lo n) G (upto lo n) where
  go := fun i G1 H1 a b hi => by rw [upto_len] at hi; exact hi
  stop := fun G1 H1 a b => by rw [upto_len]; exact Nat.le_refl _
  yld := fun i G1 H1 x H2 a b hi y => by
    obtain ⟨e, y⟩ := y
    subst e y
    rw [upto_len] at hi
    exact ⟨G1, _, .refl b, upto_get hi, .int _⟩
theorem walkQ_enumT {a : Addr} {vs : List V} {ds : List Dt} (h : SqT K G a vs) (hd : DqAll K G vs ds) : WalkQ K (Iteu K a) G (pairsFrom 0 ds) where
  go := fun i G1 H1 a b hi => by
    rw [pairs_len] at hi
    exact ⟨vs, vs[i]'(by rw [dqs_len hd]; exact hi), gr_t b (gr_t a h), by simp [dqs_len hd, hi]⟩
  stop := fun G1 H1 a b => ⟨vs, gr_t b (gr_t a h), by rw [dqs_len hd, pairs_len]⟩
  yld := fun i G1 H1 x H2 a b hi y => by
    obtain ⟨T, v, e, hT, eH, y⟩ := y
    subst e eH
    obtain ⟨d, e1, e2⟩ := dqs_get' hd (y vs (gr_t b (gr_t a h)))
    have n := newq_t (ds := [.int (i : Nat), d]) b hT (.cons (.int _) (.cons (Dqu e2 a) .nil))
    exact ⟨_, _, n.1, by rw [pairs_get e1, Nat.zero_add], n.2⟩
theorem walkQ_str {z : Str} : WalkQ K (Its z) G (z.cps.toList.map fun c => .str (sg c)) where
  go := fun i G1 H1 a b hi => by rw [List.length_map, Array.length_toList] at hi; exact hi
  stop := fun G1 H1 a b => by rw [List.length_map, Array.length_toList]; exact Nat.le_refl _
  yld := fun i G1 H1 x H2 a b hi y => by
    obtain ⟨e, c, hc, rfl⟩ := y
    subst e
    refine ⟨G1, _, .refl b, ?_, .str _⟩
    rw [List.getElem?_map, Array.getElem?_toList, hc]; rfl
/-- a walked list, or a tuple -/
def fItL (a : ME Dt) : ME (List Dt) := bnd a fun x => lft (match x with
  | .list ds => some ds
  | _ => none)
def fItT (a : ME Dt) : ME (List Dt) := bnd a fun x => lft (match x with
  | .tuple ds => some ds
  | _ => none)
def fItO (a : ME Dt) : ME (List Dt) := bnd a fun x => lft (seqD x)
theorem xi_list {tl : TE} {a : ME Dt} (h : XE K mg E tl a) : XI K mg E (iList K tl) (fItL a) := fun Lo H0 σ G H s ρ A r ρ' Q hg e q => by
  show tl σ H _
  refine xj_at h hg e q fun v x G1 H1 ρ1 s1 dv hg e q => ?_
  obtain ⟨z, hz, rfl, rfl⟩ := lft_some hg
  cases x <;> cases hz
  cases dv with
  | lst h1 h2 => exact ⟨_, rfl, ⟨_, SqL.of (e.gr _ _ h1)⟩, q.ok e (.refl e.gr) (walkQ_list (SqL.of h1) h2)⟩
def oRng1 : List Dt → Option (List Dt)
  | [.int j] => if -1000000 ≤ j ∧ j ≤ 1000000 then some (upto 0 j.toNat) else none
  | _ => none
def oRng2 : List Dt → Option (List Dt)
  | [.int i, .int j] => if (-1000000 ≤ i ∧ i ≤ 1000000) ∧ -1000000 ≤ j ∧ j ≤ 1000000 then some (upto i (j - i).toNat) else none
  | _ => none
def fRng1 (t : ME (List Dt)) : ME (List Dt) := bnd t fun ds => lft (oRng1 ds)
def fRng2 (t : ME (List Dt)) : ME (List Dt) := bnd t fun ds => lft (oRng2 ds)
theorem xi_rng1 {tt : TA} {t : ME (List Dt)} (h : XA K mg E tt t) : XI K mg E (iRng1 tt) (fRng1 t) := fun Lo H0 σ G H s ρ A r ρ' Q hg e q => by
  show tt σ H _
  refine xj_at h hg e q fun v x G1 H1 ρ1 s1 dv hg e q => ?_
  obtain ⟨z, hz, rfl, rfl⟩ := lft_some hg
  unfold oRng1 at hz
  split at hz
  · split at hz
    · rename_i j hj
      cases hz
      cases dv with
      | cons a b => cases b; cases a; exact ⟨j, rfl, by omega, by omega, q.ok e (.refl e.gr) walkQ_range⟩
    · cases hz
  · cases hz
def fEnumL (a : ME Dt) : ME (List Dt) := bnd a fun x => lft (match x with
  | .list ds => some (pairsFrom 0 ds)
  | _ => none)
def fEnumT (a : ME Dt) : ME (List Dt) := bnd a fun x => lft (match x with
  | .tuple ds => some (pairsFrom 0 ds)
  | _ => none)
theorem xi_enumT {tl : TE} {a : ME Dt} (h : XE K mg E tl a) : XI K mg E (iEnumT K tl) (fEnumT a) := fun Lo H0 σ G H s ρ A r ρ' Q hg e q => by
  show tl σ H _
  refine xj_at h hg e q fun v x G1 H1 ρ1 s1 dv hg e q => ?_
  obtain ⟨z, hz, rfl, rfl⟩ := lft_some hg
  cases x <;> cases hz
  cases dv with
  | tup h1 h2 => exact ⟨_, _, rfl, gr_t e.gr h1, q.ok e (.refl e.gr) (walkQ_enumT h1 h2)⟩
def fItS (a : ME Dt) : ME (List Dt) := bnd a fun x => lft (match x with
  | .str z => some (z.cps.toList.map fun c => .str (sg c))
  | _ => none)
theorem xi_str {tl : TE} {a : ME Dt} (h : XE K mg E tl a) : XI K mg E (iStr tl) (fItS a) := fun Lo H0 σ G H s ρ A r ρ' Q hg e q => by
  show tl σ H _
  refine xj_at h hg e q fun v x G1 H1 ρ1 s1 dv hg e q => ?_
  obtain ⟨z, hz, rfl, rfl⟩ := lft_some hg
  cases x <;> cases hz
  cases dv
  exact ⟨_, rfl, q.ok e (.refl e.gr) walkQ_str⟩
/-! ### targets -/
abbrev FG := Dt → Ss → Option Ss
abbrev FGs := List Dt → Ss → Option Ss
def XG (K : PySem.W.Frag) (g : TG) (f : FG) (js : List Nat) : Prop := ∀ (Lo : Option Addr) (H0 : Hp) (v : V) (σ : L2.St) (G H : Hp) (s : Ss) (ρ : Ro) (A : Nat → List Addr) (d : Dt) (s' : Ss) (Q : L2.St → Hp → Prop), f d s = some s' → EnS K Lo H0 G H σ s ρ A → Dq K G v d →
  (∀ σ', EnS K Lo H0 G H σ' s' ρ A → (∀ vs : List Nat, (∀ j ∈ js, j ∈ vs) → wipe σ' vs = wipe σ vs) → Q σ' H) → g v σ H Q
def XGs (K : PySem.W.Frag) (g : TGs) (f : FGs) (js : List Nat) : Prop := ∀ (Lo : Option Addr) (H0 : Hp) (vs : List V) (σ : L2.St) (G H : Hp) (s : Ss) (ρ : Ro) (A : Nat → List Addr) (ds : List Dt) (s' : Ss) (Q : L2.St → Hp → Prop), f ds s = some s' → EnS K Lo H0 G H σ s ρ A → DqAll K G vs ds →
  (∀ σ', EnS K Lo H0 G H σ' s' ρ A → (∀ vs : List Nat, (∀ j ∈ js, j ∈ vs) → wipe σ' vs = wipe σ vs) → Q σ' H) → g vs σ H Q
def fgName (j : Nat) : FG := fun d s => some (s.set j (some (.d d)))
theorem xg_name (j : Nat) : XG K (gName j) (fgName j) [j] := fun Lo H0 v σ G H s ρ A d s' Q hf e dv q => by
  cases hf
  exact q _ (e.setD j dv) fun vs hv => wipe_set σ j _ vs (hv j (by simp))
def fgNil : FGs := fun ds s => match ds with
  | [] => some s
  | _ => none
def fgCons (f : FG) (fs : FGs) : FGs := fun ds s => match ds with
  | [] => none
  | d :: ds => match f d s with
    | some s1 => fs ds s1
    | none => none
theorem xgs_nil : XGs K gNil fgNil [] := fun Lo H0 vs σ G H s ρ A ds s' Q hf e dv q => by
  cases dv with
  | nil => cases hf; exact ⟨rfl, q σ e fun _ _ => rfl⟩
  | cons a b => cases hf
theorem xgs_cons {g : TG} {gs : TGs} {f : FG} {fs : FGs} {js ks : List Nat} (h1 : XG K g f js) (h2 : XGs K gs fs ks) : XGs K (gCons g gs) (fgCons f fs) (js ++ ks) := fun Lo H0 vs σ G H s ρ A ds s' Q hf e dv q => by
  cases dv with
  | nil => cases hf
  | cons a b =>
    unfold fgCons at hf
    simp only [] at hf
    split at hf
    · rename_i hs
      refine ⟨_, _, rfl, h1 Lo H0 _ σ G H s ρ A _ _ _ hs e a fun σ1 e1 w1 => h2 Lo H0 _ σ1 G H _ ρ A _ _ _ hf e1 b fun σ2 e2 w2 => q σ2 e2 fun us hu => ?_⟩
      rw [w2 us fun j hj => hu j (List.mem_append_right _ hj), w1 us fun j hj => hu j (List.mem_append_left _ hj)]
    · cases hf
def fgTup (n : Nat) (fs : FGs) : FG := fun d s => match d with
  | .tuple ds => if ds.length = n then fs ds s else none
  | _ => none
theorem xg_tup {n : Nat} {gs : TGs} {fs : FGs} {js : List Nat} (h : XGs K gs fs js) : XG K (gTup K n gs) (fgTup n fs) js := fun Lo H0 v σ G H s ρ A d s' Q hf e dv q => by
  unfold fgTup at hf
  split at hf
  · split at hf
    · rename_i hl
      cases dv with
      | tup h1 h2 => exact ⟨_, _, rfl, gr_t e.gr h1, by rw [dqs_len h2, hl], h Lo H0 _ σ G H s ρ A _ _ _ hf e h2 q⟩
    · cases hf
  · cases hf
end
end Sb

/-! Seamboard, layer F5: comprehensions, statements, loops. -/
namespace Sb
open PySem PySem.Spec PyProof.Rows L2
/-! ### comprehensions -/
def lcGo (tg : FG) (t : ME Bool) (e : ME Dt) (s0 : Ss) : List Dt → Ro → Option (List Dt × Ro)
  | [], ρ => some ([], ρ)
  | d :: ds, ρ => match tg d s0 with
    | none => none
    | some s1 => match t s1 ρ with
      | some (.ok true, ρ1) => match e s1 ρ1 with
        | some (.ok x, ρ2) => match lcGo tg t e s0 ds ρ2 with
          | some (xs, ρ3) => some (x :: xs, ρ3)
          | none => none
        | _ => none
      | some (.ok false, ρ1) => lcGo tg t e s0 ds ρ1
      | _ => none
def fLc (i : ME (List Dt)) (tg : FG) (t : ME Bool) (e : ME Dt) (vs : List Nat) : ME (List Dt) := bnd i fun ds s ρ => if ds.length ≤ 50000 then match lcGo tg t e (wipeS s vs) ds ρ with
  | none => none
  | some (xs, ρ1) => some (.ok xs, ρ1)
  else none
def lc2Go (tg : FG) (t : ME Bool) (i1 : ME (List Dt)) (tg1 : FG) (t1 : ME Bool) (e : ME Dt) (vs1 : List Nat) (s0 : Ss) : List Dt → Ro → Option (List Dt × Ro)
  | [], ρ => some ([], ρ)
  | d :: ds, ρ => match tg d s0 with
    | none => none
    | some s1 => match t s1 ρ with
      | some (.ok true, ρ1) => match i1 s1 ρ1 with
        | some (.ok es, ρ2) => match lcGo tg1 t1 e (wipeS s1 vs1) es ρ2 with
          | some (xs, ρ3) => match lc2Go tg t i1 tg1 t1 e vs1 s0 ds ρ3 with
            | some (ys, ρ4) => some (xs ++ ys, ρ4)
            | none => none
          | none => none
        | _ => none
      | some (.ok false, ρ1) => lc2Go tg t i1 tg1 t1 e vs1 s0 ds ρ1
      | _ => none
def fLc2 (i : ME (List Dt)) (tg : FG) (t : ME Bool) (i1 : ME (List Dt)) (tg1 : FG) (t1 : ME Bool) (e : ME Dt) (vs vs1 : List Nat) : ME (List Dt) := bnd i fun ds s ρ => match lc2Go tg t i1 tg1 t1 e vs1 (wipeS s vs) ds ρ with
  | none => none
  | some (xs, ρ1) => if xs.length ≤ 50000 then some (.ok xs, ρ1) else none
section
variable {K : PySem.W.Frag} {mg : Str → Option Value} {E : XK} {Lo : Option Addr} {H0 G H G1 H1 G2 H2 : Hp} {σ : L2.St} {s : Ss} {ρ ρ' : Ro} {A : Nat → List Addr}
theorem wipe_wipe (σ : L2.St) (vs : List Nat) : wipe (wipe σ vs) vs = wipe σ vs := by
  apply List.ext_getElem?
  intro k
  rw [wipe_at, wipe_at, wipe_length]
  split <;> rfl
/-- a list that is made at D, hidden -/
structure Hid (K : PySem.W.Frag) (Lo : Option Addr) (G H G2 H2 : Hp) (D : Addr) (ρ : Ro) (ds : List Dt) : Prop where
  sq : Sq Lo G H G2 H2
  row : RwOk K Lo G2 H2 ρ
  g : G2 D = none
  at_ : ∃ vs, H2 D = some (.lst vs) ∧ DqAll K G2 vs ds
theorem Hid.step {D : Addr} {ds : List Dt} {ρ2 : Ro} (h : Hid K Lo G H G1 H1 D ρ ds) (q : Sq Lo G1 H1 G2 H2) (r : RwOk K Lo G2 H2 ρ2) (nl : some D ≠ Lo) : Hid K Lo G H G2 H2 D ρ2 ds := by
  obtain ⟨vs, a, b⟩ := h.at_
  exact ⟨h.sq.trans q, r, q.f D (by rw [a]; simp) h.g, vs, q.h D _ nl a, Dqsu b q.g⟩
theorem Sq.put {p : Addr} {u : HO} (s : Sq Lo G H G2 H2) (hp : H p = none) (hg : G2 p = none) : Sq Lo G H G2 (upd H2 p u) :=
  ⟨s.g, fun a o e => by
    have : a ≠ p := fun q => by rw [q, hg] at e; cases e
    rw [upd_ne this]; exact s.s a o e, fun a o n e => by
    have : a ≠ p := fun q => by rw [q, hp] at e; cases e
    rw [upd_ne this]; exact s.h a o n e, fun a e => by
    by_cases q : a = p
    · subst q; rw [upd_same]; simp
    · rw [upd_ne q]; exact s.k a e, s.f⟩
theorem RwOk.put {p : Addr} {u : HO} (r : RwOk K Lo G H ρ) (nl : some p ≠ Lo) : RwOk K Lo G (upd H p u) ρ := fun x hx => by
  obtain ⟨L, e, hr⟩ := r x hx
  obtain ⟨a, ea, ha⟩ := hr.at_
  have : L ≠ p := fun z => nl (by rw [e, z])
  exact ⟨L, e, hr.g, a, by rw [upd_ne this]; exact ea, ha⟩
/-- one turn's thing is put behind -/
theorem Hid.push {D : Addr} {ds : List Dt} {d : Dt} {v : V} (h : Hid K Lo G H G1 H1 D ρ ds) (hD : H D = none) (nl : some D ≠ Lo) (dv : Dq K G1 v d) : ∃ acc, H1 D = some (.lst acc) ∧ acc.length = ds.length ∧ Hid K Lo G H G1 (upd H1 D (.lst (acc ++ [v]))) D ρ (ds ++ [d]) := by
  obtain ⟨vs, a, b⟩ := h.at_
  exact ⟨vs, a, dqs_len b, h.sq.put hD h.g, h.row.put nl, h.g, _, upd_same, dqs_app b (.cons dv .nil)⟩
theorem xn_lc {wi : TI} {g : TG} {tt : TT} {te : TE} {i : ME (List Dt)} {tg : FG} {t : ME Bool} {e : ME Dt} {js vs : List Nat} (hi : XI K mg E wi i) (hg : XG K g tg js) (hj : ∀ j ∈ js, j ∈ vs) (ht : XT K mg E tt t) (he : XE K mg E te e) : XN K mg E (tLc wi g tt te vs) (fLc i tg t e vs) := fun Lo H0 σ G H s ρ A r ρ' Q hr en q => by
  show wi σ H _
  refine xjn_at hi hr en q fun J ds G1 H1 ρ1 s1 w hr en q => fun D hD => ?_
  split at hr
  case isFalse => cases hr
  rename_i hlen
  cases hq : lcGo tg t e (wipeS s vs) ds ρ1 with
  | none => rw [hq] at hr; cases hr
  | some p =>
    obtain ⟨xs, ρe⟩ := p
    rw [hq] at hr
    cases hr
    have nl := en.new_lo hD
    refine ⟨fun k m H' => m = ds.length - k ∧ k ≤ ds.length ∧ ∃ G' ρk done rest, Hid K Lo G1 H1 G' H' D ρk done ∧ done.length ≤ k ∧ lcGo tg t e (wipeS s vs) (ds.drop k) ρk = some (rest, ρ') ∧ done ++ rest = xs,
      ⟨ds.length, rfl, Nat.zero_le _, G1, ρ1, [], xs, ⟨(Stp.hid en.gr hD).sq, en.row.step (Stp.hid en.gr hD), en.gr.back hD, [], upd_same, .nil⟩, Nat.zero_le _, hq, rfl⟩, ?_⟩
    rintro k m H' ⟨rfl, hle, G', ρk, done, rest, hid, hdl, hgo, hxs⟩
    have e' : EnS K Lo H0 G' H' σ s ρk A := en.step hid.sq hid.row
    by_cases hlt : k < ds.length
    · refine .inr ⟨w.go k G' H' hid.sq.g e'.gr hlt, fun H'' => ∃ G'' ρk done rest, Hid K Lo G1 H1 G'' H'' D ρk done ∧ done.length ≤ k + 1 ∧ lcGo tg t e (wipeS s vs) (ds.drop (k + 1)) ρk = some (rest, ρ') ∧ done ++ rest = xs,
        fun H'' ⟨G'', a, b, c, f1, f2, f3, f4⟩ => ⟨ds.length - (k + 1), by omega, rfl, hlt, G'', a, b, c, f1, f2, f3, f4⟩, fun x H2 y => ?_⟩
      obtain ⟨G2, d, s2, hd, dx⟩ := w.yld k G' H' x H2 hid.sq.g e'.gr hlt y
      have hdr : ds.drop k = d :: ds.drop (k + 1) := by
        rw [List.drop_eq_getElem_cons hlt]
        congr 1
        rw [List.getElem?_eq_getElem hlt] at hd
        exact Option.some.inj hd
      rw [hdr] at hgo
      unfold lcGo at hgo
      cases htg : tg d (wipeS s vs) with
      | none => rw [htg] at hgo; cases hgo
      | some s3 =>
        rw [htg] at hgo
        simp only [] at hgo
        have en2 := e'.stp s2
        have hid2 := hid.step s2.sq en2.row nl
        refine hg Lo H0 x _ G2 H2 _ ρk A d s3 _ htg (en2.wipe vs) dx fun σ3 en3 w3 => ⟨by rw [w3 vs hj]; exact wipe_wipe _ _, ?_⟩
        cases htt : t s3 ρk with
        | none => rw [htt] at hgo; cases hgo
        | some p =>
          obtain ⟨rb, ρb⟩ := p
          rw [htt] at hgo
          cases rb with
          | error z => cases hgo
          | ok b =>
            refine ht Lo H0 σ3 G2 H2 s3 ρk A _ _ _ htt en3 fun b' G3 H3 q3 r3 eb => ?_
            subst eb
            have hid3 := hid2.step q3 r3 nl
            cases b' with
            | true =>
              refine iteT ?_
              simp only [] at hgo
              cases hte : e s3 ρb with
              | none => rw [hte] at hgo; cases hgo
              | some p =>
                obtain ⟨rx, ρx⟩ := p
                rw [hte] at hgo
                cases rx with
                | error z => cases hgo
                | ok z =>
                  simp only [] at hgo
                  refine he Lo H0 σ3 G3 H3 s3 ρb A _ _ _ hte (en3.step q3 r3) fun v G4 H4 q4 r4 dv => ?_
                  have hid4 := hid3.step q4 r4 nl
                  obtain ⟨acc, ha, hl, hp⟩ := hid4.push hD nl dv
                  split at hgo
                  · rename_i hrest
                    cases hgo
                    exact ⟨acc, ha, by rw [hl]; exact Evl.sz_lt (by omega), G4, ρx, done ++ [z], _, hp, by rw [List.length_append, List.length_singleton]; omega, hrest, by rw [List.append_assoc]; exact hxs⟩
                  · cases hgo
            | false =>
              simp only [] at hgo
              exact iteF ⟨G3, ρb, done, rest, hid3, by omega, hgo, hxs⟩
    · have hk : k = ds.length := by omega
      subst hk
      rw [List.drop_length] at hgo
      unfold lcGo at hgo
      cases hgo
      rw [List.append_nil] at hxs
      subst hxs
      obtain ⟨vs', a, b⟩ := hid.at_
      exact .inl ⟨w.stop G' H' hid.sq.g e'.gr, q D vs' G' H' hid.sq hid.row hD hid.g nl a b⟩
end
end Sb

/-! Seamboard, layer F6: two clauses; statements. -/
namespace Sb
open PySem PySem.Spec PyProof.Rows L2
section
variable {K : PySem.W.Frag} {mg : Str → Option Value} {E : XK} {Lo : Option Addr} {H0 G H G1 H1 G2 H2 : Hp} {σ : L2.St} {s : Ss} {ρ ρ' : Ro} {A : Nat → List Addr}
structure SqD (D : Addr) (Lo : Option Addr) (G H G2 H2 : Hp) : Prop where
  g : Gr G G2
  s : Gr G2 H2
  h : ∀ a o, some a ≠ Lo → a ≠ D → H a = some o → H2 a = some o
  k : ∀ a, H a ≠ none → H2 a ≠ none
  f : ∀ a, H a ≠ none → G a = none → G2 a = none
theorem Sq.d {D : Addr} (q : Sq Lo G H G2 H2) : SqD D Lo G H G2 H2 := ⟨q.g, q.s, fun a o n _ e => q.h a o n e, q.k, q.f⟩
theorem SqD.trans {D : Addr} (a : SqD D Lo G H G1 H1) (b : SqD D Lo G1 H1 G2 H2) : SqD D Lo G H G2 H2 :=
  ⟨a.g.trans b.g, b.s, fun x o n m e => b.h x o n m (a.h x o n m e), fun x e => b.k x (a.k x e), fun x h1 h2 => b.f x (a.k x h1) (a.f x h1 h2)⟩
theorem SqD.push {D : Addr} {u : HO} (s : Gr G H) (hg : G D = none) : SqD D Lo G H G (upd H D u) :=
  ⟨.refl _, fun a o e => by
    have : a ≠ D := fun q => by rw [q, hg] at e; cases e
    rw [upd_ne this]; exact s a o e, fun a o _ n e => by rw [upd_ne n]; exact e, fun a e => by
    by_cases q : a = D
    · subst q; rw [upd_same]; simp
    · rw [upd_ne q]; exact e, fun _ _ h => h⟩
end
end Sb

/-! Seamboard, layer F7: statements. -/
namespace Sb
open PySem PySem.Spec PyProof.Rows L2
def PostX (K : PySem.W.Frag) (mg : Str → Option Value) (E : XK) (Lo : Option Addr) (D : Ends) (H0 G H : Hp) : Ot → Prop
  | .nx s ρ => ∀ σ A G2 H2, Sr Lo H0 G H G2 H2 → EnS K Lo H0 G2 H2 σ s ρ A → D.nx σ H2
  | .bk s ρ => ∀ σ A G2 H2, Sr Lo H0 G H G2 H2 → EnS K Lo H0 G2 H2 σ s ρ A → D.bk σ H2
  | .ct s ρ => ∀ σ A G2 H2, Sr Lo H0 G H G2 H2 → EnS K Lo H0 G2 H2 σ s ρ A → D.ct σ H2
  | .rt d ρ => ∀ v G2 H2, Sr Lo H0 G H G2 H2 → RwOk K Lo G2 H2 ρ → Dq K G2 v d → D.rt v H2
  | .er x ρ => ∀ c da G2 H2, Sr Lo H0 G H G2 H2 → RwOk K Lo G2 H2 ρ → ExOk mg x c da H2 → E c da H2
def XS (K : PySem.W.Frag) (mg : Str → Option Value) (E : XK) (t : TS) (h : MS) : Prop :=
  ∀ (Lo : Option Addr) (H0 : Hp) (D : Ends) (σ : L2.St) (G H : Hp) (s : Ss) (ρ : Ro) (A : Nat → List Addr) (o : Ot), h s ρ = some o → EnS K Lo H0 G H σ s ρ A → PostX K mg E Lo D H0 G H o → t D σ H
section
variable {K : PySem.W.Frag} {mg : Str → Option Value} {E : XK} {Lo : Option Addr} {H0 G H G1 H1 G2 H2 : Hp} {σ : L2.St} {s : Ss} {ρ ρ' : Ro} {A : Nat → List Addr} {D : Ends} {o : Ot}
theorem PostX.step (p : PostX K mg E Lo D H0 G H o) (q : Sr Lo H0 G H G1 H1) : PostX K mg E Lo D H0 G1 H1 o := by
  cases o with
  | nx s ρ => exact fun σ A G2 H2 q2 => p σ A G2 H2 (q.trans q2)
  | bk s ρ => exact fun σ A G2 H2 q2 => p σ A G2 H2 (q.trans q2)
  | ct s ρ => exact fun σ A G2 H2 q2 => p σ A G2 H2 (q.trans q2)
  | rt d ρ => exact fun v G2 H2 q2 => p v G2 H2 (q.trans q2)
  | er x ρ => exact fun c da G2 H2 q2 => p c da G2 H2 (q.trans q2)
/-- an expression ahead of what goes on -/
theorem xs_at {α γ : Type} {P1 : Hp → α → γ → Prop} {t1 : L2.St → Hp → (α → Hp → Prop) → Prop} {g : ME γ} {k : γ → MS} {T : α → Hp → Prop}
    (h1 : XJ K mg E P1 t1 g) (hg : fOut g k s ρ = some o) (e : EnS K Lo H0 G H σ s ρ A) (q : PostX K mg E Lo D H0 G H o)
    (c : ∀ v d G1 H1 ρ1, Sq Lo G H G1 H1 → P1 G1 v d → k d s ρ1 = some o → EnS K Lo H0 G1 H1 σ s ρ1 A → PostX K mg E Lo D H0 G1 H1 o → T v H1) : t1 σ H T := by
  unfold fOut at hg
  cases h : g s ρ with
  | none => rw [h] at hg; cases hg
  | some p =>
    obtain ⟨r1, ρ1⟩ := p
    rw [h] at hg
    cases r1 with
    | error x =>
      cases hg
      exact h1 Lo H0 σ G H s ρ A _ _ _ h e fun c da G2 H2 s2 r2 hx => q c da G2 H2 (s2.sr e.low) r2 hx
    | ok d => exact h1 Lo H0 σ G H s ρ A _ _ _ h e fun v G1 H1 s1 r1 p1 => c v d G1 H1 ρ1 s1 p1 hg (e.step s1 r1) (q.step (s1.sr e.low))
/-- .. a new list -/
theorem xs_atN {g : ME (List Dt)} {t1 : TE} {k : List Dt → MS} {T : VK}
    (h1 : XN K mg E t1 g) (hg : fOut g k s ρ = some o) (e : EnS K Lo H0 G H σ s ρ A) (q : PostX K mg E Lo D H0 G H o)
    (c : ∀ p vs ds G1 H1 ρ1, Sq Lo G H G1 H1 → H p = none → G1 p = none → some p ≠ Lo → H1 p = some (.lst vs) → DqAll K G1 vs ds → k ds s ρ1 = some o → EnS K Lo H0 G1 H1 σ s ρ1 A → PostX K mg E Lo D H0 G1 H1 o → T (.ref p) H1) : t1 σ H T := by
  unfold fOut at hg
  cases h : g s ρ with
  | none => rw [h] at hg; cases hg
  | some p =>
    obtain ⟨r1, ρ1⟩ := p
    rw [h] at hg
    cases r1 with
    | error x =>
      cases hg
      exact h1 Lo H0 σ G H s ρ A _ _ _ h e fun c da G2 H2 s2 r2 hx => q c da G2 H2 (s2.sr e.low) r2 hx
    | ok d => exact h1 Lo H0 σ G H s ρ A _ _ _ h e fun p vs G1 H1 s1 r1 hp hg1 nl h1 dv => c p vs d G1 H1 ρ1 s1 hp hg1 nl h1 dv hg (e.step s1 r1) (q.step (s1.sr e.low))
def fNext : MS := fun s ρ => some (.nx s ρ)
theorem xs_next : XS K mg E tNext fNext := fun Lo H0 D σ G H s ρ A o h e q => by
  cases h
  exact q σ A G H (.refl e.gr) e
def fSeq (a b : MS) : MS := fun s ρ => match a s ρ with
  | some (.nx s1 ρ1) => b s1 ρ1
  | o => o
theorem xs_seq {t u : TS} {a b : MS} (ha : XS K mg E t a) (hb : XS K mg E u b) : XS K mg E (tSeq t u) (fSeq a b) := fun Lo H0 D σ G H s ρ A o h e q => by
  unfold fSeq at h
  cases h1 : a s ρ with
  | none => rw [h1] at h; cases h
  | some o1 =>
    rw [h1] at h
    refine ha Lo H0 { D with nx := u D } σ G H s ρ A o1 h1 e ?_
    cases o1 with
    | nx s1 ρ1 => exact fun σ2 A2 G2 H2 q2 e2 => hb Lo H0 D σ2 G2 H2 s1 ρ1 A2 o h e2 (q.step q2)
    | bk s ρ => cases h; exact q
    | ct s ρ => cases h; exact q
    | rt d ρ => cases h; exact q
    | er x ρ => cases h; exact q
def fBreak : MS := fun s ρ => some (.bk s ρ)
def fCont : MS := fun s ρ => some (.ct s ρ)
def fDrop (a : ME Dt) : MS := fOut a fun _ s ρ => some (.nx s ρ)
def fRet (a : ME Dt) : MS := fOut a fun d _ ρ => some (.rt d ρ)
theorem xs_ret {ta : TE} {a : ME Dt} (ha : XE K mg E ta a) : XS K mg E (tRet ta) (fRet a) := fun Lo H0 D σ G H s ρ A o h e q => by
  show ta σ H _
  refine xs_at ha h e q fun v d G1 H1 ρ1 s1 dv h e q => ?_
  cases h
  exact q v G1 H1 (.refl e.gr) e.row dv
def fRetN : MS := fun _ ρ => some (.rt .none ρ)
def fIfS (c : ME Bool) (a b : MS) : MS := fOut c fun x => if x = true then a else b
theorem xs_if {tc : TT} {t u : TS} {c : ME Bool} {a b : MS} (hc : XT K mg E tc c) (ha : XS K mg E t a) (hb : XS K mg E u b) : XS K mg E (tIfS tc t u) (fIfS c a b) := fun Lo H0 D σ G H s ρ A o h e q => by
  show tc σ H _
  refine xs_at hc h e q fun v d G1 H1 ρ1 s1 dv h e q => ?_
  subst dv
  cases v with
  | true => exact iteT (ha Lo H0 D σ G1 H1 s ρ1 A o h e q)
  | false => exact iteF (hb Lo H0 D σ G1 H1 s ρ1 A o h e q)
/-- x = e -/
def fAsg (e : ME Dt) (tg : FG) : MS := fOut e fun d s ρ => match tg d s with
  | some s1 => some (.nx s1 ρ)
  | none => none
theorem xs_asg {te : TE} {g : TG} {e : ME Dt} {tg : FG} {js : List Nat} (he : XE K mg E te e) (hg : XG K g tg js) : XS K mg E (tAsg te g) (fAsg e tg) := fun Lo H0 D σ G H s ρ A o h e q => by
  show te σ H _
  refine xs_at he h e q fun v d G1 H1 ρ1 s1 dv h e q => ?_
  split at h
  · rename_i hs
    cases h
    exact hg Lo H0 v σ G1 H1 s ρ1 A d _ _ hs e dv fun σ' e' _ => q σ' A G1 H1 (.refl e'.gr) e'
  · cases h
/-- a, b = x, y: names by names -/
def setAll : List Nat → List Dt → Ss → Option Ss
  | [], [], s => some s
  | i :: is, d :: ds, s => setAll is ds (s.set i (some (.d d)))
  | _, _, _ => none
def fPar (is : List Nat) (t : ME (List Dt)) : MS := fOut t fun ds s ρ => match setAll is ds s with
  | some s1 => some (.nx s1 ρ)
  | none => none
/-- x += e, numbers -/
def fAug (f : Int → Int → Int) (i : Nat) (a : ME Dt) : MS := fun s ρ => match s[i]? with
  | some (some (.d (.int x))) => fOut a (fun d s ρ => match d with
    | .int y => some (.nx (s.set i (some (.d (.int (f x y))))) ρ)
    | _ => none) s ρ
  | _ => none
/-! loops -/
def forGo (tg : FG) (b : MS) : List Dt → MS
  | [], s, ρ => some (.nx s ρ)
  | d :: ds, s, ρ => match tg d s with
    | none => none
    | some s1 => match b s1 ρ with
      | some (.nx s2 ρ2) => forGo tg b ds s2 ρ2
      | some (.ct s2 ρ2) => forGo tg b ds s2 ρ2
      | some (.bk s2 ρ2) => some (.nx s2 ρ2)
      | o => o
def fFor (i : ME (List Dt)) (tg : FG) (b : MS) : MS := fOut i fun ds => forGo tg b ds
theorem xs_for {wi : TI} {g : TG} {tb : TS} {i : ME (List Dt)} {tg : FG} {b : MS} {js : List Nat} (hi : XI K mg E wi i) (hg : XG K g tg js) (hb : XS K mg E tb b) : XS K mg E (tFor wi g tb) (fFor i tg b) := fun Lo H0 D σ G H s ρ A o h e q => by
  show wi σ H _
  refine xs_at hi h e q fun J ds G1 H1 ρ1 s1 w h e q => ?_
  refine ⟨fun k m σ' H' => m = ds.length - k ∧ k ≤ ds.length ∧ ∃ G' sk ρk Ak, Sr Lo H0 G1 H1 G' H' ∧ EnS K Lo H0 G' H' σ' sk ρk Ak ∧ forGo tg b (ds.drop k) sk ρk = some o, ⟨ds.length, rfl, Nat.zero_le _, G1, s, ρ1, A, .refl e.gr, e, h⟩, ?_⟩
  rintro k m σ' H' ⟨rfl, hle, G', sk, ρk, Ak, s', e', hgo⟩
  by_cases hlt : k < ds.length
  · refine .inr ⟨w.go k G' H' s'.g e'.gr hlt, fun σ'' H'' => ∃ G'' sk ρk Ak, Sr Lo H0 G1 H1 G'' H'' ∧ EnS K Lo H0 G'' H'' σ'' sk ρk Ak ∧ forGo tg b (ds.drop (k + 1)) sk ρk = some o,
      fun σ'' H'' ⟨G'', a, b, c, f1, f2, f3⟩ => ⟨ds.length - (k + 1), by omega, rfl, hlt, G'', a, b, c, f1, f2, f3⟩, fun x H2 y => ?_⟩
    obtain ⟨G2, d, s2, hd, dx⟩ := w.yld k G' H' x H2 s'.g e'.gr hlt y
    have hdr : ds.drop k = d :: ds.drop (k + 1) := by
      rw [List.drop_eq_getElem_cons hlt]
      congr 1
      rw [List.getElem?_eq_getElem hlt] at hd
      exact Option.some.inj hd
    rw [hdr] at hgo
    unfold forGo at hgo
    cases htg : tg d sk with
    | none => rw [htg] at hgo; cases hgo
    | some s3 =>
      rw [htg] at hgo
      simp only [] at hgo
      have e2 := e'.stp s2
      have st2 : Sr Lo H0 G1 H1 G2 H2 := s'.trans (s2.sq.sr e'.low)
      refine hg Lo H0 x σ' G2 H2 sk ρk Ak d s3 _ htg e2 dx fun σ3 e3 _ => ?_
      cases hbo : b s3 ρk with
      | none => rw [hbo] at hgo; cases hgo
      | some ob =>
        rw [hbo] at hgo
        refine hb Lo H0 _ σ3 G2 H2 s3 ρk Ak ob hbo e3 ?_
        cases ob with
        | nx s4 ρ4 => exact fun σ4 A4 G4 H4 q4 e4 => ⟨G4, s4, ρ4, A4, st2.trans q4, e4, hgo⟩
        | ct s4 ρ4 => exact fun σ4 A4 G4 H4 q4 e4 => ⟨G4, s4, ρ4, A4, st2.trans q4, e4, hgo⟩
        | bk s4 ρ4 =>
          cases hgo
          exact fun σ4 A4 G4 H4 q4 e4 => q σ4 A4 G4 H4 (st2.trans q4) e4
        | rt d ρ4 =>
          cases hgo
          exact fun v G4 H4 q4 r4 d4 => q v G4 H4 (st2.trans q4) r4 d4
        | er x ρ4 =>
          cases hgo
          exact fun c da G4 H4 q4 r4 d4 => q c da G4 H4 (st2.trans q4) r4 d4
  · have hk : k = ds.length := by omega
    subst hk
    rw [List.drop_length] at hgo
    cases hgo
    exact .inl ⟨w.stop G' H' s'.g e'.gr, q σ' Ak G' H' s' e'⟩
def whileGo (t : ME Bool) (b : MS) : Nat → MS
  | 0, _, _ => none
  | n + 1, s, ρ => fOut t (fun c s ρ => if c = true then match b s ρ with
    | some (.nx s2 ρ2) => whileGo t b n s2 ρ2
    | some (.ct s2 ρ2) => whileGo t b n s2 ρ2
    | some (.bk s2 ρ2) => some (.nx s2 ρ2)
    | o => o
    else some (.nx s ρ)) s ρ
end
end Sb

/-! Seamboard, layer F8: things of a name's own that change. -/
namespace Sb
open PySem PySem.Spec PyProof.Rows L2
/-- what an own thing is as data -/
def ocD : Oc → Dt
  | .l xs => .list xs
  | .ll xss => .list (xss.map .list)
  | .m _ => .none
  | .w _ => .none
  | .t _ _ => .none
  | .e _ _ _ => .none
  | .f _ _ _ _ => .none
  | .tt _ _ _ _ => .none
  | .wx _ _ _ => .none
def thW : Option Wv → Option Wv
  | some (.o (.m _)) => none
  | some (.o (.w _)) => none
  | some (.o (.t _ _)) => none
  | some (.o (.e _ _ _)) => none
  | some (.o (.f _ _ _ _)) => none
  | some (.o (.tt _ _ _ _)) => none
  | some (.o (.wx _ _ _)) => none
  | some (.o c) => some (.d (ocD c))
  | some .row => none
  | x => x
/-- own things looked at -/
def thS (s : Ss) : Ss := s.map thW
section
variable {K : PySem.W.Frag} {mg : Str → Option Value} {E : XK} {Lo : Option Addr} {H0 G H G1 H1 G2 H2 : Hp} {σ : L2.St} {s : Ss} {ρ ρ' : Ro} {A : Nat → List Addr} {D : Ends} {o : Ot} {v : V} {fp : List Addr} {c : Oc}
theorem lls_q (g : Gr G G2) : ∀ {ps : List Addr} {dss : List (List Dt)}, LlOk K G H ps dss → (∀ p ∈ ps, ∀ o, H p = some o → G2 p = some o) → DqAll K G2 (ps.map V.ref) (dss.map .list)
  | _, _, .nil, _ => .nil
  | _, _, .cons a b t, h => .cons (.lst (h _ List.mem_cons_self _ a) (Dqsu b g)) (lls_q g t fun p hp => h p (List.mem_cons_of_mem _ hp))
theorem oc_q (g : Gr G G2) (ok : OcOk K G H v fp c) (hc : (∃ xs, c = .l xs) ∨ ∃ xss, c = .ll xss) (h : ∀ p ∈ fp, ∀ o, H p = some o → G2 p = some o) : Dq K G2 v (ocD c) := by
  cases c with
  | l xs =>
    obtain ⟨p, vs, e1, e2, e3, e4⟩ := ok
    subst e1 e2
    exact .lst (h p List.mem_cons_self _ e3) (Dqsu e4 g)
  | ll xss =>
    obtain ⟨p, ps, e1, e2, e3, e4⟩ := ok
    subst e1 e2
    exact .lst (h p List.mem_cons_self _ e3) (lls_q g e4 fun q hq => h q (List.mem_cons_of_mem _ hq))
  | m k => rcases hc with ⟨_, z⟩ | ⟨_, z⟩ <;> cases z
  | w k => rcases hc with ⟨_, z⟩ | ⟨_, z⟩ <;> cases z
  | t P q => rcases hc with ⟨_, z⟩ | ⟨_, z⟩ <;> cases z
  | e a d p => rcases hc with ⟨_, z⟩ | ⟨_, z⟩ <;> cases z
  | f LO df q js => rcases hc with ⟨_, z⟩ | ⟨_, z⟩ <;> cases z
  | tt P q P1 q1 => rcases hc with ⟨_, z⟩ | ⟨_, z⟩ <;> cases z
  | wx x p t => rcases hc with ⟨_, z⟩ | ⟨_, z⟩ <;> cases z
/-! looking -/
open Classical in
noncomputable def allA (G H : Hp) (A : Nat → List Addr) : Hp := fun a => if ∃ i, a ∈ A i then H a else G a
theorem allA_in (a : Addr) (i : Nat) (h : a ∈ A i) : allA G H A a = H a := by unfold allA; rw [if_pos ⟨i, h⟩]
theorem allA_gr (e : EnS K Lo H0 G H σ s ρ A) : Gr G (allA G H A) := fun a o h => by
  unfold allA
  by_cases q : ∃ i, a ∈ A i
  · obtain ⟨i, hi⟩ := q
    rw [(e.fp i a hi).1] at h; cases h
  · rw [if_neg q]; exact h
theorem allA_le (e : EnS K Lo H0 G H σ s ρ A) : Gr (allA G H A) H := fun a o h => by
  unfold allA at h
  split at h
  · exact h
  · exact e.gr a o h
theorem EnS.look (e : EnS K Lo H0 G H σ s ρ A) : EnS K none H0 (allA G H A) H σ (thS s) none (fun _ => []) where
  gr := allA_le e
  row := fun x hx => nomatch hx
  lo := fun L h => nomatch h
  low := e.low
  len := by unfold thS; rw [List.length_map]; exact e.len
  at_ := fun i w hw => by
    unfold thS at hw
    rw [List.getElem?_map] at hw
    cases hs : s[i]? with
    | none => rw [hs] at hw; cases hw
    | some ow =>
      rw [hs] at hw
      cases ow with
      | none => cases hw
      | some w0 =>
        obtain ⟨v, a, b⟩ := e.at_ i w0 hs
        cases w0 with
        | d x => cases hw; exact ⟨v, a, Dqu b (allA_gr e)⟩
        | row => cases hw
        | m kds =>
          cases hw
          obtain ⟨a2, kvs, e1, e2, e3⟩ := b
          exact ⟨v, a, a2, kvs, e1, allA_gr e _ _ e2, kq_up (allA_gr e) e3⟩
        | o c =>
          cases c with
          | m k => cases hw
          | w k => cases hw
          | t P q => cases hw
          | e a d p => cases hw
          | f LO df q js => cases hw
          | tt P q P1 q1 => cases hw
          | wx x p t => cases hw
          | l xs => cases hw; exact ⟨v, a, oc_q (allA_gr e) b (.inl ⟨_, rfl⟩) fun p hp o ho => by rw [allA_in p i hp]; exact ho⟩
          | ll xss => cases hw; exact ⟨v, a, oc_q (allA_gr e) b (.inr ⟨_, rfl⟩) fun p hp o ho => by rw [allA_in p i hp]; exact ho⟩
  fp := fun i p hp => nomatch hp
  dj := fun i j p hp => nomatch hp
  nd := fun i => List.nodup_nil
/-- what is looked at gives a flat thing -/
def fLook (a : ME Dt) : ME Dt := fun s ρ => match a (thS s) none with
  | some (.ok d, _) => if flatD d = true then some (.ok d, ρ) else none
  | _ => none
theorem xe_look {ta : TE} {a : ME Dt} (ha : XE K mg E ta a) : XE K mg E ta (fLook a) := fun Lo H0 σ G H s ρ A r ρ' Q hg e q => by
  unfold fLook at hg
  split at hg
  · rename_i d ρ1 hq
    split at hg
    · rename_i hf
      cases hg
      exact ha none H0 σ _ H _ none _ _ _ Q hq e.look fun v G2 H2 s2 r2 dv => q v G H2 ⟨.refl _, (allA_gr e).trans (s2.g.trans s2.s), fun a o n h => s2.h a o (by simp) h, s2.k, fun _ _ h => h⟩
        (fun x hx => by
          obtain ⟨L, e1, hr⟩ := e.row x hx
          obtain ⟨a, ea, h2⟩ := hr.at_
          exact ⟨L, e1, hr.g, a, s2.h _ _ (by simp) ea, h2⟩) (dp_q dv.p hf)
    · cases hg
  · cases hg
def fLookT (a : ME Bool) : ME Bool := fun s ρ => match a (thS s) none with
  | some (.ok d, _) => some (.ok d, ρ)
  | _ => none
/-! from now on it stands for good -/
open Classical in
noncomputable def frzA (G H : Hp) (fp : List Addr) : Hp := fun a => if a ∈ fp then H a else G a
theorem EnS.frz {i : Nat} (e : EnS K Lo H0 G H σ s ρ A) (hi : s[i]? = some (some (.o c))) (hc : (∃ xs, c = .l xs) ∨ ∃ xss, c = .ll xss) : ∃ G', Sr Lo H0 G H G' H ∧ EnS K Lo H0 G' H σ (s.set i (some (.d (ocD c)))) ρ (fun j => if j = i then [] else A j) := by
  have g : Gr G (frzA G H (A i)) := fun a o h => by
    unfold frzA
    by_cases q : a ∈ A i
    · rw [(e.fp i a q).1] at h; cases h
    · rw [if_neg q]; exact h
  have le : Gr (frzA G H (A i)) H := fun a o h => by
    unfold frzA at h
    split at h
    · exact h
    · exact e.gr a o h
  refine ⟨frzA G H (A i), ⟨g, le, fun _ _ _ _ h => h, fun _ h => h, fun a h1 h2 => ?_⟩, le, ?_, e.lo, e.low, by rw [List.length_set]; exact e.len, fun j w hw => ?_, fun j p hp => ?_, fun j k p h1 h2 => ?_, fun j => ?_⟩
  · unfold frzA
    have : a ∉ A i := fun q => h1 (e.fp i a q).2.1
    rw [if_neg this]; exact h2
  · intro x hx
    obtain ⟨L, e1, hr⟩ := e.row x hx
    obtain ⟨a, ea, h2⟩ := hr.at_
    refine ⟨L, e1, ?_, a, ea, gr_l g h2⟩
    unfold frzA
    have : L ∉ A i := fun q => (e.fp i L q).2.2.2 e1.symm
    rw [if_neg this]; exact hr.g
  · by_cases z : j = i
    · subst z
      have hl : j < s.length := (List.getElem?_eq_some_iff.mp hi).1
      rw [List.getElem?_set_self hl] at hw
      cases hw
      obtain ⟨v, a, b⟩ := e.at_ j _ hi
      exact ⟨v, a, oc_q g b hc fun p hp o ho => by unfold frzA; rw [if_pos hp]; exact ho⟩
    · rw [List.getElem?_set_ne (Ne.symm z)] at hw
      obtain ⟨v, a, b⟩ := e.at_ j w hw
      exact ⟨v, a, by rw [if_neg z]; exact wvOk_step b g fun p hp o ho => ho⟩
  · by_cases z : j = i
    · rw [if_pos z] at hp; cases hp
    · rw [if_neg z] at hp
      obtain ⟨a, b, c, d⟩ := e.fp j p hp
      refine ⟨?_, b, c, d⟩
      unfold frzA
      have : p ∉ A i := fun q => z (e.dj j i p hp q)
      rw [if_neg this]; exact a
  · by_cases z : j = i
    · rw [if_pos z] at h1; cases h1
    · rw [if_neg z] at h1
      by_cases z2 : k = i
      · rw [if_pos z2] at h2; cases h2
      · rw [if_neg z2] at h2; exact e.dj j k p h1 h2
  · by_cases z : j = i
    · rw [if_pos z]; exact List.nodup_nil
    · rw [if_neg z]; exact e.nd j
def fFz (i : Nat) (b : MS) : MS := fun s ρ => match s[i]? with
  | some (some (.o (.l xs))) => b (s.set i (some (.d (.list xs)))) ρ
  | some (some (.o (.ll xss))) => b (s.set i (some (.d (.list (xss.map .list))))) ρ
  | some (some (.d _)) => b s ρ
  | _ => none
theorem xs_fz {t : TS} {b : MS} (i : Nat) (hb : XS K mg E t b) : XS K mg E t (fFz i b) := fun Lo H0 D σ G H s ρ A o h e q => by
  unfold fFz at h
  split at h
  · rename_i xs hi
    obtain ⟨G', s', e'⟩ := e.frz hi (.inl ⟨_, rfl⟩)
    exact hb Lo H0 D σ G' H _ ρ _ o h e' (q.step s')
  · rename_i xs hi
    obtain ⟨G', s', e'⟩ := e.frz hi (.inr ⟨_, rfl⟩)
    exact hb Lo H0 D σ G' H _ ρ _ o h e' (q.step s')
  · exact hb Lo H0 D σ G H _ ρ _ o h e q
  · cases h
/-! a new one -/
theorem EnS.own {i : Nat} {p : Addr} {o : HO} (e : EnS K Lo H0 G H σ s ρ A) (hp : G p = none) (h0 : H0 p = none) (hx : H p = some o) (nl : some p ≠ Lo) (hA : ∀ j, p ∉ A j) (ok : OcOk K G H (.ref p) [p] c) :
    EnS K Lo H0 G H (σ.set i (some (.ref p))) (s.set i (some (.o c))) ρ (fun j => if j = i then [p] else A j) where
  gr := e.gr
  row := e.row
  lo := e.lo
  low := e.low
  len := by rw [List.length_set, List.length_set, e.len]
  at_ := fun j w hj => by
    by_cases q : j = i
    · subst q
      have hl : j < (s.set j (some (Wv.o c))).length := (List.getElem?_eq_some_iff.mp hj).1
      rw [List.length_set] at hl
      rw [List.getElem?_set_self hl] at hj
      cases hj
      exact ⟨.ref p, by rw [List.getElem?_set_self (by rw [e.len]; exact hl)], by rw [if_pos rfl]; exact ok⟩
    · rw [List.getElem?_set_ne (Ne.symm q)] at hj
      obtain ⟨x, a, b⟩ := e.at_ j w hj
      exact ⟨x, by rw [List.getElem?_set_ne (Ne.symm q)]; exact a, by rw [if_neg q]; exact b⟩
  fp := fun j r hr => by
    by_cases q : j = i
    · rw [if_pos q, List.mem_singleton] at hr
      subst hr
      exact ⟨hp, h0, by rw [hx]; simp, nl⟩
    · rw [if_neg q] at hr; exact e.fp j r hr
  dj := fun j k r h1 h2 => by
    by_cases z : j = i
    · rw [if_pos z, List.mem_singleton] at h1
      by_cases z2 : k = i
      · rw [z, z2]
      · rw [if_neg z2] at h2; subst h1; exact absurd h2 (hA k)
    · rw [if_neg z] at h1
      by_cases z2 : k = i
      · rw [if_pos z2, List.mem_singleton] at h2; subst h2; exact absurd h1 (hA j)
      · rw [if_neg z2] at h2; exact e.dj j k r h1 h2
  nd := fun j => by
    by_cases z : j = i
    · rw [if_pos z]; exact List.nodup_cons.mpr ⟨List.not_mem_nil, List.nodup_nil⟩
    · rw [if_neg z]; exact e.nd j
/-- x = a new list that will change -/
def fOwn (i : Nat) (g : ME (List Dt)) : MS := fOut g fun ds s ρ => some (.nx (s.set i (some (.o (.l ds)))) ρ)
theorem xs_own {te : TE} {g : ME (List Dt)} (i : Nat) (h : XN K mg E te g) : XS K mg E (tAsg te (gName i)) (fOwn i g) := fun Lo H0 D σ G H s ρ A o hr e q => by
  show te σ H _
  refine xs_atN h hr e q fun p vs ds G1 H1 ρ1 s1 hp np nl h1 dv hr e1 q => ?_
  cases hr
  have h0 : H0 p = none := by
    cases z : H0 p with
    | none => rfl
    | some u => exact absurd hp (e.low p (by rw [z]; simp))
  exact q _ _ G1 H1 (.refl e1.gr) (e1.own np h0 h1 nl (fun j hj => (e.fp j p hj).2.2.1 hp) ⟨p, vs, rfl, rfl, h1, dv⟩)
/-! writing -/
theorem EnS.write {i : Nat} {c' : Oc} (e : EnS K Lo H0 G H σ s ρ A) (hi : s[i]? = some (some (.o c))) (hv : σ[i]? = some (some v)) (hd : ∀ a, a ∉ A i → H2 a = H a) (hk : ∀ a, a ∈ A i → H2 a ≠ none) (ok : OcOk K G H2 v (A i) c') :
    Sr Lo H0 G H G H2 ∧ EnS K Lo H0 G H2 σ (s.set i (some (.o c'))) ρ A := by
  have s2 : Gr G H2 := fun a o h => by
    have : a ∉ A i := fun q => by rw [(e.fp i a q).1] at h; cases h
    rw [hd a this]; exact e.gr a o h
  have k2 : ∀ a, H a ≠ none → H2 a ≠ none := fun a h => by
    by_cases q : a ∈ A i
    · exact hk a q
    · rw [hd a q]; exact h
  refine ⟨⟨.refl _, s2, fun a o n m h => ?_, k2, fun _ _ h => h⟩, s2, fun x hx => ?_, fun L h => k2 L (e.lo L h), fun a h => k2 a (e.low a h), by rw [List.length_set]; exact e.len, fun j w hw => ?_, fun j p hp => ?_, e.dj, e.nd⟩
  · have : a ∉ A i := fun q => m (e.fp i a q).2.1
    rw [hd a this]; exact h
  · obtain ⟨L, e1, hr⟩ := e.row x hx
    obtain ⟨a, ea, h2⟩ := hr.at_
    have : L ∉ A i := fun q => (e.fp i L q).2.2.2 e1.symm
    exact ⟨L, e1, hr.g, a, by rw [hd L this]; exact ea, h2⟩
  · by_cases z : j = i
    · subst z
      have hl : j < s.length := (List.getElem?_eq_some_iff.mp hi).1
      rw [List.getElem?_set_self hl] at hw
      cases hw
      exact ⟨v, hv, ok⟩
    · rw [List.getElem?_set_ne (Ne.symm z)] at hw
      obtain ⟨u, a, b⟩ := e.at_ j w hw
      refine ⟨u, a, wvOk_step b (.refl _) fun p hp o ho => ?_⟩
      have : p ∉ A i := fun q => z (e.dj j i p hp q)
      rw [hd p this]; exact ho
  · obtain ⟨a, b, c, d⟩ := e.fp j p hp
    exact ⟨a, b, k2 p c, d⟩
/-- of a list of its own: what there is -/
theorem EnS.lst {i : Nat} {xs : List Dt} (e : EnS K Lo H0 G H σ s ρ A) (hi : s[i]? = some (some (.o (.l xs)))) : ∃ p vs, σ[i]? = some (some (.ref p)) ∧ A i = [p] ∧ H p = some (.lst vs) ∧ DqAll K G vs xs := by
  obtain ⟨v, hv, p, vs, e1, e2, e3, e4⟩ := e.at_ i _ hi
  subst e1
  exact ⟨p, vs, hv, e2, e3, e4⟩
theorem EnS.wlst {i : Nat} {xs xs' : List Dt} {p : Addr} {vs' : List V} (e : EnS K Lo H0 G H σ s ρ A) (hi : s[i]? = some (some (.o (.l xs)))) (hv : σ[i]? = some (some (.ref p))) (hA : A i = [p]) (dv : DqAll K G vs' xs') :
    Sr Lo H0 G H G (upd H p (.lst vs')) ∧ EnS K Lo H0 G (upd H p (.lst vs')) σ (s.set i (some (.o (.l xs')))) ρ A :=
  e.write hi hv (fun a ha => upd_ne fun z => ha (by rw [hA, z]; exact List.mem_singleton.mpr rfl)) (fun a ha => by rw [hA, List.mem_singleton] at ha; subst ha; rw [upd_same]; simp) ⟨p, vs', rfl, hA, upd_same, dv⟩
def fApp (i : Nat) (a : ME Dt) : MS := fun s ρ => match s[i]? with
  | some (some (.o (.l _))) => fOut a (fun d s ρ => match s[i]? with
    | some (some (.o (.l xs))) => if xs.length < 100000 then some (.nx (s.set i (some (.o (.l (xs ++ [d]))))) ρ) else none
    | _ => none) s ρ
  | _ => none
theorem xs_app {i : Nat} {ta : TE} {a : ME Dt} (ha : XE K mg E ta a) : XS K mg E (tDrop (tBM K "list" rAppend (tVar i) (tCons ta tNil))) (fApp i a) := fun Lo H0 D σ G H s ρ A o hr e q => by
  unfold fApp at hr
  split at hr
  · rename_i xs hi
    obtain ⟨p, vs, hv, hA, hp, dv⟩ := e.lst hi
    refine ⟨_, hv, .inl ⟨rfl, _, SqL.of hp⟩, ?_⟩
    show ta σ H _
    refine xs_at ha hr e q fun u d G1 H1 ρ1 s1 du hr e q => ?_
    rw [hi] at hr
    simp only [] at hr
    split at hr
    · rename_i hl
      cases hr
      obtain ⟨p2, vs2, hv2, hA2, hp2, dv2⟩ := e.lst hi
      rw [hv] at hv2
      cases hv2
      obtain ⟨w1, w2⟩ := e.wlst (xs' := xs ++ [d]) (vs' := vs2 ++ [u]) hi hv hA2 (dqs_app dv2 (.cons du .nil))
      exact ⟨p, vs2, u, rfl, rfl, hp2, by rw [dqs_len dv2]; exact Evl.sz_lt (by omega), q _ A G1 _ w1 w2⟩
    · cases hr
  · cases hr
def fExt (i : Nat) (a : ME Dt) : MS := fun s ρ => match s[i]? with
  | some (some (.o (.l _))) => fOut a (fun d s ρ => match d, s[i]? with
    | .list ys, some (some (.o (.l xs))) => if xs.length + ys.length ≤ 100000 then some (.nx (s.set i (some (.o (.l (xs ++ ys))))) ρ) else none
    | _, _ => none) s ρ
  | _ => none
/-- x[k] = e -/
def fSto (i : Nat) (k a : ME Dt) : MS := fun s ρ => match s[i]? with
  | some (some (.o (.l xs))) => fOut a (fun d => fOut k fun j s ρ => match j with
    | .int j => match ixN xs.length j with
      | some n => some (.nx (s.set i (some (.o (.l (xs.set n d))))) ρ)
      | none => none
    | _ => none) s ρ
  | _ => none
/-- x[k] += e, numbers -/
def fAugI (f : Int → Int → Int) (i : Nat) (k a : ME Dt) : MS := fun s ρ => match s[i]? with
  | some (some (.o (.l xs))) => fOut k (fun j s ρ => match j with
    | .int j => match ixN xs.length j with
      | some n => match xs[n]? with
        | some (.int x) => fOut a (fun d s ρ => match d with
          | .int y => some (.nx (s.set i (some (.o (.l (xs.set n (.int (f x y))))))) ρ)
          | _ => none) s ρ
        | _ => none
      | none => none
    | _ => none) s ρ
  | _ => none
end
end Sb

/-! Seamboard, layer F9: defs, by their functions. -/
namespace Sb
open PySem PySem.Spec PyProof.Rows L2
def argS (n : Nat) (ds : List Dt) : Ss := ds.map (fun d => some (Wv.d d)) ++ List.replicate (n - ds.length) none
def outF : Option Ot → Option (Except Exn Dt)
  | some (.rt d _) => some (.ok d)
  | some (.nx _ _) => some (.ok .none)
  | _ => none
def outX : Option Ot → Option (Except Exn Dt)
  | some (.rt d _) => some (.ok d)
  | some (.nx _ _) => some (.ok .none)
  | some (.er x _) => some (.error x)
  | _ => none
/-- a def of np parameters, n names -/
def runF (np n : Nat) (b : MS) : Fn := fun ds => if ds.length = np then outF (b (argS n ds) none) else none
def runX (np n : Nat) (b : MS) : Fn := fun ds => if ds.length = np then outX (b (argS n ds) none) else none
def outW : Option Ot → Option (Except Exn Dt × Rw)
  | some (.rt d (some x)) => some (.ok d, x)
  | some (.nx _ (some x)) => some (.ok .none, x)
  | _ => none
def runW (np n : Nat) (b : MS) : Fr := fun x ds => if ds.length + 1 = np then outW (b (some .row :: argS (n - 1) ds) (some x)) else none
section
variable {P : Program} {w : World} {K : PySem.W.Frag} {mg : Str → Option Value} {base : Heap} {x : Str} {st : Stmt} {N ps : List Str} {k : Nat}
theorem start_ens {G H : Hp} {vs : List V} {ds : List Dt} (N : List Str) (g : Gr G H) (h : DqAll K G vs ds) : EnS K none H G H (L2.start N vs) (argS N.length ds) none (fun _ => []) where
  gr := g
  row := fun x hx => nomatch hx
  lo := fun L h => nomatch h
  low := fun a h => h
  len := by
    have hl := dqs_len h
    unfold L2.start argS; simp [hl]
  at_ := fun i w hi => by
    have hl := dqs_len h
    unfold argS at hi
    unfold L2.start
    by_cases h1 : i < ds.length
    · rw [List.getElem?_append_left (by simpa using h1), List.getElem?_map, List.getElem?_eq_getElem h1] at hi
      have e : w = .d ds[i] := by
        have := Option.some.inj hi
        exact (Option.some.inj this).symm
      subst e
      obtain ⟨v, e1, e2⟩ := dqs_get h (List.getElem?_eq_getElem h1)
      exact ⟨v, by rw [List.getElem?_append_left (by simpa [hl] using h1), List.getElem?_map, e1]; rfl, e2⟩
    · rw [List.getElem?_append_right (by simpa using h1), List.getElem?_replicate] at hi
      split at hi <;> cases hi
  fp := fun i p hp => nomatch hp
  dj := fun i j p hp => nomatch hp
  nd := fun i => List.nodup_nil
/-- THE RULE for a def that draws nothing and lets nothing out -/
theorem hasF {b : MS} (A : FnAt K mg x st) (B : BindsAt x st ps) (S : FnScope N ps (defScope st))
    (hb : ∀ (cdv : Value) (f : Addr) (A : Around) (outer : List Env) (s : Shared) (H : Hp) (E : XK), Room k (A.deeper (envOfC x (defScope st) s.heap.objs.size f cdv)) →
      ∃ t, PSs (cxOf CX0 P w K mg base N x (defScope st) f cdv A outer s H E).nox (defBody st) t ∧ XS K mg E0 t b) : Has P w K mg base x (k + 1) ps (spF K mg (runF ps.length N.length b)) := by
  obtain ⟨f, fd, hF, hm⟩ := A.ex
  refine ⟨f, fd, ?_, hm, hF.kp, hF.binds fun kV doc pm an cdv ct us hl => B kV doc pm an cdv ct us hl⟩
  refine hF.ok S (fun vs H Q E h => ?_) (fun cdv A outer s H vs Q E hr h => ?_)
  · obtain ⟨G, ds, r, _, dv, f, _⟩ := h
    unfold runF at f
    split at f
    · rename_i e; rw [dqs_len dv, e]
    · cases f
  · obtain ⟨G, ds, r, g, dv, hf, q⟩ := h
    unfold runF at hf
    split at hf
    · obtain ⟨t, ht, hx⟩ := hb cdv f A outer s H E hr
      refine ⟨t, ht, ?_⟩
      cases ho : b (argS N.length ds) none with
      | none => rw [ho] at hf; cases hf
      | some o =>
        rw [ho] at hf
        refine hx none H _ _ G H _ none _ o ho (start_ens N g dv) ?_
        cases o with
        | rt d ρ =>
          cases hf
          exact fun v G2 H2 s2 _ d2 => q v G2 H2 s2.sq.stp d2
        | nx s ρ =>
          cases hf
          exact fun σ A G2 H2 s2 e2 => q .non G2 H2 s2.sq.stp .non
        | bk s ρ => cases hf
        | ct s ρ => cases hf
        | er x ρ => cases hf
    · cases hf
/-- .. for one that draws: the row is its first parameter -/
theorem hasW {b : MS} (A : FnAt K mg x st) (B : BindsAt x st ps) (S : FnScope N ps (defScope st)) (hN : 0 < N.length)
    (hb : ∀ (cdv : Value) (f : Addr) (A : Around) (outer : List Env) (s : Shared) (H : Hp) (E : XK), Room k (A.deeper (envOfC x (defScope st) s.heap.objs.size f cdv)) →
      ∃ t, PSs (cxOf CX0 P w K mg base N x (defScope st) f cdv A outer s H E).nox (defBody st) t ∧ XS K mg E0 t b) : Has P w K mg base x (k + 1) ps (spW K mg (runW ps.length N.length b)) := by
  obtain ⟨f, fd, hF, hm⟩ := A.ex
  refine ⟨f, fd, ?_, hm, hF.kp, hF.binds fun kV doc pm an cdv ct us hl => B kV doc pm an cdv ct us hl⟩
  refine hF.ok S (fun vs H Q E h => ?_) (fun cdv A outer s H vs Q E hr h => ?_)
  · obtain ⟨G, L, ws, ds, y, r, y', rfl, _, _, dv, f, _⟩ := h
    unfold runW at f
    split at f
    · rename_i e; rw [List.length_cons, dqs_len dv, e]
    · cases f
  · obtain ⟨G, L, ws, ds, y, r, y', rfl, g, ro, dv, hf, q⟩ := h
    unfold runW at hf
    split at hf
    · obtain ⟨t, ht, hx⟩ := hb cdv f A outer s H E hr
      refine ⟨t, ht, ?_⟩
      have hl := dqs_len dv
      have e0 : EnS K (some L) H G H (L2.start N (.ref L :: ws)) (some .row :: argS (N.length - 1) ds) (some y) (fun _ => []) := by
        refine ⟨g, fun z hz => ⟨L, rfl, by cases hz; exact ro⟩, fun L' h => ?_, fun a h => h, ?_, fun i w hi => ?_, fun i p hp => (nomatch hp), fun i j p hp => (nomatch hp), fun i => List.nodup_nil⟩
        · cases h
          obtain ⟨a, e, _⟩ := ro.at_
          rw [e]; simp
        · unfold L2.start argS; simp [hl]; omega
        · cases i with
          | zero =>
            have e : w = .row := by
              have := Option.some.inj hi
              exact (Option.some.inj this).symm
            subst e
            exact ⟨.ref L, rfl, L, rfl, rfl⟩
          | succ i =>
            have hi' : (argS (N.length - 1) ds)[i]? = some (some w) := by simpa using hi
            show ∃ v, ((some (V.ref L) :: ws.map some) ++ List.replicate (N.length - (ws.length + 1)) none)[i + 1]? = some (some v) ∧ _
            rw [List.cons_append, List.getElem?_cons_succ]
            unfold argS at hi'
            by_cases h1 : i < ds.length
            · rw [List.getElem?_append_left (by simpa using h1), List.getElem?_map, List.getElem?_eq_getElem h1] at hi'
              have e : w = .d ds[i] := by
                have := Option.some.inj hi'
                exact (Option.some.inj this).symm
              subst e
              obtain ⟨v, e1, e2⟩ := dqs_get dv (List.getElem?_eq_getElem h1)
              exact ⟨v, by rw [List.getElem?_append_left (by simpa [hl] using h1), List.getElem?_map, e1]; rfl, e2⟩
            · rw [List.getElem?_append_right (by simpa using h1), List.getElem?_replicate] at hi'
              split at hi' <;> cases hi'
      cases ho : b (some .row :: argS (N.length - 1) ds) (some y) with
      | none => rw [ho] at hf; cases hf
      | some o =>
        rw [ho] at hf
        refine hx (some L) H _ _ G H _ _ _ o ho e0 ?_
        have rw2 : ∀ {G2 H2 z}, RwOk K (some L) G2 H2 (some z) → RowAt K G2 H2 L z := fun h => by
          obtain ⟨L', e, r⟩ := h _ rfl
          cases e; exact r
        cases o with
        | rt d ρ =>
          cases ρ with
          | none => cases hf
          | some z => cases hf; exact fun v G2 H2 s2 r2 d2 => q v G2 H2 s2.sq (rw2 r2) d2
        | nx s ρ =>
          cases ρ with
          | none => cases hf
          | some z => cases hf; exact fun σ A G2 H2 s2 e2 => q .non G2 H2 s2.sq (rw2 e2.row) .non
        | bk s ρ => cases hf
        | ct s ρ => cases hf
        | er x ρ => cases hf
    · cases hf
end
end Sb
namespace Sb
open PySem PySem.Spec PyProof.Rows L2
/-- a def that is never come to here -/
theorem has_no {P : Program} {w : World} {K : PySem.W.Frag} {mg : Str → Option Value} {base : Heap} {x : Str} {st : Stmt} {ps : List Str} (A : FnAt K mg x st) (B : BindsAt x st ps) (k : Nat) : Has P w K mg base x k ps (spF K mg fun _ => none) := by
  obtain ⟨f, fd, hF, hm⟩ := A.ex
  exact ⟨f, fd, ⟨fun vs H Q E h => (by obtain ⟨_, _, _, _, _, h, _⟩ := h; cases h), fun _ _ _ _ _ _ _ _ _ _ _ _ _ h => (by obtain ⟨_, _, _, _, _, h, _⟩ := h; cases h)⟩, hm, hF.kp, hF.binds fun kV doc pm an cdv ct us hl => B kV doc pm an cdv ct us hl⟩
end Sb

/-! Seamboard, layer F10: the row is read and written. -/
namespace Sb
open PySem PySem.Spec PyProof.Rows L2
section
variable {K : PySem.W.Frag} {mg : Str → Option Value} {E : XK} {Lo : Option Addr} {H0 G H G1 H1 G2 H2 : Hp} {σ : L2.St} {s : Ss} {ρ ρ' : Ro} {A : Nat → List Addr} {D : Ends} {o : Ot}
def Rw.at_ (x : Rw) : Nat → Option Int
  | 1 => some x.i
  | 2 => some x.s
  | 3 => some x.r
  | _ => none
def Rw.put (x : Rw) (k : Nat) (n : Int) : Option Rw := match k with
  | 1 => some { x with i := n }
  | 2 => some { x with s := n }
  | 3 => some { x with r := n }
  | _ => none
theorem EnS.rowAt {i : Nat} {x : Rw} (e : EnS K Lo H0 G H σ s (some x) A) (hi : s[i]? = some (some .row)) : ∃ L, Lo = some L ∧ σ[i]? = some (some (.ref L)) ∧ RowAt K G H L x := by
  obtain ⟨v, hv, L, hL, e2⟩ := e.at_ i _ hi
  subst e2
  obtain ⟨L', hL', r⟩ := e.row x rfl
  rw [hL] at hL'
  cases hL'
  exact ⟨L, hL, hv, r⟩
def fRowI (i k : Nat) : ME Dt := fun s ρ => match s[i]?, ρ with
  | some (some .row), some x => match x.at_ k with
    | some n => some (.ok (.int n), ρ)
    | none => none
  | _, _ => none
theorem xe_rowI (i k : Nat) : XE K mg E (tOp (rIxL K) (tVar i) (tC (.int (k : Nat)))) (fRowI i k) := fun Lo H0 σ G H s ρ A r ρ' Q hg e q => by
  unfold fRowI at hg
  split at hg
  · rename_i x hi
    split at hg
    · rename_i n hn
      cases hg
      obtain ⟨L, hL, hv, hr⟩ := e.rowAt hi
      obtain ⟨a, ea, ha⟩ := hr.at_
      refine ⟨_, hv, L, _, (k : Nat), .int n, rfl, rfl, SqL.of ea, ?_, q.ok e (.refl e.gr) (.int _)⟩
      unfold Rw.at_ at hn
      match k, hn with
      | 1, hn => cases hn; rfl
      | 2, hn => cases hn; rfl
      | 3, hn => cases hn; rfl
    · cases hg
  · cases hg
def fRowLen (i : Nat) : ME Dt := fun s ρ => match s[i]?, ρ with
  | some (some .row), some x => some (.ok (.int x.ns.length), ρ)
  | _, _ => none
theorem xe_rowLen (i : Nat) : XE K mg E (tCB (rLen K) (tCons (tOp (rIxL K) (tVar i) (tC (.int 0))) tNil)) (fRowLen i) := fun Lo H0 σ G H s ρ A r ρ' Q hg e q => by
  unfold fRowLen at hg
  split at hg
  · rename_i x hi
    cases hg
    obtain ⟨L, hL, hv, hr⟩ := e.rowAt hi
    obtain ⟨a, ea, ha⟩ := hr.at_
    refine ⟨_, hv, L, _, 0, .ref a, rfl, rfl, SqL.of ea, rfl, a, x.ns.map V.int, rfl, .inl (gr_l e.gr ha), ?_⟩
    rw [List.length_map]
    exact q.ok e (.refl e.gr) (.int _)
  · cases hg
def fRowAt (i : Nat) (k : ME Dt) : ME Dt := fun s ρ => match s[i]?, ρ with
  | some (some .row), some x => bnd k (fun j => lft (match j with
    | .int j => match atI x.ns j with
      | some n => some (.int n)
      | none => none
    | _ => none)) s ρ
  | _, _ => none
theorem atI_map {α β : Type} (f : α → β) (xs : List α) (j : Int) (n : α) (h : atI xs j = some n) : atI (xs.map f) j = some (f n) := by
  unfold atI at h ⊢
  rw [List.length_map]
  cases q : ixN xs.length j with
  | none => rw [q] at h; cases h
  | some m =>
    rw [q] at h
    show (xs.map f)[m]? = _
    have h' : xs[m]? = some n := h
    rw [List.getElem?_map, h']; rfl
theorem xe_rowAt {tk : TE} {k : ME Dt} (i : Nat) (hk : XE K mg E tk k) : XE K mg E (tOp (rIxL K) (tOp (rIxL K) (tVar i) (tC (.int 0))) tk) (fRowAt i k) := fun Lo H0 σ G H s ρ A r ρ' Q hg e q => by
  unfold fRowAt at hg
  split at hg
  · rename_i x hi
    obtain ⟨L, hL, hv, hr⟩ := e.rowAt hi
    obtain ⟨a, ea, ha⟩ := hr.at_
    refine ⟨_, hv, L, _, 0, .ref a, rfl, rfl, SqL.of ea, rfl, ?_⟩
    refine xj_at hk hg e q fun w j G1 H1 ρ1 s1 dw hg e q => ?_
    obtain ⟨z, hz, rfl, rfl⟩ := lft_some hg
    cases j <;> try cases hz
    cases dw
    rename_i j
    simp only [] at hz
    split at hz
    · rename_i n hn
      cases hz
      exact ⟨a, x.ns.map V.int, j, .int n, rfl, rfl, gr_l e.gr (gr_l s1.g ha), atI_map V.int x.ns j n hn, q.ok e (.refl e.gr) (.int _)⟩
    · cases hz
  · cases hg
def fRowSet (i k : Nat) (a : ME Dt) : MS := fOut a fun d s ρ => match d, s[i]?, ρ with
  | .int n, some (some .row), some x => match x.put k n with
    | some y => some (.nx s (some y))
    | none => none
  | _, _, _ => none
theorem xs_rowSet {ta : TE} {a : ME Dt} (i k : Nat) (ha : XE K mg E ta a) : XS K mg E (tAsg ta (gSub (tVar i) (tC (.int (k : Nat))) rSetL)) (fRowSet i k a) := fun Lo H0 D σ G H s ρ A o hr e q => by
  show ta σ H _
  refine xs_at ha hr e q fun u d G1 H1 ρ1 s1 du hr e q => ?_
  split at hr
  · rename_i d si ρx n x hi
    split at hr
    · rename_i y hy
      cases hr
      cases du
      obtain ⟨L, hL, hv, rr⟩ := e.rowAt hi
      obtain ⟨a, ea, h2⟩ := rr.at_
      have key : ∃ j vs', ixN 4 ((k : Nat) : Int) = some j ∧ ([.ref a, .int x.i, .int x.s, .int x.r] : List V).set j (.int n) = [.ref a, .int y.i, .int y.s, .int y.r] ∧ vs' = j := by
        unfold Rw.put at hy
        match k, hy with
        | 1, hy => cases hy; exact ⟨1, _, rfl, rfl, rfl⟩
        | 2, hy => cases hy; exact ⟨2, _, rfl, rfl, rfl⟩
        | 3, hy => cases hy; exact ⟨3, _, rfl, rfl, rfl⟩
      obtain ⟨j, _, hj, hset, _⟩ := key
      have hns : y.ns = x.ns := by
        unfold Rw.put at hy
        match k, hy with
        | 1, hy => cases hy; rfl
        | 2, hy => cases hy; rfl
        | 3, hy => cases hy; rfl
      refine ⟨_, hv, L, _, (k : Nat), j, rfl, rfl, ea, hj, ?_⟩
      rw [hset]
      have hgL := rr.g
      have le : Gr G1 (upd H1 L (.lst [.ref a, .int y.i, .int y.s, .int y.r])) := fun b o hb => by
        have : b ≠ L := fun z => by rw [z, hgL] at hb; cases hb
        rw [upd_ne this]; exact e.gr b o hb
      have kk : ∀ b, H1 b ≠ none → (upd H1 L (.lst [.ref a, .int y.i, .int y.s, .int y.r])) b ≠ none := fun b hb => by
        by_cases z : b = L
        · rw [z, upd_same]; simp
        · rw [upd_ne z]; exact hb
      refine q σ A G1 _ ⟨.refl _, le, fun b o nb _ hb => ?_, kk, fun _ _ h => h⟩ ⟨le, fun z hz => ?_, fun L' h => kk L' (e.lo L' h), fun b hb => kk b (e.low b hb), e.len, fun j w hw => ?_, fun j p hp => ?_, e.dj, e.nd⟩
      · have : b ≠ L := fun z => nb (by rw [hL, z])
        rw [upd_ne this]; exact hb
      · cases hz
        exact ⟨L, hL, hgL, a, upd_same, by rw [hns]; exact h2⟩
      · obtain ⟨v, a1, b1⟩ := e.at_ j w hw
        refine ⟨v, a1, wvOk_step b1 (.refl _) fun p hp o ho => ?_⟩
        have : p ≠ L := fun z => (e.fp j p hp).2.2.2 (by rw [hL, z])
        rw [upd_ne this]; exact ho
      · obtain ⟨a1, b1, c1, d1⟩ := e.fp j p hp
        exact ⟨a1, b1, kk p c1, d1⟩
    · cases hr
  · cases hr
/-! isinstance -/
def kitO (n : String) (x : Dt) : Option Dt := match kitB (tyN x) n with
  | some b => some (.bool b)
  | none => none
def fIsi (n : String) (a : ME Dt) : ME Dt := bnd a fun x => lft (kitO n x)
theorem xe_isi {n : String} {ta : TE} {a : ME Dt} (ha : XE K mg E ta a) : XE K mg E (tCB (rIsi K) (tCons ta (tCons (tC (.ty n)) tNil))) (fIsi n a) := fun Lo H0 σ G H s ρ A r ρ' Q hg e q => by
  show ta σ H _
  refine xj_at ha hg e q fun v x G1 H1 ρ1 s1 dv hg e q => ?_
  obtain ⟨z, hz, rfl, rfl⟩ := lft_some hg
  unfold kitO at hz
  split at hz
  · rename_i b hb
    cases hz
    exact ⟨v, .ty n, _, _, b, rfl, .ty n, tyx_of e.gr dv.p, kit_ty hb, q.ok e (.refl e.gr) (.bl b)⟩
  · cases hz
/-- isinstance(x, (tuple, list)) -/
def fIsiTL (a : ME Dt) : ME Dt := bnd a fun x => ret (.bool (kTL x))
theorem xe_isiTL {ta : TE} {a : ME Dt} (ha : XE K mg E ta a) : XE K mg E (tCB (rIsiT K) (tCons ta (tCons (tTup (tCons (tC (.ty "tuple")) (tCons (tC (.ty "list")) tNil))) tNil))) (fIsiTL a) := fun Lo H0 σ G H s ρ A r ρ' Q hg e q => by
  show ta σ H _
  refine xj_at ha hg e q fun v x G1 H1 ρ1 s1 dv hg e q => ?_
  obtain ⟨rfl, rfl⟩ := ret_some (s := s) hg
  exact ⟨by show 2 ≤ sizeLine; decide, fun p hp => ⟨v, p, [.ty "tuple", .ty "list"], _, [.type "tuple", .type "list"], kTL x, rfl, upd_same, .cons (.ty _) (.cons (.ty _) .nil), tyx_of (e.gr.trans (.new hp)) dv.p, kit_TL K x, q.ok e (.hid e.gr hp) (.bl _)⟩⟩
/-- tuple(range(n)) -/
def fTupRg (a : ME Dt) : ME Dt := bnd a fun x => lft (match x with
  | .int n => if 0 ≤ n ∧ n ≤ 100000 then some (ti (sel n.toNat fun _ => true)) else none
  | _ => none)
/-- a text's method with one argument -/
def fM1 (o : Str → Dt → Option Dt) (a b : ME Dt) : ME Dt := bnd a fun x => match x with
  | .str z => bnd b fun y => lft (o z y)
  | _ => lft none
def RMo (K : PySem.W.Frag) (r : V → List V → Hp → VK → Prop) (o : Str → Dt → Option Dt) : Prop := ∀ z y d, o z y = some d → ∀ (G H : Hp) (u : V) (Q : VK), Gr G H → Dq K G u y → (∀ w G2 H2, Stp G H G2 H2 → Dq K G2 w d → Q w H2) → r (.str z) [u] H Q
def oCountS (a : Str) (y : Dt) : Option Dt := match y with
  | .str b => some (.int (Txt.count a b))
  | _ => none
/-- texts of data that are texts -/
def toStrs : List Dt → Option (List Str)
  | [] => some []
  | .str i :: ds => match toStrs ds with
    | some is => some (i :: is)
    | none => none
  | _ :: _ => none
def oJoin (a : Str) (y : Dt) : Option Dt := match seqD y with
  | some ds => match toStrs ds with
    | some ys => if (ys.map (·.length)).sum + ys.length * a.length ≤ 16777216 then some (.str (Txt.join a ys)) else none
    | none => none
  | none => none
/-- .. that gives a new list: split -/
def fSplit (a b : ME Dt) : ME (List Dt) := bnd a fun x => match x with
  | .str z => bnd b fun y => lft (match y with
    | .str t => if t.length ≠ 0 ∧ z.length ≤ 90000 then some ((Txt.split z t).map .str) else none
    | _ => none)
  | _ => lft none
theorem dqs_strs {G : Hp} : ∀ (ys : List Str), DqAll K G (ys.map V.str) (ys.map PyData.str)
  | [] => .nil
  | y :: ys => .cons (.str y) (dqs_strs ys)
/-- xs.count(k), numbers -/
def fCountL (a : ME Dt) (t : ME (List Dt)) : ME Dt := bnd a fun x => match x with
  | .list ds => bnd t fun ys => lft (match toInts ds, ys with
    | some is, [.int k] => some (.int (is.count k : Nat))
    | _, _ => none)
  | _ => lft none
/-! slices -/
def fNo : ME (Option Int) := ret none
def fSo (a : ME Dt) : ME (Option Int) := bnd a fun x => lft (match x with
  | .int i => some (some i)
  | _ => none)
def cutD (xs : List Dt) (lo hi : Option Int) : List Dt := (xs.drop (HT.sIx xs.length 0 lo)).take (HT.sIx xs.length xs.length hi - HT.sIx xs.length 0 lo)
theorem dqs_cut {G : Hp} {vs : List V} {ds : List Dt} (h : DqAll K G vs ds) (lo hi : Option Int) : DqAll K G (cutV vs lo hi) (cutD ds lo hi) := by
  unfold cutV cutD
  rw [dqs_len h]
  exact dqs_take _ (dqs_drop _ h)
end
end Sb

/-! Seamboard, layer F11: slices, divmod, all, more ranges. -/
namespace Sb
open PySem PySem.Spec PyProof.Rows L2
section
variable {K : PySem.W.Frag} {mg : Str → Option Value} {E : XK} {Lo : Option Addr} {H0 G H G1 H1 G2 H2 : Hp} {σ : L2.St} {s : Ss} {ρ ρ' : Ro} {A : Nat → List Addr} {D : Ends} {o : Ot}
def fNever : MS := fun _ _ => none
theorem xs_never : XS K mg E tNever fNever := fun Lo H0 D σ G H s ρ A o h e q => by cases h
/-! slices -/
abbrev XO (K : PySem.W.Frag) (mg : Str → Option Value) (E : XK) (t : TO) (g : ME (Option Int)) : Prop := XJ K mg E (fun _ b c => b = c) t g
theorem xo_no : XO K mg E tNoPart fNo := fun Lo H0 σ G H s ρ A r ρ' Q hg e q => by
  obtain ⟨rfl, rfl⟩ := ret_some (s := s) hg
  exact q.ok e (.refl e.gr) rfl
theorem xo_so {ta : TE} {a : ME Dt} (ha : XE K mg E ta a) : XO K mg E (tPart ta) (fSo a) := fun Lo H0 σ G H s ρ A r ρ' Q hg e q => by
  show ta σ H _
  refine xj_at ha hg e q fun v x G1 H1 ρ1 s1 dv hg e q => ?_
  obtain ⟨z, hz, rfl, rfl⟩ := lft_some hg
  cases x <;> cases hz
  cases dv
  exact ⟨_, rfl, q.ok e (.refl e.gr) rfl⟩
def fSlT (a : ME Dt) (l h : ME (Option Int)) : ME Dt := bnd a fun x => bnd l fun lo => bnd h fun hi => lft (match x with
  | .tuple ds => some (.tuple (cutD ds lo hi))
  | _ => none)
theorem cut_whole {α : Type} (xs : List α) {lo hi : Option Int} (h : HT.sIx xs.length 0 lo = 0 ∧ HT.sIx xs.length xs.length hi = xs.length) : (xs.drop (HT.sIx xs.length 0 lo)).take (HT.sIx xs.length xs.length hi - HT.sIx xs.length 0 lo) = xs := by
  rw [h.1, h.2, List.drop_zero, Nat.sub_zero, List.take_length]
theorem xe_slT {ta : TE} {tl th : TO} {a : ME Dt} {l h : ME (Option Int)} (ha : XE K mg E ta a) (hl : XO K mg E tl l) (hh : XO K mg E th h) : XE K mg E (tSl (rSlA K) ta tl th) (fSlT a l h) := fun Lo H0 σ G H s ρ A r ρ' Q hg e q => by
  show ta σ H _
  refine xj_at ha hg e q fun v x G1 H1 ρ1 s1 dv hg e q => ?_
  show tl σ H1 _
  refine xj_at hl hg e q fun lo' lo G2 H2 ρ2 s2 e1 hg e q => ?_
  subst e1
  show th σ H2 _
  refine xj_at hh hg e q fun hi' hi G3 H3 ρ3 s3 e2 hg e q => ?_
  subst e2
  obtain ⟨z, hz, rfl, rfl⟩ := lft_some hg
  cases x <;> cases hz
  cases dv with
  | tup h1 h2 =>
    have h1' := gr_t (s2.g.trans s3.g) h1
    have h2' := Dqsu h2 (s2.g.trans s3.g)
    refine ⟨_, _, rfl, gr_t e.gr h1', fun hw => ?_, fun hw p hp => ?_⟩
    · have hc := cut_whole _ hw
      rw [dqs_len h2'] at hw
      have hd : cutD _ lo' hi' = _ := cut_whole _ hw
      rw [hd] at q
      exact q.ok e (.refl e.gr) (.tup h1' h2')
    · have n := newq_t e.gr hp (dqs_cut h2' lo' hi')
      exact q.ok e n.1 n.2
def fSlL (a : ME Dt) (l h : ME (Option Int)) : ME (List Dt) := bnd a fun x => bnd l fun lo => bnd h fun hi => lft (match x with
  | .list ds => some (cutD ds lo hi)
  | _ => none)
def fSlS (a : ME Dt) (l h : ME (Option Int)) : ME Dt := bnd a fun x => bnd l fun lo => bnd h fun hi => lft (match x with
  | .str z => if z.length ≤ 100000 then some (.str (cutS z lo hi)) else none
  | _ => none)
/-! divmod, all -/
def oDivmod : List Dt → Option Dt
  | [.int i, .int j] => if 0 < j ∧ j < 1073741824 then some (.tuple [.int (i / j), .int (i % j)]) else none
  | _ => none
def toBools : List Dt → Option (List Bool)
  | [] => some []
  | .bool i :: ds => match toBools ds with
    | some is => some (i :: is)
    | none => none
  | _ :: _ => none
theorem toBools_eq : ∀ {ds : List Dt} {is : List Bool}, toBools ds = some is → ds = is.map .bool
  | [], _, h => by cases h; rfl
  | .bool i :: ds, _, h => by
    unfold toBools at h
    split at h
    · rename_i e
      cases h
      rw [toBools_eq e]; rfl
    · cases h
  | .none :: _, _, h => by cases h
  | .int _ :: _, _, h => by cases h
  | .str _ :: _, _, h => by cases h
  | .list _ :: _, _, h => by cases h
  | .tuple _ :: _, _, h => by cases h
  | .dict _ :: _, _, h => by cases h
def oAll : List Dt → Option Dt
  | [.list ds] => match toBools ds with
    | some bs => some (.bool (bs.all id))
    | none => none
  | _ => none
theorem bools_of : ∀ {bs : List Bool} {vs : List V} {G : Hp}, DqAll K G vs (bs.map PyData.bool) → vs = bs.map V.bl
  | [], _, _, h => by cases h; rfl
  | b :: bs, _, _, h => by
    rw [List.map_cons] at h
    cases h with
    | cons a t => cases a; rw [bools_of t, List.map_cons]
theorem rco_all : RCo K (rAll K) oAll := fun xs z h G H vs Q s a q => by
  unfold oAll at h
  split at h
  · split at h
    · rename_i bs e
      cases h
      have e' := toBools_eq e
      subst e'
      cases a with
      | cons a t =>
        cases t
        cases a with
        | lst h1 h2 =>
          have ev := bools_of h2
          subst ev
          exact ⟨_, bs, rfl, SqL.of (s _ _ h1), q _ G H (.refl s) (.bl _)⟩
    · cases h
  · cases h
/-! list(range(..)), a step -/
def rgD (a b : Int) : List Dt := upto a (b - a).toNat
def fListRg1 (a : ME Dt) : ME (List Dt) := bnd a fun x => lft (match x with
  | .int n => if 0 ≤ n ∧ n ≤ 100000 then some (rgD 0 n) else none
  | _ => none)
def fListRg2 (a b : ME Dt) : ME (List Dt) := bnd a fun x => bnd b fun y => lft (match x, y with
  | .int m, .int n => if (0 ≤ m ∧ m ≤ 100000) ∧ 0 ≤ n ∧ n ≤ 100000 then some (rgD m n) else none
  | _, _ => none)
/-- lo, lo + c, .. -/
def uptoC (lo c : Int) (n : Nat) : List Dt := (List.range n).map fun (i : Nat) => PyData.int (lo + (i : Int) * c)
def oRng3 : List Dt → Option (List Dt)
  | [.int i, .int j, .int c] => if c ≠ 0 ∧ c.natAbs < 1073741824 ∧ Builtin.Range.small i j c = true then some (uptoC i c (Builtin.Range.rangeSize i j c).toNat) else none
  | _ => none
def fRng3 (t : ME (List Dt)) : ME (List Dt) := bnd t fun ds => lft (oRng3 ds)
/-! zip -/
def zipD : List Dt → List Dt → List Dt
  | x :: xs, y :: ys => .tuple [x, y] :: zipD xs ys
  | _, _ => []
/-- x, ys = e, a new list that will change -/
def fParDN (i j : Nat) (a : ME Dt) (g : ME (List Dt)) : MS := fOut a fun d => fOut g fun ds s ρ => some (.nx ((s.set i (some (.d d))).set j (some (.o (.l ds)))) ρ)
/-- ys, x = a new list that will change, e -/
def fParND (i j : Nat) (g : ME (List Dt)) (a : ME Dt) : MS := fOut g fun ds => fOut a fun d s ρ => some (.nx ((s.set i (some (.o (.l ds)))).set j (some (.d d))) ρ)
def oNeg : Dt → Option Dt
  | .int i => some (.int (-i))
  | _ => none
theorem ruo_neg : RUo K (rU fun i => .int (-i)) oNeg := fun x z h G H v Q s a q => by
  unfold oNeg at h
  split at h
  · cases h; cases a; exact ⟨_, rfl, q _ G H (.refl s) (.int _)⟩
  · cases h
end
section
variable {X : Cx} {K : PySem.W.Frag}
theorem sl_tupAK (q : X.K = K) : SlR X (rSlA K) := q ▸ sl_tupA
theorem kc_all (q : X.K = K) (hc : X.calm = true) : CallR X (.builtin "all") (rAll K) := q ▸ cr_all hc
end
end Sb

/-! Seamboard, layer F12: slices of texts with a step; zip of a tuple and a list. -/
namespace Sb
open PySem PySem.Spec PyProof.Rows L2
/-- z[lo:hi:k], k > 1 -/
def stepS (z : Str) (lo hi : Option Int) (k : Int) : Str := ⟨((Builtin.Str.strSliceIndices lo hi k z.length).filterMap (z.cps[·]?)).toArray⟩
def tSlS3 (te : TE) (tl th ts : TO) : TE := fun σ H Q => te σ H fun x H1 => tl σ H1 fun l H2 => th σ H2 fun u H3 => ts σ H3 fun o H4 => ∃ z k, x = .str z ∧ o = some k ∧ 1 < k ∧ (stepS z l u k).length ≤ sizeLine ∧ Q (.str (stepS z l u k)) H4
section
variable {K : PySem.W.Frag} {mg : Str → Option Value} {E : XK} {Lo : Option Addr} {H0 G H G1 H1 G2 H2 : Hp} {σ : L2.St} {s : Ss} {ρ ρ' : Ro} {A : Nat → List Addr} {D : Ends} {o : Ot}
def fSlS3 (a : ME Dt) (l h k : ME (Option Int)) : ME Dt := bnd a fun x => bnd l fun lo => bnd h fun hi => bnd k fun st => lft (match x, st with
  | .str z, some k => if 1 < k ∧ (stepS z lo hi k).length ≤ 100000 then some (.str (stepS z lo hi k)) else none
  | _, _ => none)
end
end Sb

/-! Seamboard, layer F13: a new list and a thing, unpacked out of a tuple; zips. -/
namespace Sb
open PySem PySem.Spec PyProof.Rows L2
section
variable {K : PySem.W.Frag} {mg : Str → Option Value} {E : XK} {Lo : Option Addr} {H0 G H G1 H1 G2 H2 : Hp} {σ : L2.St} {s : Ss} {ρ ρ' : Ro} {A : Nat → List Addr} {D : Ends} {o : Ot}
end
end Sb

/-! Seamboard, layer F14: zip of a tuple and a list. -/
namespace Sb
open PySem PySem.Spec PyProof.Rows L2
/-- a tuple and a list, side by side -/
def ItzM (K : PySem.W.Frag) (a b : Addr) : It where
  go n H := ∃ (us vs : List V) (u v : V), (SqT K H a us ∧ us[n]? = some u) ∧ SqL K H b vs ∧ vs[n]? = some v
  yld n H r H2 := ∃ (q : Addr) (u v : V), r = .ref q ∧ H q = none ∧ H2 = upd H q (.tup [u, v]) ∧ (∀ us, SqT K H a us → us[n]? = some u) ∧ ∀ vs, SqL K H b vs → vs[n]? = some v
  stop n H := ∃ us vs : List V, SqT K H a us ∧ SqL K H b vs ∧ n = min us.length vs.length
section
variable {P : Program} {w : World} {K : PySem.W.Frag} {a b z T O i j : Addr}
/-- how it stands ahead of a turn -/
def mixAt (z T O i j a b : Addr) (n : Nat) (h : Heap) : Prop := IsZip h z T O .none ∧ IsPair h T (.ref i) (.ref j) ∧ (∃ x y, IsPair h O x y) ∧ h.IsTupleIter i a n ∧ h.IsListIter j b n
/-- the heap that zip makes of a tuple and a list -/
def mixH (h : Heap) (a b : Addr) : Heap :=
  ((((h.push { cls := .type "tuple_iterator", data := .fields #[.ref a, .int 0 0] }).push { cls := .type "list_iterator", data := .fields #[.ref b, .int 0 0] }).push { cls := .type "tuple", data := .seq #[.ref h.objs.size, .ref (h.objs.size + 1)] }).push { cls := .type "tuple", data := .seq #[.none, .none] }).push { cls := .type "zip", data := .fields #[.none, .bool false, .bool false, .ref (h.objs.size + 2), .ref (h.objs.size + 3)] }
def iMix (K : PySem.W.Frag) (ta : TA) : TI := fun σ H R => ta σ H fun vs H1 => ∃ a b us ws, vs = [.ref a, .ref b] ∧ SqT K H1 a us ∧ SqL K H1 b ws ∧ R (ItzM K a b) H1
end
end Sb

/-! Seamboard, layer F15: walks over zips. -/
namespace Sb
open PySem PySem.Spec PyProof.Rows L2
section
variable {X : Cx} {K : PySem.W.Frag}
end
section
variable {K : PySem.W.Frag} {mg : Str → Option Value} {E : XK} {Lo : Option Addr} {H0 G H G1 H1 G2 H2 : Hp} {σ : L2.St} {s : Ss} {ρ ρ' : Ro} {A : Nat → List Addr} {D : Ends} {o : Ot}
def fZipTL (a b : ME Dt) : ME (List Dt) := bnd a fun x => bnd b fun y => lft (match x, y with
  | .tuple xs, .list ys => some (zipD xs ys)
  | _, _ => none)
def fZipLL (a b : ME Dt) : ME (List Dt) := bnd a fun x => bnd b fun y => lft (match x, y with
  | .list xs, .list ys => some (zipD xs ys)
  | _, _ => none)
end
end Sb

/-! Seamboard, layer F16: list.index by data. -/
namespace Sb
open PySem PySem.Spec PyProof.Rows L2
section
variable {K : PySem.W.Frag} {mg : Str → Option Value} {E : XK} {Lo : Option Addr} {H0 G H G1 H1 G2 H2 : Hp} {σ : L2.St} {s : Ss} {ρ ρ' : Ro} {A : Nat → List Addr} {D : Ends} {o : Ot}
def oIdx (ds : List Dt) (d : Dt) : Option Dt := if (SeqAt.shaped (.list ds) && SeqAt.shaped d) = true then (match ds.findIdx? fun z => PyData.eqv z d with
  | some j => some (.int (j : Nat))
  | none => none) else none
def fIndexL (a : ME Dt) (t : ME (List Dt)) : ME Dt := bnd a fun x => match x with
  | .list ds => bnd t fun ys => lft (match ys with
    | [d] => oIdx ds d
    | _ => none)
  | _ => lft none
theorem xe_indexL {to : TE} {tt : TA} {a : ME Dt} {t : ME (List Dt)} (ha : XE K mg E to a) (ht : XA K mg E tt t) : XE K mg E (tBM K "list" (rIndexD K) to tt) (fIndexL a t) := fun Lo H0 σ G H s ρ A r ρ' Q hg e q => by
  show to σ H _
  refine xj_at ha hg e q fun v x G1 H1 ρ1 s1 dv hg e q => ?_
  cases x with
  | list ds =>
    cases dv with
    | lst h1 h2 =>
      refine ⟨.inl ⟨rfl, _, SqL.of (e.gr _ _ h1)⟩, ?_⟩
      refine xj_at ht hg e q fun us ys G2 H2 ρ2 s2 du hg e q => ?_
      obtain ⟨z, hz, rfl, rfl⟩ := lft_some hg
      split at hz
      · rename_i d
        unfold oIdx at hz
        split at hz
        · rename_i hs
          rw [Bool.and_eq_true] at hs
          split at hz
          · rename_i j hj
            cases hz
            match us, du with
            | _, .cons dd .nil =>
              obtain ⟨hlt, h3, h4⟩ := List.findIdx?_eq_some_iff_getElem.mp hj
              have k1 : Dq K G2 (.ref _) (.list ds) := .lst (s2.g _ _ h1) (Dqsu h2 s2.g)
              refine ⟨_, _, d, ds, j, ds[j], rfl, rfl, Dpu k1.p e.gr, Dpu dd.p e.gr, hs.1, hs.2, List.getElem?_eq_getElem hlt, h3, fun m z' hm hz' => ?_, q.ok e (.refl e.gr) (.int _)⟩
              obtain ⟨hm2, rfl⟩ := List.getElem?_eq_some_iff.mp hz'
              exact Bool.eq_false_iff.mpr (by simpa using h4 m hm)
          · cases hz
        · cases hz
      · cases hz
  | none => cases hg
  | bool _ => cases hg
  | int _ => cases hg
  | str _ => cases hg
  | tuple _ => cases hg
  | dict _ => cases hg
end
end Sb

/-! Seamboard, layer F17: tuple.index by data. -/
namespace Sb
open PySem PySem.Spec PyProof.Rows L2
/-- t.index(y), the first place of a thing that is like y -/
def rIndexT (K : PySem.W.Frag) : V → List V → Hp → VK → Prop := fun x xs H Q => ∃ (a : Addr) (us : List V) (y : V) (d : Dt) (ds : List Dt) (j : Nat) (z : Dt), x = .ref a ∧ xs = [y] ∧ SqT K H a us ∧ DpAll K H us ds ∧ Dp K H y d ∧
  SeqAt.shaped (.tuple ds) = true ∧ SeqAt.shaped d = true ∧ ds[j]? = some z ∧ PyData.eqv z d = true ∧ (∀ (m : Nat) (w : Dt), m < j → ds[m]? = some w → PyData.eqv w d = false) ∧ Q (.int (j : Nat)) H
section
variable {X : Cx}
end
section
variable {K : PySem.W.Frag} {mg : Str → Option Value} {E : XK} {Lo : Option Addr} {H0 G H G1 H1 G2 H2 : Hp} {σ : L2.St} {s : Ss} {ρ ρ' : Ro} {A : Nat → List Addr} {D : Ends} {o : Ot}
def oIdxT (ds : List Dt) (d : Dt) : Option Dt := if (SeqAt.shaped (.tuple ds) && SeqAt.shaped d) = true then (match ds.findIdx? fun z => PyData.eqv z d with
  | some j => some (.int (j : Nat))
  | none => none) else none
end
end Sb

/-! Seamboard, layer F18: lists of lists of a name's own; min by data. -/
namespace Sb
open PySem PySem.Spec PyProof.Rows L2
/-! ### own lists of lists -/
def llGo (tg : FG) (e : ME (List Dt)) (s0 : Ss) : List Dt → Ro → Option (List (List Dt) × Ro)
  | [], ρ => some ([], ρ)
  | d :: ds, ρ => match tg d s0 with
    | none => none
    | some s1 => match e s1 ρ with
      | some (.ok x, ρ1) => match llGo tg e s0 ds ρ1 with
        | some (xs, ρ2) => some (x :: xs, ρ2)
        | none => none
      | _ => none
/-- x = [[..] for .. in ..], each a list that will change -/
def fOwnLL (i : Nat) (it : ME (List Dt)) (tg : FG) (e : ME (List Dt)) (vs : List Nat) : MS := fOut it fun ds s ρ => if ds.length ≤ 50000 then match llGo tg e (wipeS s vs) ds ρ with
  | none => none
  | some (xs, ρ1) => some (.nx (s.set i (some (.o (.ll xs)))) ρ1)
  else none
section
variable {K : PySem.W.Frag} {mg : Str → Option Value} {E : XK} {Lo : Option Addr} {H0 G H G1 H1 G2 H2 : Hp} {σ : L2.St} {s : Ss} {ρ ρ' : Ro} {A : Nat → List Addr} {D : Ends} {o : Ot} {v : V} {c : Oc}
theorem EnS.ownL {i : Nat} {fp : List Addr} (e : EnS K Lo H0 G H σ s ρ A) (nd : fp.Nodup) (hf : ∀ p ∈ fp, G p = none ∧ H0 p = none ∧ H p ≠ none ∧ some p ≠ Lo ∧ ∀ j, p ∉ A j) (ok : OcOk K G H v fp c) :
    EnS K Lo H0 G H (σ.set i (some v)) (s.set i (some (.o c))) ρ (fun j => if j = i then fp else A j) where
  gr := e.gr
  row := e.row
  lo := e.lo
  low := e.low
  len := by rw [List.length_set, List.length_set, e.len]
  at_ := fun j w hj => by
    by_cases q : j = i
    · subst q
      have hl : j < (s.set j (some (Wv.o c))).length := (List.getElem?_eq_some_iff.mp hj).1
      rw [List.length_set] at hl
      rw [List.getElem?_set_self hl] at hj
      cases hj
      exact ⟨v, by rw [List.getElem?_set_self (by rw [e.len]; exact hl)], by rw [if_pos rfl]; exact ok⟩
    · rw [List.getElem?_set_ne (Ne.symm q)] at hj
      obtain ⟨x, a, b⟩ := e.at_ j w hj
      exact ⟨x, by rw [List.getElem?_set_ne (Ne.symm q)]; exact a, by rw [if_neg q]; exact b⟩
  fp := fun j r hr => by
    by_cases q : j = i
    · rw [if_pos q] at hr
      obtain ⟨a, b, c, d, _⟩ := hf r hr
      exact ⟨a, b, c, d⟩
    · rw [if_neg q] at hr; exact e.fp j r hr
  dj := fun j k r h1 h2 => by
    by_cases z : j = i
    · rw [if_pos z] at h1
      by_cases z2 : k = i
      · rw [z, z2]
      · rw [if_neg z2] at h2; exact absurd h2 ((hf r h1).2.2.2.2 k)
    · rw [if_neg z] at h1
      by_cases z2 : k = i
      · rw [if_pos z2] at h2; exact absurd h1 ((hf r h2).2.2.2.2 j)
      · rw [if_neg z2] at h2; exact e.dj j k r h1 h2
  nd := fun j => by
    by_cases z : j = i
    · rw [if_pos z]; exact nd
    · rw [if_neg z]; exact e.nd j
theorem llOk_app : ∀ {ps qs : List Addr} {a b : List (List Dt)}, LlOk K G H ps a → LlOk K G H qs b → LlOk K G H (ps ++ qs) (a ++ b)
  | _, _, _, _, .nil, h => h
  | _, _, _, _, .cons x y t, h => .cons x y (llOk_app t h)
theorem llOk_len : ∀ {ps : List Addr} {a : List (List Dt)}, LlOk K G H ps a → ps.length = a.length
  | _, _, .nil => rfl
  | _, _, .cons _ _ t => congrArg (· + 1) (llOk_len t)
theorem llOk_get : ∀ {ps : List Addr} {a : List (List Dt)} {n : Nat} {ds : List Dt}, LlOk K G H ps a → a[n]? = some ds → ∃ p vs, ps[n]? = some p ∧ H p = some (.lst vs) ∧ DqAll K G vs ds
  | _, _, _, _, .nil, h => by simp at h
  | _, _, 0, _, .cons (p := p) (vs := vs) x y _, h => by simp at h; subst h; exact ⟨p, vs, rfl, x, y⟩
  | _, _, n + 1, _, .cons _ _ t, h => by
    obtain ⟨p, vs, a, b⟩ := llOk_get (n := n) t (by simpa using h)
    exact ⟨p, vs, by simpa using a, b⟩
theorem refs_inj : ∀ {ps qs : List Addr}, ps.map V.ref = qs.map V.ref → ps = qs
  | [], [], _ => rfl
  | [], _ :: _, h => by simp at h
  | _ :: _, [], h => by simp at h
  | p :: ps, q :: qs, h => by
    rw [List.map_cons, List.map_cons] at h
    injection h with h1 h2
    injection h1 with h1
    rw [h1, refs_inj h2]
/-- lists that are made, hidden, in one at D -/
structure HidL (K : PySem.W.Frag) (Lo : Option Addr) (G H G2 H2 : Hp) (D : Addr) (ρ : Ro) (dss : List (List Dt)) : Prop where
  sq : Sq Lo G H G2 H2
  row : RwOk K Lo G2 H2 ρ
  g : G2 D = none
  at_ : ∃ ps : List Addr, H2 D = some (.lst (ps.map V.ref)) ∧ LlOk K G2 H2 ps dss ∧ ps.Nodup ∧ ∀ p ∈ ps, p ≠ D ∧ H p = none ∧ H2 p ≠ none ∧ G2 p = none ∧ some p ≠ Lo
theorem HidL.step {D : Addr} {dss : List (List Dt)} {ρ2 : Ro} (h : HidL K Lo G H G1 H1 D ρ dss) (q : Sq Lo G1 H1 G2 H2) (r : RwOk K Lo G2 H2 ρ2) (nl : some D ≠ Lo) : HidL K Lo G H G2 H2 D ρ2 dss := by
  obtain ⟨ps, a, b, c, d⟩ := h.at_
  exact ⟨h.sq.trans q, r, q.f D (by rw [a]; simp) h.g, ps, q.h D _ nl a, llOk_step b q.g fun p hp o ho => q.h p o (d p hp).2.2.2.2 ho, c, fun p hp =>
    let ⟨x, y, z, u, w⟩ := d p hp
    ⟨x, y, q.k p z, q.f p z u, w⟩⟩
theorem HidL.push {D p : Addr} {dss : List (List Dt)} {ds : List Dt} {vs : List V} (h : HidL K Lo G H G1 H1 D ρ dss) (hD : H D = none) (nl : some D ≠ Lo) (gr : Gr G1 H1) (q : Sq Lo G1 H1 G2 H2) {ρ2 : Ro} (r : RwOk K Lo G2 H2 ρ2) (hp : H1 p = none) (gp : G2 p = none) (np : some p ≠ Lo) (h2 : H2 p = some (.lst vs)) (dv : DqAll K G2 vs ds) :
    ∃ acc, H2 D = some (.lst acc) ∧ acc.length = dss.length ∧ HidL K Lo G H G2 (upd H2 D (.lst (acc ++ [.ref p]))) D ρ2 (dss ++ [ds]) := by
  have h' := h.step q r nl
  obtain ⟨ps, a, b, c, d⟩ := h'.at_
  obtain ⟨ps0, a0, b0, c0, d0⟩ := h.at_
  have e0 : ps = ps0 := by
    have := q.h D _ nl a0
    rw [a] at this
    have := Option.some.inj this
    injection this with this
    exact refs_inj this
  subst e0
  have hpD : p ≠ D := fun z => by rw [z, a0] at hp; cases hp
  have hps : p ∉ ps := fun z => (d0 p z).2.2.1 hp
  have hH : H p = none := by
    cases z : H p with
    | none => rfl
    | some o => exact absurd hp (h.sq.k p (by rw [z]; simp))
  refine ⟨_, a, by rw [List.length_map]; exact llOk_len b, h'.sq.put hD h'.g, h'.row.put nl, h'.g, ps ++ [p], by rw [upd_same, List.map_append]; rfl, ?_, ?_, fun z hz => ?_⟩
  · refine llOk_app (llOk_step b (.refl _) fun x hx o ho => by rw [upd_ne (d x hx).1]; exact ho) (.cons (by rw [upd_ne hpD]; exact h2) dv .nil)
  · exact List.nodup_append.mpr ⟨c, List.nodup_cons.mpr ⟨List.not_mem_nil, List.nodup_nil⟩, fun x hx y hy => by rw [List.mem_singleton.mp hy]; exact fun z => hps (z ▸ hx)⟩
  · rcases List.mem_append.mp hz with hz | hz
    · obtain ⟨x, y, u, w, t⟩ := d z hz
      exact ⟨x, y, by rw [upd_ne x]; exact u, w, t⟩
    · rw [List.mem_singleton.mp hz]
      exact ⟨hpD, hH, by rw [upd_ne hpD, h2]; simp, gp, np⟩
/-! writing into one of them -/
/-- x[k].append(e) -/
def fAppLL (i : Nat) (k a : ME Dt) : MS := fun s ρ => match s[i]? with
  | some (some (.o (.ll xss))) => fOut k (fun j s ρ => match j with
    | .int j => match ixN xss.length j with
      | some n => match xss[n]? with
        | some xs => fOut a (fun d s ρ => if xs.length < 100000 then some (.nx (s.set i (some (.o (.ll (xss.set n (xs ++ [d])))))) ρ) else none) s ρ
        | none => none
      | none => none
    | _ => none) s ρ
  | _ => none
/-- x[m][k] = e -/
def fStoLL (i : Nat) (m k a : ME Dt) : MS := fun s ρ => match s[i]? with
  | some (some (.o (.ll xss))) => fOut a (fun d => fOut m fun j s ρ => match j with
    | .int j => match ixN xss.length j with
      | some n => match xss[n]? with
        | some xs => fOut k (fun l s ρ => match l with
          | .int l => match ixN xs.length l with
            | some y => some (.nx (s.set i (some (.o (.ll (xss.set n (xs.set y d)))))) ρ)
            | none => none
          | _ => none) s ρ
        | none => none
      | none => none
    | _ => none) s ρ
  | _ => none
theorem EnS.lls {i : Nat} {xss : List (List Dt)} (e : EnS K Lo H0 G H σ s ρ A) (hi : s[i]? = some (some (.o (.ll xss)))) : ∃ p ps, σ[i]? = some (some (.ref p)) ∧ A i = p :: ps ∧ H p = some (.lst (ps.map V.ref)) ∧ LlOk K G H ps xss := by
  obtain ⟨v, hv, p, vs, e1, e2, e3, e4⟩ := e.at_ i _ hi
  subst e1
  exact ⟨p, vs, hv, e2, e3, e4⟩
theorem llOk_set {p : Addr} {vs : List V} {ds : List Dt} (dv : DqAll K G vs ds) : ∀ {ps : List Addr} {a : List (List Dt)} {n : Nat}, LlOk K G H ps a → ps.Nodup → ps[n]? = some p → LlOk K G (upd H p (.lst vs)) ps (a.set n ds) := by
  intro ps a n h
  induction h generalizing n with
  | nil => intro _ h; simp at h
  | cons x y t ih =>
    rename_i p' vs' ds' ps dss
    intro nd h
    obtain ⟨n1, n2⟩ := List.nodup_cons.mp nd
    cases n with
    | zero =>
      simp at h
      subst h
      exact .cons upd_same dv (llOk_step t (.refl _) fun q hq o ho => by
        have : q ≠ p' := fun z => n1 (by rw [← z]; exact hq)
        rw [upd_ne this]; exact ho)
    | succ n =>
      have h' : ps[n]? = some p := by simpa using h
      have hm := List.mem_of_getElem? h'
      have : p' ≠ p := fun z => n1 (by rw [z]; exact hm)
      exact .cons (by rw [upd_ne this]; exact x) y (ih n2 h')
theorem EnS.wlls {i n : Nat} {xss : List (List Dt)} {ds : List Dt} {p q : Addr} {ps : List Addr} {vs' : List V} (e : EnS K Lo H0 G H σ s ρ A) (hi : s[i]? = some (some (.o (.ll xss)))) (hv : σ[i]? = some (some (.ref p))) (hA : A i = p :: ps) (hp : H p = some (.lst (ps.map V.ref))) (hl : LlOk K G H ps xss) (hn : ps[n]? = some q) (dv : DqAll K G vs' ds) :
    Sr Lo H0 G H G (upd H q (.lst vs')) ∧ EnS K Lo H0 G (upd H q (.lst vs')) σ (s.set i (some (.o (.ll (xss.set n ds))))) ρ A := by
  have nd := e.nd i
  rw [hA] at nd
  obtain ⟨n1, n2⟩ := List.nodup_cons.mp nd
  have hm := List.mem_of_getElem? hn
  have hpq : p ≠ q := fun z => n1 (z ▸ hm)
  exact e.write hi hv (fun a ha => upd_ne fun z => ha (by rw [hA, z]; exact List.mem_cons_of_mem _ hm)) (fun a ha => by
    by_cases z : a = q
    · rw [z, upd_same]; simp
    · rw [upd_ne z]; exact (e.fp i a ha).2.2.1) ⟨p, ps, rfl, hA, by rw [upd_ne hpq]; exact hp, llOk_set dv hl n2 hn⟩
theorem atI_ll {ps : List Addr} {j : Int} {n : Nat} {q : Addr} (hn : ixN ps.length j = some n) (hq : ps[n]? = some q) : atI (ps.map V.ref) j = some (.ref q) := by
  unfold atI
  rw [List.length_map, hn]
  show (ps.map V.ref)[n]? = _
  rw [List.getElem?_map, hq]
  rfl
theorem xs_appLL {i : Nat} {tk ta : TE} {k a : ME Dt} (hk : XE K mg E tk k) (ha : XE K mg E ta a) : XS K mg E (tDrop (tBM K "list" rAppend (tOp (rIxL K) (tVar i) tk) (tCons ta tNil))) (fAppLL i k a) := fun Lo H0 D σ G H s ρ A o hr e q => by
  unfold fAppLL at hr
  split at hr
  · rename_i xss hi
    obtain ⟨p, ps, hv, hA, hp, hll⟩ := e.lls hi
    refine ⟨_, hv, ?_⟩
    show tk σ H _
    refine xs_at hk hr e q fun w j G1 H1 ρ1 s1 dw hr e q => ?_
    cases j <;> try cases hr
    cases dw
    rename_i j
    simp only [] at hr
    split at hr
    · rename_i n hn
      split at hr
      · rename_i xs hx
        obtain ⟨p1, ps1, hv1, hA1, hp1, hll1⟩ := e.lls hi
        rw [hv] at hv1
        cases hv1
        rw [hA] at hA1
        cases hA1
        obtain ⟨y, vs, hy, hH, dv⟩ := llOk_get hll1 hx
        refine ⟨p, _, j, _, rfl, rfl, SqL.of hp1, atI_ll (by rw [llOk_len hll1]; exact hn) hy, .inl ⟨rfl, _, SqL.of hH⟩, ?_⟩
        show ta σ H1 _
        refine xs_at ha hr e q fun u d G2 H2 ρ2 s2 du hr e q => ?_
        split at hr
        · rename_i hlt
          cases hr
          obtain ⟨p2, ps2, hv2, hA2, hp2, hll2⟩ := e.lls hi
          rw [hv] at hv2
          cases hv2
          rw [hA] at hA2
          cases hA2
          obtain ⟨y2, vs2, hy2, hH2, dv2⟩ := llOk_get hll2 hx
          rw [hy] at hy2
          cases hy2
          obtain ⟨w1, w2⟩ := e.wlls (ds := xs ++ [d]) (vs' := vs2 ++ [u]) hi hv hA hp2 hll2 hy (dqs_app dv2 (.cons du .nil))
          exact ⟨y, vs2, u, rfl, rfl, hH2, by rw [dqs_len dv2]; exact Evl.sz_lt (by omega), q _ A G2 _ w1 w2⟩
        · cases hr
      · cases hr
    · cases hr
  · cases hr
/-! ### min by data -/
end
def alk (ds : List Dt) : Bool := (ds.all fun a => ds.all fun b => PySem.W.alike a b) && ds.all fun a => match a with
  | .none => false
  | _ => true
def oMinD : List Dt → Option Dt
  | [.list (x :: ds)] => if (alk (x :: ds) && SeqAt.shaped (.list (x :: ds))) = true then some (PySem.W.minD x ds) else none
  | _ => none
/-- min(xs) -/
def rMinD (K : PySem.W.Frag) : List V → Hp → VK → Prop := fun zs H Q => ∃ (a : Addr) (us : List V) (x : Dt) (ds : List Dt), zs = [.ref a] ∧ SqL K H a us ∧ DpAll K H us (x :: ds) ∧ PySem.W.AlikeAll (x :: ds) ∧ SeqAt.shaped (.list (x :: ds)) = true ∧
  ∀ (i : Nat) (v : V), us[i]? = some v → (x :: ds)[i]? = some (PySem.W.minD x ds) → Q v H
section
variable {X : Cx}
end
end Sb

/-! Seamboard: a, *b = xs. -/
namespace Sb
open PySem PySem.Spec PySem.Calls PySem.W PyProof.Rows
section
variable {prog : Program} {w : World} {A : Around} {E : Value → Shared → Prop} {s : Shared} {env : Env}
end
end Sb
namespace Sb
open PySem PySem.Spec PyProof.Rows L2
/-- a, *b = v -/
def gStar2 (K : PySem.W.Frag) (t : TGs) : TG := fun v σ H Q => ∃ a x xs, v = .ref a ∧ (SqT K H a (x :: xs) ∨ SqL K H a (x :: xs)) ∧ xs.length < 10000 ∧ ∀ D, H D = none → t [x, .ref D] σ (upd H D (.lst xs)) Q
end Sb

/-! Seamboard: heapq's sift, at the machine's level. -/
namespace Sb
open PySem PySem.SeqAt
def swp {α : Type} (xs : List α) (i j : Nat) : List α := match xs[i]?, xs[j]? with
  | some x, some y => (xs.set i y).set j x
  | _, _ => xs
def hUp {α : Type} (lt : α → α → Bool) (top : Nat) : Nat → List α → Nat → List α
  | 0, xs, _ => xs
  | f + 1, xs, pos => if top < pos then (match xs[pos]?, xs[(pos - 1) / 2]? with
    | some x, some p => if lt x p = true then hUp lt top f (swp xs ((pos - 1) / 2) pos) ((pos - 1) / 2) else xs
    | _, _ => xs) else xs
/-- the child that goes up -/
def kid {α : Type} (lt : α → α → Bool) (xs : List α) (pos : Nat) : Nat := match xs[2 * pos + 1]?, xs[2 * pos + 2]? with
  | some l, some r => if lt l r = true then 2 * pos + 1 else 2 * pos + 2
  | _, _ => 2 * pos + 1
def hDown {α : Type} (lt : α → α → Bool) (top : Nat) : Nat → List α → Nat → List α
  | 0, xs, _ => xs
  | f + 1, xs, pos => if pos < xs.length / 2 then hDown lt top f (swp xs (kid lt xs pos) pos) (kid lt xs pos) else hUp lt top (xs.length + 1) xs pos
abbrev LsO (xs : List Value) (n : Nat) : Obj := { cls := .type "list", data := .seq xs.toArray n }
section
variable {prog : Program} {w : World} {A : Around} {R : Result → Shared → Prop} {a : Addr} {lt : Value → Value → Bool} {top : Nat} {res : Value}
/-- all but a stands -/
def But (a : Addr) (s s' : Shared) : Prop := ∀ b o, b ≠ a → s.heap.get? b = some o → s'.heap.get? b = some o
def itemsOf (a : Addr) : Sem (Array Value) := do
  let some xs ← seqItems? (.ref a) | unsupported "internal:_heapq"
  return xs
def hPush {α : Type} (lt : α → α → Bool) (xs : List α) (v : α) : List α := hUp lt 0 (xs.length + 1) (xs ++ [v]) xs.length
def hRest {α : Type} (lt : α → α → Bool) (xs : List α) (l : α) : List α := hDown lt 0 (xs.length + 1) (xs.set 0 l) 0
end
end Sb

/-! Seamboard: heapq on lists of tuples of four numbers. -/
namespace Sb
open PySem PySem.Spec PyProof.Rows L2
/-- two lists, item by item -/
inductive A2 {α β : Type} (R : α → β → Prop) : List α → List β → Prop
  | nil : A2 R [] []
  | cons {a b as bs} : R a b → A2 R as bs → A2 R (a :: as) (b :: bs)
section
variable {α β : Type} {R : α → β → Prop}
theorem A2.len : ∀ {as : List α} {bs : List β}, A2 R as bs → as.length = bs.length
  | _, _, .nil => rfl
  | _, _, .cons _ t => congrArg (· + 1) t.len
theorem A2.get : ∀ {as : List α} {bs : List β} {i : Nat} {a : α}, A2 R as bs → as[i]? = some a → ∃ b, bs[i]? = some b ∧ R a b
  | _, _, _, _, .nil, h => by simp at h
  | _, _, 0, _, .cons r _, h => by simp at h; subst h; exact ⟨_, rfl, r⟩
  | _, _, i + 1, _, .cons _ t, h => by
    obtain ⟨b, e, r⟩ := t.get (i := i) (by simpa using h)
    exact ⟨b, by simpa using e, r⟩
theorem A2.set : ∀ {as : List α} {bs : List β} {i : Nat} {a : α} {b : β}, A2 R as bs → R a b → A2 R (as.set i a) (bs.set i b)
  | _, _, _, _, _, .nil, _ => .nil
  | _, _, 0, _, _, .cons _ t, r => .cons r t
  | _, _, i + 1, _, _, .cons q t, r => .cons q (t.set r)
theorem A2.none {as : List α} {bs : List β} (h : A2 R as bs) {i : Nat} (e : as[i]? = none) : bs[i]? = none := by
  rw [List.getElem?_eq_none_iff] at e ⊢
  rw [← h.len]
  exact e
variable {lt : α → α → Bool} {lt' : β → β → Bool}
end
/-- a tuple of numbers, by its address -/
def Kv (s : Shared) (u : Value) (is : List Int) : Prop := ∃ q its, u = .ref q ∧ IsTup s.heap q its ∧ IntsAre its.toList is
open Classical in
/-- the order of tuples as they stand in a heap -/
noncomputable def ltKv (s : Shared) (u v : Value) : Bool := if h : ∃ p : List Int × List Int, Kv s u p.1 ∧ Kv s v p.2 then HT.lexLt h.choose.1 h.choose.2 else false
section
variable {X : Cx}
/-- heappush(p, v): p's things and v stand for tuples of numbers -/
def rPush (K : PySem.W.Frag) : List V → Hp → VK → Prop := fun zs H Q => ∃ (p : Addr) (vs : List V) (v : V) (R : V → List Int → Prop) (iss : List (List Int)) (is : List Int), zs = [.ref p, v] ∧ H p = some (.lst vs) ∧ vs.length < 99999 ∧ A2 R vs iss ∧ R v is ∧
  (∀ x is, R x is → ∃ q, x = .ref q ∧ SqT K H q (is.map V.int)) ∧ ∀ ws, A2 R ws (hPush HT.lexLt iss is) → Q .non (upd H p (.lst ws))
/-- a value, what it stands for, and its numbers -/
def R3 (R : V → List Int → Prop) (u : Value) (p : V × List Int) : Prop := RelV p.1 u ∧ R p.1 p.2
theorem A2.mono {α β : Type} {R S : α → β → Prop} (h : ∀ a b, R a b → S a b) : ∀ {as : List α} {bs : List β}, A2 R as bs → A2 S as bs
  | _, _, .nil => .nil
  | _, _, .cons r t => .cons (h _ _ r) (t.mono h)
theorem A2.mem {α β : Type} {R : α → β → Prop} : ∀ {as : List α} {bs : List β} {a : α}, A2 R as bs → a ∈ as → ∃ b, R a b
  | _, _, _, .nil, h => by cases h
  | _, _, _, .cons r t, h => by
    rcases List.mem_cons.mp h with e | e
    · subst e; exact ⟨_, r⟩
    · exact t.mem e
/-- heappop(p) -/
def hPop (iss : List (List Int)) : Option (List Int × List (List Int)) := match iss with
  | [] => none
  | is :: t => match t.getLast? with
    | none => some (is, [])
    | some l => some (is, hDown HT.lexLt 0 (t.dropLast.length + 2) (l :: t.dropLast) 0)
def rPop (K : PySem.W.Frag) : List V → Hp → VK → Prop := fun zs H Q => ∃ (p : Addr) (vs : List V) (R : V → List Int → Prop) (iss : List (List Int)) (is : List Int) (jss : List (List Int)), zs = [.ref p] ∧ H p = some (.lst vs) ∧ vs.length < 99999 ∧ A2 R vs iss ∧ hPop iss = some (is, jss) ∧
  (∀ x is, R x is → ∃ q, x = .ref q ∧ SqT K H q (is.map V.int)) ∧ ∀ v ws, R v is → A2 R ws jss → Q v (upd H p (.lst ws))
theorem A2.split {α β : Type} {R : α → β → Prop} : ∀ {as : List α} {bs : List β} {b : β}, A2 R as (bs ++ [b]) → ∃ as' a, as = as' ++ [a] ∧ A2 R as' bs ∧ R a b
  | _, [], _, .cons r .nil => ⟨[], _, rfl, .nil, r⟩
  | _, _ :: bs, _, .cons r t => by
    obtain ⟨as', a, e, h, q⟩ := A2.split (bs := bs) t
    exact ⟨_ :: as', a, by rw [e]; rfl, .cons r h, q⟩
end
end Sb

/-! Seamboard, layer F: heappush and heappop on an own list of tuples of numbers. -/
namespace Sb
open PySem PySem.Spec PyProof.Rows L2
section
variable {X : Cx} {K : PySem.W.Frag}
end
def toKey : Dt → Option (List Int)
  | .tuple ds => toInts ds
  | _ => none
def toKeys : List Dt → Option (List (List Int))
  | [] => some []
  | d :: ds => match toKey d, toKeys ds with
    | some is, some iss => some (is :: iss)
    | _, _ => none
section
variable {K : PySem.W.Frag} {mg : Str → Option Value} {E : XK} {Lo : Option Addr} {H0 G H G1 H1 G2 H2 : Hp} {σ : L2.St} {s : Ss} {ρ ρ' : Ro} {A : Nat → List Addr} {D : Ends} {o : Ot}
def fHPush (i : Nat) (a : ME Dt) : MS := fun s ρ => match s[i]? with
  | some (some (.o (.l _))) => fOut a (fun d s ρ => match s[i]? with
    | some (some (.o (.l xs))) => match toKeys xs, toKey d with
      | some iss, some is => if xs.length < 90000 then some (.nx (s.set i (some (.o (.l ((hPush HT.lexLt iss is).map ti))))) ρ) else none
      | _, _ => none
    | _ => none) s ρ
  | _ => none
def fHPop (i : Nat) (tg : FG) : MS := fun s ρ => match s[i]? with
  | some (some (.o (.l xs))) => match toKeys xs with
    | some iss => match hPop iss with
      | some (is, jss) => if xs.length < 90000 then (match tg (ti is) (s.set i (some (.o (.l (jss.map ti))))) with
        | some s2 => some (.nx s2 ρ)
        | none => none) else none
      | none => none
    | none => none
  | _ => none
end
end Sb

/-! Seamboard, layer F19: a, *b = xs; a constant tuple's index; dicts that stand for good. -/
namespace Sb
open PySem PySem.Spec PyProof.Rows L2
def fStar2 (i j : Nat) (a : ME Dt) : MS := fOut a fun d s ρ => match seqD d with
  | some (x :: xs) => if xs.length < 10000 then some (.nx ((s.set i (some (.d x))).set j (some (.d (.list xs)))) ρ) else none
  | _ => none
/-- a constant tuple's -/
def fIndexC (ds : List Dt) (t : ME (List Dt)) : ME Dt := bnd t fun ys => lft (match ys with
  | [d] => oIdxT ds d
  | _ => none)
structure ConstT (K : PySem.W.Frag) (u : Addr) (ds : List Dt) : Prop where
  ty : ∃ o, K.lookup u = some o ∧ o.cls = .type "tuple" ∧ o.dict = none
  dq : ∀ G, Dq K G (.ref u) (.tuple ds)
section
variable {K : PySem.W.Frag} {mg : Str → Option Value} {E : XK} {Lo : Option Addr} {H0 G H G1 H1 G2 H2 : Hp} {σ : L2.St} {s : Ss} {ρ ρ' : Ro} {A : Nat → List Addr} {D : Ends} {o : Ot} {v : V}
/-! ### dicts that stand for good -/
theorem kq_get {k : Key} : ∀ {kvs : List (Key × V)} {kds : List (Key × Dt)}, KqOk K G kvs kds → (valV kvs k = none ∧ getK kds k = none) ∨ ∃ v d, valV kvs k = some v ∧ getK kds k = some d ∧ Dq K G v d
  | _, _, .nil => .inl ⟨rfl, rfl⟩
  | _, _, .cons (k := k') (v := v) (d := d) a b => by
    by_cases h : k' = k
    · exact .inr ⟨v, d, by simp [valV, List.find?_cons, h], by simp [getK, List.find?_cons, h], a⟩
    · rcases kq_get (k := k) b with ⟨x, y⟩ | ⟨v', d', x, y, z⟩
      · exact .inl ⟨by rw [← x]; simp [valV, List.find?_cons, h], by rw [← y]; simp [getK, List.find?_cons, h]⟩
      · exact .inr ⟨v', d', by rw [← x]; simp [valV, List.find?_cons, h], by rw [← y]; simp [getK, List.find?_cons, h], z⟩
theorem kq_len : ∀ {kvs : List (Key × V)} {kds : List (Key × Dt)}, KqOk K G kvs kds → kvs.length = kds.length
  | _, _, .nil => rfl
  | _, _, .cons _ b => by rw [List.length_cons, List.length_cons, kq_len b]
theorem kq_any {k : Key} : ∀ {kvs : List (Key × V)} {kds : List (Key × Dt)}, KqOk K G kvs kds → (kvs.any fun kv => decide (kv.1 = k)) = (kds.any fun kd => decide (kd.1 = k))
  | _, _, .nil => rfl
  | _, _, .cons _ b => by rw [List.any_cons, List.any_cons, kq_any b]
theorem kq_map {k : Key} {d : Dt} (h : Dq K G v d) : ∀ {kvs : List (Key × V)} {kds : List (Key × Dt)}, KqOk K G kvs kds → KqOk K G (kvs.map fun kv => if kv.1 = k then (kv.1, v) else kv) (kds.map fun kd => if kd.1 = k then (kd.1, d) else kd)
  | _, _, .nil => .nil
  | _, _, .cons (k := k') a b => by
    rw [List.map_cons, List.map_cons]
    by_cases q : k' = k
    · rw [if_pos q, if_pos q]; exact .cons h (kq_map h b)
    · rw [if_neg q, if_neg q]; exact .cons a (kq_map h b)
theorem kq_app {k : Key} {d : Dt} (h : Dq K G v d) : ∀ {kvs : List (Key × V)} {kds : List (Key × Dt)}, KqOk K G kvs kds → KqOk K G (kvs ++ [(k, v)]) (kds ++ [(k, d)])
  | _, _, .nil => .cons h .nil
  | _, _, .cons a b => .cons a (kq_app h b)
theorem kq_put {k : Key} {d : Dt} (h : Dq K G v d) {kvs : List (Key × V)} {kds : List (Key × Dt)} (b : KqOk K G kvs kds) : KqOk K G (putK kvs k v) (putD kds k d) := by
  unfold putK putD
  rw [kq_any b]
  split
  · exact kq_map h b
  · exact kq_app h b
/-- d[k], k a number -/
def fDgetM (i : Nat) (k : ME Dt) : ME Dt := fun s ρ => match s[i]? with
  | some (some (.m kds)) => bnd k (fun x => lft (match x with
    | .int j => getK kds (.inl j)
    | _ => none)) s ρ
  | _ => none
abbrev Fm := List (Key × Dt) → List Dt → Option (Except Exn Dt)
/-- what a def promises whose first parameter is a dict -/
def spM (K : PySem.W.Frag) (mg : Str → Option Value) (F : Fm) : Sp := fun vs H Q E => ∃ G a kvs kds ws ds r, vs = .ref a :: ws ∧ Gr G H ∧ G a = some (.dK kvs) ∧ KqOk K G kvs kds ∧ DqAll K G ws ds ∧ F kds ds = some r ∧ match r with
  | .ok d => ∀ v G2 H2, Stp G H G2 H2 → Dq K G2 v d → Q v H2
  | .error x => ∀ c da G2 H2, Stp G H G2 H2 → ExOk mg x c da H2 → E c da H2
def fCallM (F : Fm) (i : Nat) (t : ME (List Dt)) : ME Dt := fun s ρ => match s[i]? with
  | some (some (.m kds)) => bnd t (fun ds s ρ => match F kds ds with
    | none => none
    | some r => some (r, ρ)) s ρ
  | _ => none
def runM (np n : Nat) (b : MS) : Fm := fun kds ds => if ds.length + 1 = np then outF (b (some (.m kds) :: argS (n - 1) ds) none) else none
end
section
variable {P : Program} {w : World} {K : PySem.W.Frag} {mg : Str → Option Value} {base : Heap} {x : Str} {st : Stmt} {N ps : List Str} {k : Nat}
end
/-! x = {k: v for .. in ..}, keys numbers -/
def dcGo (tg : FG) (k e : ME Dt) (s0 : Ss) : List Dt → List (Key × Dt) → Ro → Option (List (Key × Dt) × Ro)
  | [], acc, ρ => some (acc, ρ)
  | d :: ds, acc, ρ => match tg d s0 with
    | none => none
    | some s1 => match k s1 ρ with
      | some (.ok (.int j), ρ1) => match e s1 ρ1 with
        | some (.ok x, ρ2) => dcGo tg k e s0 ds (putD acc (.inl j) x) ρ2
        | _ => none
      | _ => none
def fDcS (i : Nat) (it : ME (List Dt)) (tg : FG) (k e : ME Dt) (vs : List Nat) : MS := fOut it fun ds s ρ => if ds.length ≤ 50000 then match dcGo tg k e (wipeS s vs) ds [] ρ with
  | none => none
  | some (kds, ρ1) => some (.nx (s.set i (some (.m kds))) ρ1)
  else none
section
variable {K : PySem.W.Frag} {mg : Str → Option Value} {E : XK} {Lo : Option Addr} {H0 G H G1 H1 G2 H2 : Hp} {σ : L2.St} {s : Ss} {ρ ρ' : Ro} {A : Nat → List Addr} {D : Ends} {o : Ot} {v : V}
structure HidM (K : PySem.W.Frag) (Lo : Option Addr) (G H G2 H2 : Hp) (D : Addr) (ρ : Ro) (kds : List (Key × Dt)) : Prop where
  sq : Sq Lo G H G2 H2
  row : RwOk K Lo G2 H2 ρ
  g : G2 D = none
  at_ : ∃ kvs, H2 D = some (.dK kvs) ∧ KqOk K G2 kvs kds
theorem HidM.step {D : Addr} {kds : List (Key × Dt)} {ρ2 : Ro} (h : HidM K Lo G H G1 H1 D ρ kds) (q : Sq Lo G1 H1 G2 H2) (r : RwOk K Lo G2 H2 ρ2) (nl : some D ≠ Lo) : HidM K Lo G H G2 H2 D ρ2 kds := by
  obtain ⟨vs, a, b⟩ := h.at_
  exact ⟨h.sq.trans q, r, q.f D (by rw [a]; simp) h.g, vs, q.h D _ nl a, kq_up q.g b⟩
theorem HidM.push {D : Addr} {kds : List (Key × Dt)} {k : Key} {d : Dt} (h : HidM K Lo G H G1 H1 D ρ kds) (hD : H D = none) (nl : some D ≠ Lo) (dv : Dq K G1 v d) : ∃ kvs, H1 D = some (.dK kvs) ∧ kvs.length = kds.length ∧ HidM K Lo G H G1 (upd H1 D (.dK (putK kvs k v))) D ρ (putD kds k d) := by
  obtain ⟨vs, a, b⟩ := h.at_
  exact ⟨vs, a, kq_len b, h.sq.put hD h.g, h.row.put nl, h.g, _, upd_same, kq_put dv b⟩
end
end Sb

/-! Seamboard: name = {k: v for ..}. -/
namespace Sb
open PySem PySem.Spec PyProof.Rows L2
section
variable {X : Cx}
end
/-! a list or a tuple, enumerated -/
section
variable {K : PySem.W.Frag} {mg : Str → Option Value} {E : XK} {Lo : Option Addr} {H0 G H G1 H1 G2 H2 : Hp} {σ : L2.St} {s : Ss} {ρ ρ' : Ro} {A : Nat → List Addr}
def fEnumO (a : ME Dt) : ME (List Dt) := bnd a fun x => lft (match x with
  | .list ds => some (pairsFrom 0 ds)
  | .tuple ds => some (pairsFrom 0 ds)
  | _ => none)
end
end Sb
namespace L2
theorem Room.units65 {k : Nat} {A : PySem.Around} (r : Room k A) : A.units + 65 < PySem.cLine := by have := r.un; omega
theorem Room.units1 {k : Nat} {A : PySem.Around} (r : Room k A) : A.units + 1 < PySem.cLine := by have := r.un; omega
end L2

/-! Seamboard, layer F20: tuples so many times; the least of a tuple. -/
namespace Sb
open PySem PySem.Spec PyProof.Rows L2
/-- a tuple once is itself -/
theorem tuple_mul1 (l : Addr) (items : Array Value) (n : Nat) (dd : Option Addr) (sl : Array (Option Value)) (u : Tok) :
    Meets (Builtin.«tuple.__mul__» ⟨[.ref l, .int 1 u], []⟩) (fun _ R s => s.heap.get? l = some { cls := .type "tuple", dict := dd, data := .seq items n, slots := sl } ∧ R (.ok (.ret (Value.ref l))) s) :=
  .of_wp fun prog w A R s h => by
    obtain ⟨hp, g, d, tk, os⟩ := s
    obtain ⟨hl, h⟩ := h
    have f1 := AutoSeq1.idx_int
    have c1 : (items.isEmpty || (1 : Int) == 1) = true := by simp
    wp_walk using wpAny_loadPart' hl
    repeat (first
      | (refine wpAny_ite_false (decide_eq_false (by decide)) ?_; wp_walk using wpAny_loadPart' hl)
      | (refine wpAny_ite_true (decide_eq_true c1) ?_; wp_walk using wpAny_loadPart' hl))
    exact ⟨_, rfl, h⟩
/-- a tuple no time is a new empty one -/
theorem tuple_mul0 (l : Addr) (items : Array Value) (n : Nat) (dd : Option Addr) (sl : Array (Option Value)) (u : Tok) (hi : items.isEmpty = false) :
    Meets (Builtin.«tuple.__mul__» ⟨[.ref l, .int 0 u], []⟩) (fun _ R s => s.heap.get? l = some { cls := .type "tuple", dict := dd, data := .seq items n, slots := sl } ∧
      R (.ok (.ret (Value.ref s.heap.objs.size))) { s with heap := s.heap.push { cls := Value.type "tuple", data := Data.seq #[] }, toks := s.toks }) :=
  .of_wp fun prog w A R s h => by
    obtain ⟨hp, g, d, tk, os⟩ := s
    obtain ⟨hl, h⟩ := h
    have f1 := AutoSeq1.idx_int
    have c1 : (items.isEmpty || (0 : Int) == 1) = false := by rw [hi]; rfl
    have c2 : (decide ((0 : Int) ≤ 0) || items.isEmpty) = true := rfl
    wp_walk using wpAny_loadPart' hl
    repeat (first
      | (refine wpAny_ite_false (decide_eq_false (by decide)) ?_; wp_walk using wpAny_loadPart' hl)
      | (refine wpAny_ite_false (decide_eq_false (by rw [c1]; exact Bool.false_ne_true)) ?_; wp_walk using wpAny_loadPart' hl)
      | (refine wpAny_ite_true (decide_eq_true c2) ?_; wp_walk using wpAny_loadPart' hl))
    exact ⟨_, rfl, h⟩
def rRepT1 (K : PySem.W.Frag) : R2 := fun x y H Q => (∃ l xs, x = .ref l ∧ y = .int 1 ∧ SqT K H l xs ∧ Q (.ref l) H) ∨ (∃ l xs, x = .ref l ∧ y = .int 0 ∧ SqT K H l xs ∧ xs ≠ [] ∧ ∀ p, H p = none → Q (.ref p) (upd H p (.tup []))) ∨ rRepT K x y H Q
theorem op_repT1 {X : Cx} : OpR X (binaryOp .Mult) (rRepT1 X.K) := by
  intro pins s σ H x y v u Q I rx ry h
  rcases h with ⟨l, xs, rfl, rfl, hT, q⟩ | ⟨l, xs, rfl, rfl, hT, hne, q⟩ | h
  · cases rx
    obtain ⟨t, rfl⟩ := ry
    obtain ⟨its, r, ⟨⟨cls, dd, data, sl⟩, ho, hc, n, hd⟩, hs⟩ := I.tuple hT
    simp only at hc hd
    subst hc hd
    refine wpAny_binaryOp_repeat_ref (T := "tuple") (U := "int") (by decide) ⟨_, ho, rfl⟩ (fun s' => typeIs_int s' 1 t) noFill_tuple_mul F.fills_int_mul F.slot_int_rmul repeat_tuple F.slot_int_index.lookup
      (call_meets F.slot_int_rmul (typeIs_int s 1 t) F.entry_int_rmul (F.args_int_rmul_2 _ _) (int_rmul_tuple 1 t l its.toArray n dd sl)
        ⟨ho, rfl, ⟨_, ho, rfl⟩, call_meets F.slot_tuple_mul ⟨_, ho, rfl⟩ F.entry_tuple_mul (F.args_tuple_mul_2 _ _) (tuple_mul1 l its.toArray n dd sl t) ⟨ho, ?_⟩⟩)
    exact ⟨.ref l, _, I, rfl, q⟩
  · cases rx
    obtain ⟨t, rfl⟩ := ry
    obtain ⟨its, r, ⟨⟨cls, dd, data, sl⟩, ho, hc, n, hd⟩, hs⟩ := I.tuple hT
    simp only at hc hd
    subst hc hd
    have hle : its.length = xs.length := r.length.symm
    have hn : its ≠ [] := fun e => hne (by
      rw [e] at hle
      exact List.eq_nil_of_length_eq_zero hle.symm)
    have hi : its.toArray.isEmpty = false := by
      cases its with
      | nil => exact absurd rfl hn
      | cons a b => rfl
    refine wpAny_binaryOp_repeat_ref (T := "tuple") (U := "int") (by decide) ⟨_, ho, rfl⟩ (fun s' => typeIs_int s' 0 t) noFill_tuple_mul F.fills_int_mul F.slot_int_rmul repeat_tuple F.slot_int_index.lookup
      (call_meets F.slot_int_rmul (typeIs_int s 0 t) F.entry_int_rmul (F.args_int_rmul_2 _ _) (int_rmul_tuple 0 t l its.toArray n dd sl)
        ⟨ho, rfl, ⟨_, ho, rfl⟩, call_meets F.slot_tuple_mul ⟨_, ho, rfl⟩ F.entry_tuple_mul (F.args_tuple_mul_2 _ _) (tuple_mul0 l its.toArray n dd sl t hi) ⟨ho, ?_⟩⟩)
    refine ⟨.ref s.heap.objs.size, _, I.laid (t' := s.toks) (o := .tup []) (fun b ob q => Heap.get?_push_of_some _ q) (Nat.le_refl _) ?_, rfl, q _ (I.hok.fresh (Nat.le_refl _))⟩
    exact ⟨Nat.zero_le _, [], .nil, IsTup.new _ _⟩
  · exact op_repT pins s σ H x y v u Q I rx ry h
def oRepT (x y : Dt) : Option Dt := match x, y with
  | .tuple a, .int k => if 0 ≤ k ∧ k ≤ 1000 ∧ a.length ≤ 100 ∧ 1 ≤ a.length then some (.tuple (List.replicate k.toNat a).flatten) else none
  | _, _ => none
theorem rvo_repT {K : PySem.W.Frag} : RVo K (rRepT1 K) oRepT := fun x y ds h G H v u Q s a b q => by
  unfold oRepT at h
  split at h
  · split at h
    · rename_i k hk
      cases h
      have a0 := a
      cases b
      cases a with
      | tup h1 h2 =>
        have hl := dqs_len h2
        by_cases k1 : k = 1
        · subst k1
          refine .inl ⟨_, _, rfl, rfl, gr_t s h1, q _ G H (.refl s) ?_⟩
          rw [show (1 : Int).toNat = 1 from rfl, List.replicate_one, List.flatten_singleton]
          exact a0
        · by_cases k0 : k = 0
          · subst k0
            refine .inr (.inl ⟨_, _, rfl, rfl, gr_t s h1, fun z => ?_, fun p hp => ?_⟩)
            · rw [z] at hl
              simp at hl
              omega
            · obtain ⟨st, dq⟩ := newq_t (K := K) s hp .nil
              exact q _ _ _ st dq
          refine .inr (.inr ⟨_, _, _, rfl, rfl, gr_t s h1, fun z => ?_, by omega, hk.2.1, by omega, fun p hp => ?_⟩)
          · rw [z] at hl
            simp at hl
            omega
          · obtain ⟨st, dq⟩ := newq_t s hp (dqs_rep h2 k.toNat)
            exact q _ _ _ st dq
    · cases h
  · cases h
def oMinDT : List Dt → Option Dt
  | [.tuple (x :: ds)] => if (alk (x :: ds) && SeqAt.shaped (.tuple (x :: ds))) = true then some (PySem.W.minD x ds) else none
  | _ => none
def rMinDT (K : PySem.W.Frag) : List V → Hp → VK → Prop := fun zs H Q => ∃ (a : Addr) (us : List V) (x : Dt) (ds : List Dt), zs = [.ref a] ∧ SqT K H a us ∧ DpAll K H us (x :: ds) ∧ PySem.W.AlikeAll (x :: ds) ∧ SeqAt.shaped (.tuple (x :: ds)) = true ∧
  ∀ (i : Nat) (v : V), us[i]? = some v → (x :: ds)[i]? = some (PySem.W.minD x ds) → Q v H
section
variable {X : Cx}
end
end Sb

/-! Seamboard: a constant tuple of four pairs. -/
namespace Sb
open PySem PySem.Spec PyProof.Rows L2
/-! a list's or a tuple's truth -/
def truD : Dt → Option Bool
  | .list ds => some (!ds.isEmpty)
  | .tuple ds => some (!ds.isEmpty)
  | _ => none
def fTr (a : ME Dt) : ME Bool := bnd a fun x => lft (truD x)
def oMaxD : List Dt → Option Dt
  | [.list (x :: ds)] => if (alk (x :: ds) && SeqAt.shaped (.list (x :: ds))) = true then some (PySem.W.maxD x ds) else none
  | _ => none
/-- max(xs) -/
def rMaxD (K : PySem.W.Frag) : List V → Hp → VK → Prop := fun zs H Q => ∃ (a : Addr) (us : List V) (x : Dt) (ds : List Dt), zs = [.ref a] ∧ SqL K H a us ∧ DpAll K H us (x :: ds) ∧ PySem.W.AlikeAll (x :: ds) ∧ SeqAt.shaped (.list (x :: ds)) = true ∧
  ∀ (i : Nat) (v : V), us[i]? = some v → (x :: ds)[i]? = some (PySem.W.maxD x ds) → Q v H
section
variable {X : Cx}
end
def oAbs : List Dt → Option Dt
  | [.int i] => some (.int (if i < 0 then -i else i))
  | _ => none
def rAbs : List V → Hp → VK → Prop := fun xs H Q => ∃ i, xs = [.int i] ∧ Q (.int (if i < 0 then -i else i)) H
end Sb

/-! Seamboard: x in a list of any data; t[::-1] of a pair. -/
namespace Sb
open PySem PySem.Spec PyProof.Rows L2
section
variable {X : Cx} {K : PySem.W.Frag}
end
def oInD (x y : Dt) : Option Dt := match y with
  | .list ds => if (SeqAt.shaped x && SeqAt.shaped (.list ds)) = true then some (.bool (ds.any fun z => PyData.eqv z x)) else none
  | _ => none
section
variable {K : PySem.W.Frag} {mg : Str → Option Value} {E : XK} {Lo : Option Addr} {H0 G H G1 H1 G2 H2 : Hp} {σ : L2.St} {s : Ss} {ρ ρ' : Ro} {A : Nat → List Addr} {D : Ends} {o : Ot}
/-! t[::-1] of a pair -/
def tBack (K : PySem.W.Frag) (te : TE) (tl th ts : TO) : TE := fun σ H Q => te σ H fun x H1 => tl σ H1 fun l H2 => th σ H2 fun u H3 => ts σ H3 fun o H4 => ∃ a x0 y0, x = .ref a ∧ l = none ∧ u = none ∧ o = some (-1) ∧ SqT K H4 a [x0, y0] ∧ ∀ p, H4 p = none → Q (.ref p) (upd H4 p (.tup [y0, x0]))
/-- t[::-1] of a pair -/
def fBack (a : ME Dt) (l h k : ME (Option Int)) : ME Dt := bnd a fun x => bnd l fun lo => bnd h fun hi => bnd k fun st => lft (match x, lo, hi, st with
  | .tuple [x, y], none, none, some k => if k = -1 then some (.tuple [y, x]) else none
  | _, _, _, _ => none)
/-- x = [[..], [..]], each a list that will change -/
def fLitLL (i : Nat) (e1 e2 : ME (List Dt)) : MS := fun s ρ => match e1 s ρ with
  | some (.ok x, ρ1) => match e2 s ρ1 with
    | some (.ok y, ρ2) => some (.nx (s.set i (some (.o (.ll [x, y])))) ρ2)
    | _ => none
  | _ => none
theorem xs_litLL {t1 t2 : TE} {e1 e2 : ME (List Dt)} (i : Nat) (h1 : XN K mg E t1 e1) (h2 : XN K mg E t2 e2) : XS K mg E (tAsg (tLst (tCons t1 (tCons t2 tNil))) (gName i)) (fLitLL i e1 e2) := fun Lo H0 DD σ G H s ρ A o hr en q => by
  unfold fLitLL at hr
  split at hr
  case h_2 => cases hr
  rename_i x ρ1 he1
  split at hr
  case h_2 => cases hr
  rename_i y ρ2 he2
  cases hr
  show t1 σ H _
  refine h1 Lo H0 σ G H s ρ A _ _ _ he1 en fun p vs G1 H1 q1 r1 hp gp np hh dv => ?_
  show t2 σ H1 _
  refine h2 Lo H0 σ G1 H1 s ρ1 A _ _ _ he2 (en.step q1 r1) fun p2 vs2 G2 H2 q2 r2 hp2 gp2 np2 hh2 dv2 => ?_
  have en2 := (en.step q1 r1).step q2 r2
  refine ⟨by rw [sizeLine_eq]; show 2 ≤ 16777216; decide, fun D hD => ?_⟩
  have nl := en2.new_lo hD
  have hid := Stp.hid (o := .lst [.ref p, .ref p2]) en2.gr hD
  have en3 := en2.step hid.sq (en2.row.step hid)
  have k1 : H1 p ≠ none := by rw [hh]; simp
  have k2 : H2 p = some (.lst vs) := q2.h p _ np hh
  have k3 : H2 p2 ≠ none := by rw [hh2]; simp
  have pD : p ≠ D := fun z => by rw [z, hD] at k2; cases k2
  have p2D : p2 ≠ D := fun z => by rw [z, hD] at k3; exact k3 rfl
  have pp : p ≠ p2 := fun z => by rw [z] at k1; exact k1 hp2
  have low : ∀ {u}, H u = none → H0 u = none := fun {u} hu => by
    cases z : H0 u with
    | none => rfl
    | some v => exact absurd hu (en.low u (by rw [z]; simp))
  have back1 : ∀ {u}, H1 u = none → H u = none := fun {u} hu => by
    cases z : H u with
    | none => rfl
    | some v => exact absurd hu (q1.k u (by rw [z]; simp))
  have back2 : ∀ {u}, H2 u = none → H1 u = none := fun {u} hu => by
    cases z : H1 u with
    | none => rfl
    | some v => exact absurd hu (q2.k u (by rw [z]; simp))
  have nA : ∀ {u}, H u = none → ∀ j, u ∉ A j := fun {u} hu j hj => (en.fp j u hj).2.2.1 hu
  have gD : G2 D = none := en2.gr.back hD
  refine q _ _ G2 _ ((q1.trans q2).trans hid.sq |>.sr en.low) (en3.ownL (i := i) (fp := [D, p, p2]) (v := .ref D) (c := .ll [x, y]) ?_ (fun u hu => ?_) ⟨D, [p, p2], rfl, rfl, upd_same, ?_⟩)
  · refine List.nodup_cons.mpr ⟨fun z => ?_, List.nodup_cons.mpr ⟨fun z => pp (List.mem_singleton.mp z), List.nodup_cons.mpr ⟨List.not_mem_nil, List.nodup_nil⟩⟩⟩
    rcases List.mem_cons.mp z with z | z
    · exact pD z.symm
    · exact p2D (List.mem_singleton.mp z).symm
  · rcases List.mem_cons.mp hu with z | z
    · subst z
      exact ⟨gD, low (back1 (back2 hD)), by rw [upd_same]; simp, nl, nA (back1 (back2 hD))⟩
    · rcases List.mem_cons.mp z with z | z
      · subst z
        exact ⟨q2.f _ k1 gp, low hp, by rw [upd_ne pD, k2]; simp, np, nA hp⟩
      · rw [List.mem_singleton.mp z]
        exact ⟨gp2, low (back1 hp2), by rw [upd_ne p2D]; exact k3, np2, nA (back1 hp2)⟩
  · exact .cons (by rw [upd_ne pD]; exact k2) (Dqsu dv q2.g) (.cons (by rw [upd_ne p2D]; exact hh2) dv2 .nil)
end
end Sb

/-! Seamboard: two new lists and two things, unpacked out of a tuple. -/
namespace Sb
open PySem PySem.Spec PyProof.Rows L2
section
variable {K : PySem.W.Frag} {mg : Str → Option Value} {E : XK} {Lo : Option Addr} {H0 G H G1 H1 G2 H2 : Hp} {σ : L2.St} {s : Ss} {ρ ρ' : Ro} {A : Nat → List Addr} {D : Ends} {o : Ot}
def fPar4N (i j k l : Nat) (g1 g2 : ME (List Dt)) (a b : ME Dt) : MS := fOut g1 fun ds1 => fOut g2 fun ds2 => fOut a fun d1 => fOut b fun d2 s ρ => some (.nx ((((s.set i (some (.o (.l ds1)))).set j (some (.o (.l ds2)))).set k (some (.d d1))).set l (some (.d d2))) ρ)
end
end Sb

/-! A text times a number. -/
namespace Sb
open PySem PySem.Spec PyProof.Rows L2
def repS (z : Str) (k : Int) : Str := ⟨(List.replicate k.toNat z.cps).foldl (· ++ ·) #[]⟩
def rRepS : R2 := fun x y H Q => ∃ z k, x = .str z ∧ y = .int k ∧ 0 ≤ k ∧ k ≤ 1000 ∧ z.length ≤ 1000 ∧ Q (.str (repS z k)) H
section
variable {X : Cx}
end
section
variable {K : PySem.W.Frag}
def oRepS : Dt → Dt → Option Dt
  | .str z, .int k => if 0 ≤ k ∧ k ≤ 1000 ∧ z.length ≤ 1000 then some (.str (repS z k)) else none
  | _, _ => none
end
end Sb

namespace Sb
open PySem PySem.Spec PyProof.Rows L2
def f__law_taken : MS := (fSeq (fIfS (fB (fOp oGt (fRowI 0 3) (ret (.int 0))))
    (fSeq (fAsg (fOp oMod (fRowI 0 3) (fVar 1)) (fgName 2))
  (fSeq (fRowSet 0 3 (fOp oDiv (fRowI 0 3) (fVar 1)))
  (fRet (fVar 2)))) fNext)
  (fSeq (fRowSet 0 1 (fOp oAdd (fRowI 0 1) (ret (.int 1))))
  (fSeq (fIfS (fB (fOp oGt (fRowI 0 1) (fRowLen 0)))
    (fSeq (fRowSet 0 2 (fOp oMod (fOp oAdd (fOp oMul (fRowI 0 2) (ret (.int 48271))) (ret (.int 11))) (ret (.int 2147483647))))
  (fRet (fOp oMod (fOp oDiv (fRowI 0 2) (ret (.int 7))) (fVar 1)))) fNext)
  (fSeq (fAsg (fRowAt 0 (fOp oSub (fRowI 0 1) (ret (.int 1)))) (fgName 3))
  (fSeq (fRowSet 0 2 (fOp oMod (fOp oAdd (fOp oAdd (fOp oMul (fRowI 0 2) (ret (.int 48271))) (fVar 3)) (ret (.int 11))) (ret (.int 2147483647))))
  (fSeq (fIfS (fB (fOp oGe (fVar 3) (fOp oPow (ret (.int 10)) (ret (.int 18)))))
    (fRowSet 0 3 (fOp oDiv (fVar 3) (fVar 1))) fNext)
  (fRet (fOp oMod (fVar 3) (fVar 1)))))))))
def F__law_taken : Fr := runW 2 4 f__law_taken
def f__law_board : MS := (fRet (fTup (fCons (fOp oAdd (ret (.int 2)) (fCallR F__law_taken 0 (fCons (fOp oSub (fVar 1) (ret (.int 1))) fNil))) (fCons (fOp oAdd (ret (.int 2)) (fCallR F__law_taken 0 (fCons (fOp oSub (fVar 1) (ret (.int 1))) fNil))) fNil))))
def F__law_board : Fr := runW 2 2 f__law_board
def f__law_bad : MS := (fSeq (fAsg (fCallR F__law_taken 0 (fCons (fOp oPow (ret (.int 10)) (ret (.int 9))) fNil)) (fgName 3))
  (fSeq (fAsg (fOp oIxL (fN (fLst (fCons (fVar 2) (fCons (fOp oAdd (fVar 2) (fVar 3)) (fCons (fOp oSub (fOp oSub (ret (.int 0)) (ret (.int 1))) (fVar 3)) (fCons (ret (.bool true)) (fCons (ret .none) (fCons (ret (.str "1")) (fCons (fTup (fCons (ret (.int 0)) fNil)) fNil))))))))) (fCallR F__law_taken 0 (fCons (ret (.int 7)) fNil))) (fgName 4))
  (fSeq (fAsg (fCallR F__law_taken 0 (fCons (fOp oAdd (fCB oLen (fCons (fVar 1) fNil)) (ret (.int 1))) fNil)) (fgName 5))
  (fSeq (fAsg (fOp oCatT (fOp oCatT (fSlT (fVar 1) fNo (fSo (fVar 5))) (fTup (fCons (fVar 4) fNil))) (fSlT (fVar 1) (fSo (fVar 5)) fNo)) (fgName 6))
  (fSeq (fIfS (fAnd (fB (fOp oGt (fVar 5) (ret (.int 0)))) (fB (fOp oEq (fCallR F__law_taken 0 (fCons (ret (.int 3)) fNil)) (ret (.int 0)))))
    (fAsg (fOp oCatT (fOp oCatT (fSlT (fVar 1) fNo (fSo (fVar 5))) (fTup (fCons (fOp oIxT (fVar 1) (fOp oSub (fVar 5) (ret (.int 1)))) fNil))) (fSlT (fVar 1) (fSo (fVar 5)) fNo)) (fgName 6)) fNext)
  (fRet (fTup (fCons (fVar 6) (fCons (fVar 5) fNil)))))))))
def F__law_bad : Fr := runW 3 7 f__law_bad
def f__law_ends : MS := (fSeq (fPar [2, 3] (fCons (fOp oDiv (fOp oDiv (fVar 1) (ret (.int 2))) (fOp oIxT (fVar 0) (ret (.int 1)))) (fCons (fOp oMod (fOp oDiv (fVar 1) (ret (.int 2))) (fOp oIxT (fVar 0) (ret (.int 1)))) fNil)))
  (fSeq (fIfS (fB (fOp oEq (fOp oMod (fVar 1) (ret (.int 2))) (ret (.int 0))))
    (fRet (fN (fLst (fCons (fOp oDiv (fVar 1) (ret (.int 2))) (fCons (fOp oAdd (fOp oMul (fVar 2) (fOp oIxT (fVar 0) (ret (.int 1)))) (fOp oIxL (fN (fLst (fCons (fOp oAdd (fVar 3) (ret (.int 1))) (fCons (ret (.int 0)) fNil)))) (fCB oInt (fCons (fOp oEq (fVar 3) (fOp oSub (fOp oIxT (fVar 0) (ret (.int 1))) (ret (.int 1)))) fNil)))) fNil))))) fNext)
  (fRet (fN (fLst (fCons (fOp oDiv (fVar 1) (ret (.int 2))) (fCons (fOp oAdd (fOp oMul (fOp oIxL (fN (fLst (fCons (fOp oAdd (fVar 2) (ret (.int 1))) (fCons (ret (.int 0)) fNil)))) (fCB oInt (fCons (fOp oEq (fVar 2) (fOp oSub (fOp oIxT (fVar 0) (ret (.int 0))) (ret (.int 1)))) fNil))) (fOp oIxT (fVar 0) (ret (.int 1)))) (fVar 3)) fNil)))))))
def F__law_ends : Fn := runF 2 4 f__law_ends
def f__law_lit : MS := (fSeq (fAsg (fN (fLst fNil)) (fgName 2))
  (fSeq (fFor (fItT (fVar 1)) (fgName 3)
    (fAsg (fN (fOpN oCat (fVar 2) (fCall F__law_ends (fCons (fVar 0) (fCons (fVar 3) fNil))))) (fgName 2)))
  (fRet (fCB oTup (fCons (fN (fLc (fRng1 (fCons (fOp oMul (fOp oIxT (fVar 0) (ret (.int 0))) (fOp oIxT (fVar 0) (ret (.int 1)))) fNil)) (fgName 4) (fB (fOp oEq (fOp oMod (fCountL (fVar 2) (fCons (fVar 4) fNil)) (ret (.int 2))) (ret (.int 1)))) (fVar 4) [4])) fNil)))))
def F__law_lit : Fn := runF 2 5 f__law_lit
def f__law_some : MS := (fSeq (fAsg (fN (fLst fNil)) (fgName 3))
  (fSeq (fFor (fRng1 (fCons (fCallR F__law_taken 0 (fCons (fOp oAdd (fCB oMin2 (fCons (fVar 1) (fCons (fVar 2) fNil))) (ret (.int 1))) fNil)) fNil)) (fgName 4)
    (fSeq (fAsg (fCallR F__law_taken 0 (fCons (fVar 1) fNil)) (fgName 5))
  (fAsg (fN (fOpN oCat (fVar 3) (fN (fOpN oRep (fN (fLst (fCons (fVar 5) fNil))) (fCB oInt (fCons (fOp oNi (fVar 5) (fVar 3)) fNil)))))) (fgName 3))))
  (fRet (fCB oTup (fCons (fN (fCBN oSorted (fCons (fVar 3) fNil))) fNil)))))
def F__law_some : Fr := runW 3 6 f__law_some
def f__law_flips : MS := (fSeq (fAsg (fOp oMul (fOp oIxT (fVar 1) (ret (.int 0))) (fOp oIxT (fVar 1) (ret (.int 1)))) (fgName 2))
  (fSeq (fAsg (fN (fCBN oListOf (fCons (fCallR F__law_some 0 (fCons (fOp oMul (ret (.int 2)) (fVar 2)) (fCons (fOp oIxL (fN (fLst (fCons (ret (.int 3)) (fCons (ret (.int 6)) (fCons (fOp oMul (ret (.int 2)) (fVar 2)) fNil))))) (fCallR F__law_taken 0 (fCons (ret (.int 3)) fNil))) fNil))) fNil))) (fgName 3))
  (fSeq (fIfS (fB (fOp oEq (fCallR F__law_taken 0 (fCons (ret (.int 4)) fNil)) (ret (.int 0))))
    (fSeq (fAsg (fCallR F__law_taken 0 (fCons (fOp oIxT (fVar 1) (ret (.int 0))) fNil)) (fgName 4))
  (fAsg (fN (fOpN oCat (fVar 3) (fN (fLc (fRng1 (fCons (fOp oIxT (fVar 1) (ret (.int 1))) fNil)) (fgName 5) (ret true) (fOp oMul (ret (.int 2)) (fOp oAdd (fOp oMul (fVar 4) (fOp oIxT (fVar 1) (ret (.int 1)))) (fVar 5))) [5])))) (fgName 3))) fNext)
  (fSeq (fIfS (fB (fOp oEq (fCallR F__law_taken 0 (fCons (ret (.int 4)) fNil)) (ret (.int 0))))
    (fSeq (fAsg (fCallR F__law_taken 0 (fCons (fOp oIxT (fVar 1) (ret (.int 1))) fNil)) (fgName 4))
  (fAsg (fN (fOpN oCat (fVar 3) (fN (fLc (fRng1 (fCons (fOp oIxT (fVar 1) (ret (.int 0))) fNil)) (fgName 5) (ret true) (fOp oAdd (fOp oMul (ret (.int 2)) (fOp oAdd (fOp oMul (fVar 5) (fOp oIxT (fVar 1) (ret (.int 1)))) (fVar 4))) (ret (.int 1))) [5])))) (fgName 3))) fNext)
  (fRet (fCB oTup (fCons (fN (fLc (fRng1 (fCons (fOp oMul (ret (.int 2)) (fVar 2)) fNil)) (fgName 6) (fB (fOp oEq (fOp oMod (fCountL (fVar 3) (fCons (fVar 6) fNil)) (ret (.int 2))) (ret (.int 1)))) (fVar 6) [6])) fNil)))))))
def F__law_flips : Fr := runW 2 7 f__law_flips
def f_is_whole : MS := (fRet (fAndV (fIsi "int" (fVar 0)) (fNotV (fIsi "bool" (fVar 0)))))
def F_is_whole : Fn := runF 1 1 f_is_whole
def f_is_side : MS := (fRet (fAndV (fCall F_is_whole (fCons (fVar 0) fNil)) (fChain oLe oLe (ret (.int 2)) (fVar 0) (ret (.int 5)))))
def F_is_side : Fn := runF 1 1 f_is_side
def f_require_board : MS := (fSeq (fIfS (fOr (fNot (fB (fIsi "tuple" (fVar 0)))) (fB (fOp oNe (fCB oLen (fCons (fVar 0) fNil)) (ret (.int 2)))))
    fNever fNext)
  (fIfS (fOr (fNot (fB (fCall F_is_side (fCons (fOp oIxT (fVar 0) (ret (.int 0))) fNil)))) (fNot (fB (fCall F_is_side (fCons (fOp oIxT (fVar 0) (ret (.int 1))) fNil)))))
    fNever fNext))
def F_require_board : Fn := runF 1 1 f_require_board
def f_first_misplaced : MS := (fSeq (fIfS (fNot (fB (fIsi "tuple" (fVar 0))))
    (fRet (ret (.int 0))) fNext)
  (fSeq (fAsg (ret (.int 0)) (fgName 2))
  (fSeq (fFor (fEnumT (fVar 0)) (fgTup 2 (fgCons (fgName 3) (fgCons (fgName 4) fgNil)))
    (fSeq (fIfS (fOr (fNot (fB (fCall F_is_whole (fCons (fVar 4) fNil)))) (fOr (fB (fOp oLt (fVar 4) (fVar 2))) (fB (fOp oGe (fVar 4) (fVar 1)))))
    (fRet (fVar 3)) fNext)
  (fAsg (fOp oAdd (fVar 4) (ret (.int 1))) (fgName 2))))
  (fRet (ret .none)))))
def F_first_misplaced : Fn := runF 2 5 f_first_misplaced
def f_site_count : MS := (fRet (fOp oMul (fOp oIxT (fVar 0) (ret (.int 0))) (fOp oIxT (fVar 0) (ret (.int 1)))))
def F_site_count : Fn := runF 1 1 f_site_count
def f_edge_count : MS := (fRet (fOp oMul (ret (.int 2)) (fCall F_site_count (fCons (fVar 0) fNil))))
def F_edge_count : Fn := runF 1 1 f_edge_count
def f_require_flips : MS := (fSeq (fAsg (fCall F_first_misplaced (fCons (fVar 1) (fCons (fCall F_edge_count (fCons (fVar 0) fNil)) fNil))) (fgName 2))
  (fIfS (fB (fOp oNotN (fVar 2) (ret .none)))
    fNever fNext))
def F_require_flips : Fn := runF 2 3 f_require_flips
def f_odd_ones : MS := (fSeq (fOwn 2 (fOpN oRep (fN (fLst (fCons (ret (.int 0)) fNil))) (fVar 1)))
  (fSeq (fFor (fItO (fVar 0)) (fgName 3)
    (fAugI (fun i j => i + j) 2 (fVar 3) (ret (.int 1))))
  (fFz 2 (fRet (fCB oTup (fCons (fN (fLc (fEnumL (fVar 2)) (fgTup 2 (fgCons (fgName 3) (fgCons (fgName 4) fgNil))) (fB (fOp oEq (fOp oMod (fVar 4) (ret (.int 2))) (ret (.int 1)))) (fVar 3) [3, 4])) fNil))))))
def F_odd_ones : Fn := runF 2 5 f_odd_ones
def f_goes_down : MS := (fRet (fOp oEq (fOp oMod (fVar 0) (ret (.int 2))) (ret (.int 1))))
def F_goes_down : Fn := runF 1 1 f_goes_down
def f_site_right_of : MS := (fSeq (fAsg (fOp oIxT (fVar 0) (ret (.int 1))) (fgName 2))
  (fRet (fOp oAdd (fOp oSub (fVar 1) (fOp oMod (fVar 1) (fVar 2))) (fOp oMod (fOp oAdd (fVar 1) (ret (.int 1))) (fVar 2)))))
def F_site_right_of : Fn := runF 2 3 f_site_right_of
def f_site_below : MS := (fRet (fOp oMod (fOp oAdd (fVar 1) (fOp oIxT (fVar 0) (ret (.int 1)))) (fCall F_site_count (fCons (fVar 0) fNil))))
def F_site_below : Fn := runF 2 2 f_site_below
def f_edge_ends : MS := (fSeq (fAsg (fOp oDiv (fVar 1) (ret (.int 2))) (fgName 2))
  (fSeq (fIfS (fB (fCall F_goes_down (fCons (fVar 1) fNil)))
    (fRet (fTup (fCons (fVar 2) (fCons (fCall F_site_below (fCons (fVar 0) (fCons (fVar 2) fNil))) fNil)))) fNext)
  (fRet (fTup (fCons (fVar 2) (fCons (fCall F_site_right_of (fCons (fVar 0) (fCons (fVar 2) fNil))) fNil))))))
def F_edge_ends : Fn := runF 2 3 f_edge_ends
def f_checks : MS := (fSeq (fDrop (fCall F_require_board (fCons (fVar 0) fNil)))
  (fSeq (fDrop (fCall F_require_flips (fCons (fVar 0) (fCons (fVar 1) fNil))))
  (fSeq (fAsg (fN (fLc2 (fItT (fVar 1)) (fgName 3) (ret true) (fItT (fCall F_edge_ends (fCons (fVar 0) (fCons (fVar 3) fNil)))) (fgName 4) (ret true) (fVar 4) [3, 4] [4])) (fgName 2))
  (fRet (fCall F_odd_ones (fCons (fVar 2) (fCons (fCall F_site_count (fCons (fVar 0) fNil)) fNil)))))))
def F_checks : Fn := runF 2 5 f_checks
def f_crosses_first_seam : MS := (fSeq (fAsg (fOp oIxT (fVar 0) (ret (.int 1))) (fgName 2))
  (fRet (fAndV (fNotV (fCall F_goes_down (fCons (fVar 1) fNil))) (fOp oEq (fOp oMod (fOp oDiv (fVar 1) (ret (.int 2))) (fVar 2)) (fOp oSub (fVar 2) (ret (.int 1)))))))
def F_crosses_first_seam : Fn := runF 2 3 f_crosses_first_seam
def f_crosses_second_seam : MS := (fSeq (fAsg (fVar 0) (fgTup 2 (fgCons (fgName 2) (fgCons (fgName 3) fgNil))))
  (fRet (fAndV (fCall F_goes_down (fCons (fVar 1) fNil)) (fOp oEq (fOp oDiv (fOp oDiv (fVar 1) (ret (.int 2))) (fVar 3)) (fOp oSub (fVar 2) (ret (.int 1)))))))
def F_crosses_second_seam : Fn := runF 2 4 f_crosses_second_seam
def f_seams : MS := (fSeq (fDrop (fCall F_require_board (fCons (fVar 0) fNil)))
  (fSeq (fDrop (fCall F_require_flips (fCons (fVar 0) (fCons (fVar 1) fNil))))
  (fSeq (fAsg (fN (fLc (fItT (fVar 1)) (fgName 3) (fB (fCall F_crosses_first_seam (fCons (fVar 0) (fCons (fVar 3) fNil)))) (fVar 3) [3])) (fgName 2))
  (fSeq (fAsg (fN (fLc (fItT (fVar 1)) (fgName 3) (fB (fCall F_crosses_second_seam (fCons (fVar 0) (fCons (fVar 3) fNil)))) (fVar 3) [3])) (fgName 4))
  (fRet (fTup (fCons (fOp oMod (fCB oLen (fCons (fVar 2) fNil)) (ret (.int 2))) (fCons (fOp oMod (fCB oLen (fCons (fVar 4) fNil)) (ret (.int 2))) fNil))))))))
def F_seams : Fn := runF 2 5 f_seams
def f_require_faces : MS := (fSeq (fAsg (fCall F_first_misplaced (fCons (fVar 1) (fCons (fCall F_site_count (fCons (fVar 0) fNil)) fNil))) (fgName 2))
  (fIfS (fB (fOp oNotN (fVar 2) (ret .none)))
    fNever fNext))
def F_require_faces : Fn := runF 2 3 f_require_faces
def f_edges_round : MS := (fSeq (fAsg (fCall F_site_below (fCons (fVar 0) (fCons (fVar 1) fNil))) (fgName 2))
  (fSeq (fAsg (fCall F_site_right_of (fCons (fVar 0) (fCons (fVar 1) fNil))) (fgName 3))
  (fRet (fTup (fCons (fOp oMul (ret (.int 2)) (fVar 1)) (fCons (fOp oAdd (fOp oMul (ret (.int 2)) (fVar 1)) (ret (.int 1))) (fCons (fOp oMul (ret (.int 2)) (fVar 2)) (fCons (fOp oAdd (fOp oMul (ret (.int 2)) (fVar 3)) (ret (.int 1))) fNil))))))))
def F_edges_round : Fn := runF 2 4 f_edges_round
def f_turned : MS := (fSeq (fDrop (fCall F_require_board (fCons (fVar 0) fNil)))
  (fSeq (fDrop (fCall F_require_flips (fCons (fVar 0) (fCons (fVar 1) fNil))))
  (fSeq (fDrop (fCall F_require_faces (fCons (fVar 0) (fCons (fVar 2) fNil))))
  (fSeq (fAsg (fN (fLc2 (fItT (fVar 2)) (fgName 4) (ret true) (fItT (fCall F_edges_round (fCons (fVar 0) (fCons (fVar 4) fNil)))) (fgName 5) (ret true) (fVar 5) [4, 5] [5])) (fgName 3))
  (fRet (fCall F_odd_ones (fCons (fN (fLst (fStar (fVar 1) (fStar (fVar 3) fNil)))) (fCons (fCall F_edge_count (fCons (fVar 0) fNil)) fNil))))))))
def F_turned : Fn := runF 3 6 f_turned
def f_after : MS := (fSeq (fDrop (fCall F_require_board (fCons (fVar 0) fNil)))
  (fSeq (fDrop (fCall F_require_flips (fCons (fVar 0) (fCons (fVar 1) fNil))))
  (fSeq (fDrop (fCall F_require_flips (fCons (fVar 0) (fCons (fVar 2) fNil))))
  (fRet (fCall F_odd_ones (fCons (fOp oCatT (fVar 1) (fVar 2)) (fCons (fCall F_edge_count (fCons (fVar 0) fNil)) fNil)))))))
def F_after : Fn := runF 3 3 f_after
def f_faces_within : MS := (fSeq (fAsg (fOp oIxT (fVar 0) (ret (.int 1))) (fgName 2))
  (fSeq (fOwn 3 (fLst (fCons (ret (.bool false)) fNil)))
  (fSeq (fFor (fRng2 (fCons (ret (.int 1)) (fCons (fCall F_site_count (fCons (fVar 0) fNil)) fNil))) (fgName 4)
    (fIfS (fB (fOp oEq (fOp oMod (fVar 4) (fVar 2)) (ret (.int 0))))
    (fApp 3 (fOp oNe (fLook (fOp oIxL (fVar 3) (fOp oSub (fVar 4) (fVar 2)))) (fOp oIn (fOp oMul (ret (.int 2)) (fVar 4)) (fVar 1)))) (fApp 3 (fOp oNe (fLook (fOp oIxL (fVar 3) (fOp oSub (fVar 4) (ret (.int 1))))) (fOp oIn (fOp oAdd (fOp oMul (ret (.int 2)) (fVar 4)) (ret (.int 1))) (fVar 1))))))
  (fFz 3 (fRet (fCB oTup (fCons (fN (fLc (fEnumL (fVar 3)) (fgTup 2 (fgCons (fgName 4) (fgCons (fgName 5) fgNil))) (fB (fVar 5)) (fVar 4) [4, 5])) fNil)))))))
def F_faces_within : Fn := runF 2 6 f_faces_within
def f_led : MS := (fSeq (fAsg (fCall F_after (fCons (fVar 0) (fCons (fVar 1) (fCons (fVar 2) fNil)))) (fgName 3))
  (fSeq (fIfS (fOr (fB (fOp oNe (fCall F_checks (fCons (fVar 0) (fCons (fVar 3) fNil))) (fTup fNil))) (fB (fOp oNe (fCall F_seams (fCons (fVar 0) (fCons (fVar 3) fNil))) (fTup (fCons (ret (.int 0)) (fCons (ret (.int 0)) fNil))))))
    (fRet (ret .none)) fNext)
  (fRet (fCall F_faces_within (fCons (fVar 0) (fCons (fVar 3) fNil))))))
def F_led : Fn := runF 3 4 f_led
def f_row_sites : MS := (fSeq (fAsg (fOp oIxT (fVar 0) (ret (.int 1))) (fgName 2))
  (fRet (fN (fListRg2 (fOp oMul (fVar 1) (fVar 2)) (fOp oMul (fOp oAdd (fVar 1) (ret (.int 1))) (fVar 2))))))
def F_row_sites : Fn := runF 2 3 f_row_sites
def f_sign_of : MS := (fRet (fIf (fB (fVar 1)) (fOp oIxS (fVar 0) (ret (.int 1))) (fOp oIxS (fVar 0) (ret (.int 0)))))
def F_sign_of : Fn := runF 2 2 f_sign_of
def f_written : MS := (fSeq (fAsg (fCall F_checks (fCons (fVar 0) (fCons (fVar 1) fNil))) (fgName 2))
  (fSeq (fOwn 3 (fLst fNil))
  (fSeq (fFor (fRng1 (fCons (fOp oIxT (fVar 0) (ret (.int 0))) fNil)) (fgName 4)
    (fSeq (fAsg (fCall F_row_sites (fCons (fVar 0) (fCons (fVar 4) fNil))) (fgName 5))
  (fSeq (fApp 3 (fM1 oJoin (ret (.str "")) (fN (fLc (fItL (fVar 5)) (fgName 6) (ret true) (fOp oCatS (fCall F_sign_of (fCons (ret (.str "o*")) (fCons (fOp oIn (fVar 6) (fVar 2)) fNil))) (fCall F_sign_of (fCons (ret (.str "-=")) (fCons (fOp oIn (fOp oMul (ret (.int 2)) (fVar 6)) (fVar 1)) fNil)))) [6]))))
  (fApp 3 (fM1 oJoin (ret (.str " ")) (fN (fLc (fItL (fVar 5)) (fgName 6) (ret true) (fCall F_sign_of (fCons (ret (.str "|#")) (fCons (fOp oIn (fOp oAdd (fOp oMul (ret (.int 2)) (fVar 6)) (ret (.int 1))) (fVar 1)) fNil))) [6])))))))
  (fFz 3 (fRet (fM1 oJoin (ret (.str "\n")) (fVar 3)))))))
def F_written : Fn := runF 2 7 f_written
def f_require_lit : MS := (fSeq (fAsg (fCall F_first_misplaced (fCons (fVar 1) (fCons (fCall F_site_count (fCons (fVar 0) fNil)) fNil))) (fgName 2))
  (fIfS (fB (fOp oNotN (fVar 2) (ret .none)))
    fNever fNext))
def F_require_lit : Fn := runF 2 3 f_require_lit
def f_is_cost : MS := (fRet (fAndV (fCall F_is_whole (fCons (fVar 0) fNil)) (fChain oLe oLe (ret (.int 1)) (fVar 0) (ret (.int 99)))))
def F_is_cost : Fn := runF 1 1 f_is_cost
def f_first_bad_cost : MS := (fSeq (fIfS (fNot (fB (fIsi "tuple" (fVar 0))))
    (fRet (ret (.int 0))) fNext)
  (fSeq (fFor (fEnumT (fVar 0)) (fgTup 2 (fgCons (fgName 2) (fgCons (fgName 3) fgNil)))
    (fIfS (fOr (fB (fOp oEq (fVar 2) (fVar 1))) (fNot (fB (fCall F_is_cost (fCons (fVar 3) fNil)))))
    (fRet (fVar 2)) fNext))
  (fSeq (fIfS (fB (fOp oLt (fCB oLen (fCons (fVar 0) fNil)) (fVar 1)))
    (fRet (fCB oLen (fCons (fVar 0) fNil))) fNext)
  (fRet (ret .none)))))
def F_first_bad_cost : Fn := runF 2 4 f_first_bad_cost
def f_require_costs : MS := (fSeq (fIfS (fB (fOp oIsN (fVar 1) (ret .none)))
    fRetN fNext)
  (fSeq (fAsg (fCall F_first_bad_cost (fCons (fVar 1) (fCons (fCall F_edge_count (fCons (fVar 0) fNil)) fNil))) (fgName 2))
  (fIfS (fB (fOp oNotN (fVar 2) (ret .none)))
    fNever fNext)))
def F_require_costs : Fn := runF 2 3 f_require_costs
def f_links_of : MS := (fSeq (fOwn 2 (fLst fNil))
  (fSeq (fFor (fEnumO (fVar 1)) (fgTup 2 (fgCons (fgName 3) (fgCons (fgName 4) fgNil)))
    (fSeq (fAsg (fCall F_edge_ends (fCons (fVar 0) (fCons (fVar 3) fNil))) (fgTup 2 (fgCons (fgName 5) (fgCons (fgName 6) fgNil))))
  (fApp 2 (fTup (fCons (fVar 5) (fCons (fVar 6) (fCons (fVar 4) (fCons (fIndexC [.tuple [.int 0, .int 0], .tuple [.int 0, .int 1], .tuple [.int 1, .int 0], .tuple [.int 1, .int 1]] (fCons (fCall F_seams (fCons (fVar 0) (fCons (fTup (fCons (fVar 3) fNil)) fNil))) fNil)) fNil))))))))
  (fFz 2 (fRet (fVar 2)))))
def F_links_of : Fn := runF 2 7 f_links_of
def f_steps_of : MS := (fSeq (fOwnLL 2 (fRng1 (fCons (fVar 1) fNil)) (fgName 3) (fLst fNil) [3])
  (fSeq (fFor (fEnumL (fVar 0)) (fgTup 2 (fgCons (fgName 4) (fgCons (fgTup 4 (fgCons (fgName 5) (fgCons (fgName 6) (fgCons (fgName 7) (fgCons (fgName 8) fgNil))))) fgNil)))
    (fSeq (fAppLL 2 (fVar 5) (fTup (fCons (fVar 6) (fCons (fVar 7) (fCons (fVar 8) (fCons (fOp oShl (ret (.int 1)) (fVar 4)) fNil))))))
  (fAppLL 2 (fVar 6) (fTup (fCons (fVar 5) (fCons (fVar 7) (fCons (fVar 8) (fCons (fOp oShl (ret (.int 1)) (fVar 4)) fNil))))))))
  (fFz 2 (fRet (fVar 2)))))
def F_steps_of : Fn := runF 2 9 f_steps_of
def f_ways_from : MS := (fSeq (fOwnLL 2 (fItL (fVar 0)) (fgName 3) (fOpN oRep (fN (fLst (fCons (ret .none) fNil))) (fCB oLen (fCons (ret (.tuple [.tuple [.int 0, .int 0], .tuple [.int 0, .int 1], .tuple [.int 1, .int 0], .tuple [.int 1, .int 1]])) fNil))) [3])
  (fSeq (fOwn 4 (fLst (fCons (fTup (fCons (ret (.int 0)) (fCons (fVar 1) (fCons (ret (.int 0)) (fCons (ret (.int 0)) fNil))))) fNil)))
  (fSeq (whileGo (fLookT (fTr (fVar 4)))
    (fSeq (fHPop 4 (fgTup 4 (fgCons (fgName 5) (fgCons (fgName 6) (fgCons (fgName 7) (fgCons (fgName 8) fgNil))))))
  (fSeq (fIfS (fLookT (fB (fOp oNotN (fOp oIxL (fOp oIxL (fVar 2) (fVar 6)) (fVar 7)) (ret .none))))
    fCont fNext)
  (fSeq (fStoLL 2 (fVar 6) (fVar 7) (fTup (fCons (fVar 5) (fCons (fVar 8) fNil))))
  (fFor (fItL (fOp oIxL (fVar 0) (fVar 6))) (fgTup 4 (fgCons (fgName 9) (fgCons (fgName 10) (fgCons (fgName 11) (fgCons (fgName 12) fgNil)))))
    (fIfS (fLookT (fB (fOp oIsN (fOp oIxL (fOp oIxL (fVar 2) (fVar 9)) (fOp oXor (fVar 7) (fVar 11))) (ret .none))))
    (fHPush 4 (fTup (fCons (fOp oAdd (fVar 5) (fVar 10)) (fCons (fVar 9) (fCons (fOp oXor (fVar 7) (fVar 11)) (fCons (fOp oXor (fVar 8) (fVar 12)) fNil)))))) fNext))))) 100000)
  (fFz 2 (fRet (fVar 2))))))
def F_ways_from : Fn := runF 2 13 f_ways_from
def f_least_rounds : MS := (fSeq (fAsg (fN (fLc (fItL (fVar 1)) (fgName 3) (ret true) (fOp oIxL (fCall F_ways_from (fCons (fVar 0) (fCons (fVar 3) fNil))) (fVar 3)) [3])) (fgName 2))
  (fRet (fN (fLc (fRng1 (fCons (fCB oLen (fCons (ret (.tuple [.tuple [.int 0, .int 0], .tuple [.int 0, .int 1], .tuple [.int 1, .int 0], .tuple [.int 1, .int 1]])) fNil)) fNil)) (fgName 5) (ret true) (fCB oMinD (fCons (fN (fLc (fItL (fVar 2)) (fgName 4) (ret true) (fOp oIxL (fVar 4) (fVar 5)) [4])) fNil)) [5]))))
def F_least_rounds : Fn := runF 2 6 f_least_rounds
def f_behind : MS := (fSeq (fOwn 2 (fLst fNil))
  (fSeq (fFor (fRng1 (fCons (fCB oLen (fCons (ret (.tuple [.tuple [.int 0, .int 0], .tuple [.int 0, .int 1], .tuple [.int 1, .int 0], .tuple [.int 1, .int 1]])) fNil)) fNil)) (fgName 3)
    (fSeq (fAsg (fN (fLc (fRng1 (fCons (fCB oLen (fCons (ret (.tuple [.tuple [.int 0, .int 0], .tuple [.int 0, .int 1], .tuple [.int 1, .int 0], .tuple [.int 1, .int 1]])) fNil)) fNil)) (fgName 5) (ret true) (fTup (fCons (fOp oIxL (fVar 0) (fVar 5)) (fCons (fOp oIxL (fVar 1) (fOp oXor (fVar 5) (fVar 3))) fNil))) [5])) (fgName 4))
  (fApp 2 (fCB oMinD (fCons (fN (fLc (fItL (fVar 4)) (fgTup 2 (fgCons (fgName 6) (fgCons (fgName 7) fgNil))) (ret true) (fTup (fCons (fOp oAdd (fOp oIxT (fVar 6) (ret (.int 0))) (fOp oIxT (fVar 7) (ret (.int 0)))) (fCons (fOp oXor (fOp oIxT (fVar 6) (ret (.int 1))) (fOp oIxT (fVar 7) (ret (.int 1)))) fNil))) [6, 7])) fNil)))))
  (fFz 2 (fRet (fVar 2)))))
def F_behind : Fn := runF 2 8 f_behind
def f_least_pairing (Frec : Fm) : MS := (fSeq (fIfS (fNot (fTr (fVar 2)))
    (fRet (fVar 1)) fNext)
  (fSeq (fStar2 3 4 (fVar 2))
  (fSeq (fOwn 5 (fLst fNil))
  (fSeq (fFor (fEnumL (fVar 4)) (fgTup 2 (fgCons (fgName 6) (fgCons (fgName 7) fgNil)))
    (fSeq (fAsg (fN (fOpN oCat (fN (fSlL (fVar 4) fNo (fSo (fVar 6)))) (fN (fSlL (fVar 4) (fSo (fOp oAdd (fVar 6) (ret (.int 1)))) fNo)))) (fgName 8))
  (fApp 5 (fCall F_behind (fCons (fOp oIxL (fDgetM 0 (fVar 3)) (fVar 7)) (fCons (fCallM Frec 0 (fCons (fVar 1) (fCons (fVar 8) fNil))) fNil))))))
  (fFz 5 (fRet (fN (fLc (fRng1 (fCons (fCB oLen (fCons (ret (.tuple [.tuple [.int 0, .int 0], .tuple [.int 0, .int 1], .tuple [.int 1, .int 0], .tuple [.int 1, .int 1]])) fNil)) fNil)) (fgName 10) (ret true) (fCB oMinD (fCons (fN (fLc (fItL (fVar 5)) (fgName 9) (ret true) (fOp oIxL (fVar 9) (fVar 10)) [9])) fNil)) [10]))))))))
def R_least_pairing : Nat → Fm
  | 0 => fun _ _ => none
  | i + 1 => runM 3 11 (f_least_pairing (R_least_pairing i))
def F_least_pairing : Fm := R_least_pairing 6
def f_rim_sites : MS := (fSeq (fAsg (fOp oIxT (fVar 0) (ret (.int 1))) (fgName 1))
  (fRet (fN (fLc (fRng1 (fCons (fCall F_site_count (fCons (fVar 0) fNil)) fNil)) (fgName 2) (fOr (fB (fOp oLt (fVar 2) (fVar 1))) (fB (fOp oEq (fOp oMod (fVar 2) (fVar 1)) (ret (.int 0))))) (fVar 2) [2]))))
def F_rim_sites : Fn := runF 1 3 f_rim_sites
def f_least_joins : MS := (fSeq (fAsg (fCall F_steps_of (fCons (fVar 1) (fCons (fVar 2) fNil))) (fgName 4))
  (fSeq (fAsg (fCall F_least_rounds (fCons (fVar 4) (fCons (fCall F_rim_sites (fCons (fVar 0) fNil)) fNil))) (fgName 5))
  (fSeq (fDcS 6 (fItO (fVar 3)) (fgName 7) (fVar 7) (fCall F_ways_from (fCons (fVar 4) (fCons (fVar 7) fNil))) [7])
  (fRet (fCallM F_least_pairing 6 (fCons (fVar 5) (fCons (fVar 3) fNil)))))))
def F_least_joins : Fn := runF 4 8 f_least_joins
def f_numbers_in : MS := (fRet (fCB oTup (fCons (fN (fLc (fRng1 (fCons (fVar 1) fNil)) (fgName 2) (fB (fOp oEq (fOp oMod (fOp oShr (fVar 0) (fVar 2)) (ret (.int 2))) (ret (.int 1)))) (fVar 2) [2])) fNil)))
def F_numbers_in : Fn := runF 2 3 f_numbers_in
def f_least : MS := (fSeq (fDrop (fCall F_require_board (fCons (fVar 0) fNil)))
  (fSeq (fDrop (fCall F_require_lit (fCons (fVar 0) (fCons (fVar 1) fNil))))
  (fSeq (fIfS (fB (fOp oEq (fOp oMod (fCB oLen (fCons (fVar 1) fNil)) (ret (.int 2))) (ret (.int 1))))
    fNever fNext)
  (fSeq (fIfS (fB (fOp oGt (fCB oLen (fCons (fVar 1) fNil)) (ret (.int 8))))
    fNever fNext)
  (fSeq (fDrop (fCall F_require_costs (fCons (fVar 0) (fCons (fVar 2) fNil))))
  (fSeq (fAsg (fCall F_edge_count (fCons (fVar 0) fNil)) (fgName 3))
  (fSeq (fAsg (fCall F_links_of (fCons (fVar 0) (fCons (fIf (fB (fOp oIsN (fVar 2) (ret .none))) (fN (fOpN oRep (fN (fLst (fCons (ret (.int 1)) fNil))) (fVar 3))) (fVar 2)) fNil))) (fgName 4))
  (fSeq (fAsg (fCall F_least_joins (fCons (fVar 0) (fCons (fVar 4) (fCons (fCall F_site_count (fCons (fVar 0) fNil)) (fCons (fVar 1) fNil))))) (fgName 5))
  (fRet (fN (fLc (fItL (fVar 5)) (fgTup 2 (fgCons (fgName 6) (fgCons (fgName 7) fgNil))) (ret true) (fTup (fCons (fVar 6) (fCons (fCall F_numbers_in (fCons (fVar 7) (fCons (fVar 3) fNil))) fNil))) [6, 7])))))))))))
def F_least : Fn := runF 3 8 f_least
def f_mends : MS := (fSeq (fAsg (fCallN F_least 2 1 (fun ds zs => ds ++ zs) (fCons (fVar 0) (fCons (fCall F_checks (fCons (fVar 0) (fCons (fVar 1) fNil))) fNil)) (fCons (fVar 2) fNil)) (fgName 3))
  (fSeq (fAsg (fIndexC [.tuple [.int 0, .int 0], .tuple [.int 0, .int 1], .tuple [.int 1, .int 0], .tuple [.int 1, .int 1]] (fCons (fCall F_seams (fCons (fVar 0) (fCons (fVar 1) fNil))) fNil)) (fgName 4))
  (fSeq (fAsg (fOp oIxT (fOp oIxL (fVar 3) (fVar 4)) (ret (.int 0))) (fgName 5))
  (fSeq (fAsg (fCB oMinD (fCons (fN (fLc (fEnumL (fVar 3)) (fgTup 2 (fgCons (fgName 7) (fgCons (fgName 8) fgNil))) (fB (fOp oNe (fVar 7) (fVar 4))) (fOp oIxT (fVar 8) (ret (.int 0))) [7, 8])) fNil)) (fgName 6))
  (fSeq (fIfS (fB (fOp oEq (fVar 5) (fVar 6)))
    (fRet (ret .none)) fNext)
  (fRet (fOp oLt (fVar 5) (fVar 6))))))))
def F_mends : Fn := runF 3 9 f_mends
def f_unseen : MS := (fSeq (fAsg (fCallN F_least 2 1 (fun ds zs => ds ++ zs) (fCons (fVar 0) (fCons (fTup fNil) fNil)) (fCons (fVar 1) fNil)) (fgName 2))
  (fSeq (fAsg (fN (fLc (fZipTL (ret (.tuple [.tuple [.int 0, .int 0], .tuple [.int 0, .int 1], .tuple [.int 1, .int 0], .tuple [.int 1, .int 1]])) (fVar 2)) (fgTup 2 (fgCons (fgName 4) (fgCons (fgName 5) fgNil))) (fB (fOp oNe (fVar 4) (fTup (fCons (ret (.int 0)) (fCons (ret (.int 0)) fNil))))) (fTup (fCons (fOp oIxT (fVar 5) (ret (.int 0))) (fCons (fVar 4) (fCons (fOp oIxT (fVar 5) (ret (.int 1))) fNil)))) [4, 5])) (fgName 3))
  (fRet (fCB oMinD (fCons (fVar 3) fNil)))))
def F_unseen : Fn := runF 2 6 f_unseen
def f__law_alike (Frec : Fn) : MS := (fSeq (fIfS (fAnd (fB (fIsiTL (fVar 0))) (fB (fIsiTL (fVar 1))))
    (fSeq (fIfS (fOr (fB (fOp oNe (fIsi "tuple" (fVar 0)) (fIsi "tuple" (fVar 1)))) (fB (fOp oNe (fCB oLen (fCons (fVar 0) fNil)) (fCB oLen (fCons (fVar 1) fNil)))))
    (fRet (ret (.bool false))) fNext)
  (fRet (fOp oEq (fN (fLc (fRng1 (fCons (fCB oLen (fCons (fVar 0) fNil)) fNil)) (fgName 2) (fNot (fB (fCall Frec (fCons (fOp oIxO (fVar 0) (fVar 2)) (fCons (fOp oIxO (fVar 1) (fVar 2)) fNil))))) (fVar 2) [2])) (fN (fLst fNil))))) fNext)
  (fRet (fAndV (fOp oEq (fVar 0) (fVar 1)) (fOp oEq (fIsi "bool" (fVar 0)) (fIsi "bool" (fVar 1))))))
def R__law_alike : Nat → Fn
  | 0 => fun _ => none
  | i + 1 => runF 2 3 (f__law_alike (R__law_alike i))
def F__law_alike : Fn := R__law_alike 7
def f__law_crosses : MS := (fSeq (fPar [2, 3] (fCons (fOp oDiv (fOp oDiv (fVar 1) (ret (.int 2))) (fOp oIxT (fVar 0) (ret (.int 1)))) (fCons (fOp oMod (fOp oDiv (fVar 1) (ret (.int 2))) (fOp oIxT (fVar 0) (ret (.int 1)))) fNil)))
  (fRet (fTup (fCons (fCB oInt (fCons (fAndV (fOp oEq (fOp oMod (fVar 1) (ret (.int 2))) (ret (.int 0))) (fOp oEq (fVar 3) (fOp oSub (fOp oIxT (fVar 0) (ret (.int 1))) (ret (.int 1))))) fNil)) (fCons (fCB oInt (fCons (fAndV (fOp oEq (fOp oMod (fVar 1) (ret (.int 2))) (ret (.int 1))) (fOp oEq (fVar 2) (fOp oSub (fOp oIxT (fVar 0) (ret (.int 0))) (ret (.int 1))))) fNil)) fNil)))))
def F__law_crosses : Fn := runF 2 4 f__law_crosses
def f__law_seams : MS := (fSeq (fAsg (fN (fLc (fItT (fVar 1)) (fgName 3) (ret true) (fCall F__law_crosses (fCons (fVar 0) (fCons (fVar 3) fNil))) [3])) (fgName 2))
  (fRet (fTup (fCons (fOp oMod (fCB oSum (fCons (fN (fLc (fItL (fVar 2)) (fgName 4) (ret true) (fOp oIxT (fVar 4) (ret (.int 0))) [4])) fNil)) (ret (.int 2))) (fCons (fOp oMod (fCB oSum (fCons (fN (fLc (fItL (fVar 2)) (fgName 4) (ret true) (fOp oIxT (fVar 4) (ret (.int 1))) [4])) fNil)) (ret (.int 2))) fNil)))))
def F__law_seams : Fn := runF 2 5 f__law_seams
def f__law_is_unseen : MS := (fSeq (fAsg (fCallN F_unseen 1 1 (fun ds zs => ds ++ zs) (fCons (fVar 0) fNil) (fCons (fVar 2) fNil)) (fgTup 3 (fgCons (fgName 4) (fgCons (fgName 5) (fgCons (fgName 6) fgNil)))))
  (fSeq (fIfS (fOr (fNot (fB (fCall F__law_alike (fCons (fTup (fCons (fVar 4) (fCons (fVar 5) fNil))) (fCons (fCB oMinDT (fCons (fVar 3) fNil)) fNil))))) (fOr (fB (fOp oNe (fCall F__law_lit (fCons (fVar 0) (fCons (fVar 6) fNil))) (fTup fNil))) (fB (fOp oNe (fCall F__law_seams (fCons (fVar 0) (fCons (fVar 6) fNil))) (fVar 5)))))
    (fRet (ret (.bool false))) fNext)
  (fRet (fOp oEq (fCB oSum (fCons (fN (fLc (fItT (fVar 6)) (fgName 7) (ret true) (fOp oIxT (fVar 1) (fVar 7)) [7])) fNil)) (fVar 4)))))
def F__law_is_unseen : Fn := runF 4 8 f__law_is_unseen
def f__law_price : MS := (fRet (fCB oSum (fCons (fN (fLc (fItT (fVar 1)) (fgName 2) (ret true) (fOp oIxT (fVar 0) (fVar 2)) [2])) fNil)))
def F__law_price : Fn := runF 2 3 f__law_price
def f__law_are_least : MS := (fSeq (fAsg (fN (fLst (fCons (fTup (fCons (ret (.int 0)) (fCons (ret (.int 0)) fNil))) (fCons (fTup (fCons (ret (.int 0)) (fCons (ret (.int 1)) fNil))) (fCons (fTup (fCons (ret (.int 1)) (fCons (ret (.int 0)) fNil))) (fCons (fTup (fCons (ret (.int 1)) (fCons (ret (.int 1)) fNil))) fNil)))))) (fgName 4))
  (fSeq (fFor (fRng1 (fCons (ret (.int 4)) fNil)) (fgName 5)
    (fSeq (fAsg (fOp oIxL (fVar 3) (fVar 5)) (fgTup 2 (fgCons (fgName 6) (fgCons (fgName 7) fgNil))))
  (fIfS (fOr (fB (fOp oNe (fCall F_checks (fCons (fVar 0) (fCons (fVar 7) fNil))) (fVar 2))) (fOr (fB (fOp oNe (fCall F_seams (fCons (fVar 0) (fCons (fVar 7) fNil))) (fOp oIxL (fVar 4) (fVar 5)))) (fB (fOp oNe (fCall F__law_price (fCons (fVar 1) (fCons (fVar 7) fNil))) (fVar 6)))))
    (fRet (ret (.bool false))) fNext)))
  (fRet (ret (.bool true)))))
def F__law_are_least : Fn := runF 4 8 f__law_are_least
def f__law_loop : MS := (fSeq (fAsg (fTup (fCons (fCallR F__law_taken 0 (fCons (fOp oIxT (fVar 1) (ret (.int 0))) fNil)) (fCons (fCallR F__law_taken 0 (fCons (fOp oIxT (fVar 1) (ret (.int 1))) fNil)) (fCons (fOp oAdd (ret (.int 1)) (fCallR F__law_taken 0 (fCons (ret (.int 3)) fNil))) fNil)))) (fgTup 3 (fgCons (fgName 2) (fgCons (fgName 3) (fgCons (fgName 4) fgNil)))))
  (fSeq (fAsg (fN (fOpN oRep (fN (fLc (fRng1 (fCons (fOp oIxT (fVar 1) (ret (.int 1))) fNil)) (fgName 6) (ret true) (fOp oMul (ret (.int 2)) (fOp oAdd (fOp oMul (fVar 2) (fOp oIxT (fVar 1) (ret (.int 1)))) (fVar 6))) [6])) (fCB oInt (fCons (fOp oNe (fVar 4) (ret (.int 2))) fNil)))) (fgName 5))
  (fRet (fCB oTup (fCons (fN (fCBN oSorted (fCons (fN (fOpN oCat (fVar 5) (fN (fOpN oRep (fN (fLc (fRng1 (fCons (fOp oIxT (fVar 1) (ret (.int 0))) fNil)) (fgName 6) (ret true) (fOp oAdd (fOp oMul (ret (.int 2)) (fOp oAdd (fOp oMul (fVar 6) (fOp oIxT (fVar 1) (ret (.int 1)))) (fVar 3))) (ret (.int 1))) [6])) (fCB oInt (fCons (fOp oGt (fVar 4) (ret (.int 1))) fNil)))))) fNil))) fNil)))))
def F__law_loop : Fr := runW 2 7 f__law_loop
def f__law_told_by : MS := (fSeq (fParND 2 3 (fLst fNil) (fN (fLst fNil)))
  (fSeq (fFor (fItL (fVar 1)) (fgTup 2 (fgCons (fgName 4) (fgCons (fgName 5) fgNil)))
    (fSeq (fFor (fItT (fVar 4)) (fgName 6)
    (fAsg (fN (fOpN oCat (fVar 3) (fCall F__law_ends (fCons (fVar 0) (fCons (fVar 6) fNil))))) (fgName 3)))
  (fSeq (fAsg (fN (fLc (fRng1 (fCons (fOp oMul (fOp oIxT (fVar 0) (ret (.int 0))) (fOp oIxT (fVar 0) (ret (.int 1)))) fNil)) (fgName 8) (fB (fOp oNe (fOp oEq (fOp oMod (fCountL (fVar 3) (fCons (fVar 8) fNil)) (ret (.int 2))) (ret (.int 1))) (fOp oIn (fVar 8) (fVar 5)))) (fVar 8) [8])) (fgName 7))
  (fApp 2 (fCB oTup (fCons (fVar 7) fNil))))))
  (fFz 2 (fRet (fCB oTup (fCons (fVar 2) fNil))))))
def F__law_told_by : Fn := runF 2 9 f__law_told_by
def f_is_lit : MS := (fRet (fOp oIsN (fCall F_first_misplaced (fCons (fVar 1) (fCons (fCall F_site_count (fCons (fVar 0) fNil)) fNil))) (ret .none)))
def F_is_lit : Fn := runF 2 2 f_is_lit
def f_first_bad_beat : MS := (fSeq (fIfS (fOr (fNot (fB (fIsi "tuple" (fVar 1)))) (fB (fOp oEq (fCB oLen (fCons (fVar 1) fNil)) (ret (.int 0)))))
    (fRet (ret (.int 0))) fNext)
  (fSeq (fFor (fEnumT (fVar 1)) (fgTup 2 (fgCons (fgName 2) (fgCons (fgName 3) fgNil)))
    (fIfS (fOr (fB (fOp oEq (fVar 2) (ret (.int 5)))) (fNot (fB (fCall F_is_lit (fCons (fVar 0) (fCons (fVar 3) fNil))))))
    (fRet (fVar 2)) fNext))
  (fSeq (fIfS (fB (fOp oEq (fOp oMod (fCB oLen (fCons (fOp oIxT (fVar 1) (fUn oNeg (ret (.int 1)))) fNil)) (ret (.int 2))) (ret (.int 1))))
    (fRet (fOp oSub (fCB oLen (fCons (fVar 1) fNil)) (ret (.int 1)))) fNext)
  (fRet (ret .none)))))
def F_first_bad_beat : Fn := runF 2 4 f_first_bad_beat
def f_require_told : MS := (fSeq (fAsg (fCall F_first_bad_beat (fCons (fVar 0) (fCons (fVar 1) fNil))) (fgName 2))
  (fIfS (fB (fOp oNotN (fVar 2) (ret .none)))
    fNever fNext))
def F_require_told : Fn := runF 2 3 f_require_told
def f_is_pair : MS := (fSeq (fIfS (fOr (fNot (fB (fIsi "tuple" (fVar 1)))) (fB (fOp oNe (fCB oLen (fCons (fVar 1) fNil)) (ret (.int 2)))))
    (fRet (ret (.bool false))) fNext)
  (fRet (fAndV (fOp oIsN (fCall F_first_misplaced (fCons (fOp oIxT (fVar 1) (ret (.int 0))) (fCons (fCall F_edge_count (fCons (fVar 0) fNil)) fNil))) (ret .none)) (fCall F_is_lit (fCons (fVar 0) (fCons (fOp oIxT (fVar 1) (ret (.int 1))) fNil))))))
def F_is_pair : Fn := runF 2 2 f_is_pair
def f_first_bad_pair : MS := (fSeq (fIfS (fNot (fB (fIsi "list" (fVar 1))))
    (fRet (ret (.int 0))) fNext)
  (fSeq (fFor (fEnumL (fVar 1)) (fgTup 2 (fgCons (fgName 3) (fgCons (fgName 4) fgNil)))
    (fIfS (fOr (fB (fOp oEq (fVar 3) (fVar 2))) (fNot (fB (fCall F_is_pair (fCons (fVar 0) (fCons (fVar 4) fNil))))))
    (fRet (fVar 3)) fNext))
  (fSeq (fIfS (fB (fOp oLt (fCB oLen (fCons (fVar 1) fNil)) (fVar 2)))
    (fRet (fCB oLen (fCons (fVar 1) fNil))) fNext)
  (fRet (ret .none)))))
def F_first_bad_pair : Fn := runF 3 5 f_first_bad_pair
def f_require_story : MS := (fSeq (fAsg (fCall F_first_bad_pair (fCons (fVar 0) (fCons (fVar 1) (fCons (fVar 2) fNil)))) (fgName 3))
  (fIfS (fB (fOp oNotN (fVar 3) (ret .none)))
    fNever fNext))
def F_require_story : Fn := runF 3 4 f_require_story
def f_require_count : MS := (fIfS (fOr (fNot (fB (fCall F_is_whole (fCons (fVar 0) fNil)))) (fNot (fB (fChain oLe oLe (ret (.int 1)) (fVar 0) (ret (.int 9))))))
    fNever fNext)
def F_require_count : Fn := runF 1 1 f_require_count
def f_judged : MS := (fSeq (fDrop (fCall F_require_board (fCons (fVar 0) fNil)))
  (fSeq (fDrop (fCall F_require_told (fCons (fVar 0) (fCons (fVar 1) fNil))))
  (fSeq (fDrop (fCall F_require_story (fCons (fVar 0) (fCons (fVar 2) (fCons (fCB oLen (fCons (fVar 1) fNil)) fNil)))))
  (fSeq (fDrop (fCall F_require_count (fCons (fVar 3) fNil)))
  (fSeq (fDrop (fCall F_require_count (fCons (fVar 4) fNil)))
  (fSeq (fAsg (ret (.int 0)) (fgName 5))
  (fSeq (fAsg (fTup fNil) (fgName 6))
  (fSeq (fFor (fZipTL (fVar 1) (fVar 2)) (fgTup 2 (fgCons (fgName 7) (fgCons (fgTup 2 (fgCons (fgName 8) (fgCons (fgName 9) fgNil))) fgNil)))
    (fSeq (fAsg (fCall F_after (fCons (fVar 0) (fCons (fVar 6) (fCons (fVar 8) fNil)))) (fgName 6))
  (fSeq (fIfS (fB (fOp oNe (fCall F_odd_ones (fCons (fOp oCatT (fCall F_checks (fCons (fVar 0) (fCons (fVar 6) fNil))) (fVar 9)) (fCons (fCall F_site_count (fCons (fVar 0) fNil)) fNil))) (fVar 7)))
    (fRet (ret .none)) fNext)
  (fAug (fun i j => i + j) 5 (fOp oAdd (fOp oMul (fVar 3) (fCB oLen (fCons (fVar 8) fNil))) (fOp oMul (fVar 4) (fCB oLen (fCons (fVar 9) fNil))))))))
  (fSeq (fIfS (fB (fOp oNe (fOp oIxT (fOp oIxL (fVar 2) (fUn oNeg (ret (.int 1)))) (ret (.int 1))) (fTup fNil)))
    (fRet (ret .none)) fNext)
  (fRet (fTup (fCons (fVar 5) (fCons (fCall F_seams (fCons (fVar 0) (fCons (fVar 6) fNil))) fNil)))))))))))))
def F_judged : Fn := runF 5 10 f_judged
def f_changes : MS := (fSeq (fAsg (fCall F_site_count (fCons (fVar 0) fNil)) (fgName 2))
  (fSeq (fOwn 3 (fLst fNil))
  (fSeq (fAsg (fTup fNil) (fgName 4))
  (fSeq (fFor (fEnumT (fVar 1)) (fgTup 2 (fgCons (fgName 5) (fgCons (fgName 6) fgNil)))
    (fSeq (fExt 3 (fN (fLc (fItT (fCall F_odd_ones (fCons (fOp oCatT (fVar 4) (fVar 6)) (fCons (fVar 2) fNil)))) (fgName 7) (ret true) (fOp oAdd (fOp oMul (fVar 5) (fVar 2)) (fVar 7)) [7])))
  (fAsg (fVar 6) (fgName 4))))
  (fFz 3 (fRet (fVar 3)))))))
def F_changes : Fn := runF 2 8 f_changes
def f_story_links : MS := (fSeq (fAsg (fCall F_site_count (fCons (fVar 0) fNil)) (fgName 4))
  (fSeq (fAsg (fCall F_links_of (fCons (fVar 0) (fCons (fN (fOpN oRep (fN (fLst (fCons (fVar 2) fNil))) (fCall F_edge_count (fCons (fVar 0) fNil)))) fNil))) (fgName 5))
  (fSeq (fOwn 6 (fLst fNil))
  (fSeq (fFor (fRng3 (fCons (ret (.int 0)) (fCons (fOp oMul (fVar 1) (fVar 4)) (fCons (fVar 4) fNil)))) (fgName 7)
    (fExt 6 (fN (fLc (fItL (fVar 5)) (fgTup 4 (fgCons (fgName 8) (fgCons (fgName 9) (fgCons (fgName 10) (fgCons (fgName 11) fgNil))))) (ret true) (fTup (fCons (fOp oAdd (fVar 8) (fVar 7)) (fCons (fOp oAdd (fVar 9) (fVar 7)) (fCons (fVar 10) (fCons (fVar 11) fNil))))) [8, 9, 10, 11]))))
  (fSeq (fExt 6 (fN (fLc (fRng1 (fCons (fOp oMul (fOp oSub (fVar 1) (ret (.int 1))) (fVar 4)) fNil)) (fgName 12) (ret true) (fTup (fCons (fVar 12) (fCons (fOp oAdd (fVar 12) (fVar 4)) (fCons (fVar 3) (fCons (ret (.int 0)) fNil))))) [12])))
  (fFz 6 (fRet (fVar 6))))))))
def F_story_links : Fn := runF 4 13 f_story_links
def f_story_of : MS := (fSeq (fAsg (fCall F_edge_count (fCons (fVar 0) fNil)) (fgName 3))
  (fSeq (fAsg (fCall F_site_count (fCons (fVar 0) fNil)) (fgName 4))
  (fSeq (fOwn 5 (fLst fNil))
  (fSeq (fFor (fRng1 (fCons (fVar 1) fNil)) (fgName 6)
    (fSeq (fAsg (fCall F_numbers_in (fCons (fOp oShr (fVar 2) (fOp oMul (fVar 6) (fVar 3))) (fCons (fVar 3) fNil))) (fgName 7))
  (fSeq (fAsg (fCall F_numbers_in (fCons (fOp oShr (fVar 2) (fOp oAdd (fOp oMul (fVar 1) (fVar 3)) (fOp oMul (fVar 6) (fVar 4)))) (fCons (fVar 4) fNil))) (fgName 8))
  (fApp 5 (fTup (fCons (fVar 7) (fCons (fVar 8) fNil)))))))
  (fFz 5 (fRet (fVar 5)))))))
def F_story_of : Fn := runF 3 9 f_story_of
def f_stories : MS := (fSeq (fDrop (fCall F_require_board (fCons (fVar 0) fNil)))
  (fSeq (fDrop (fCall F_require_told (fCons (fVar 0) (fCons (fVar 1) fNil))))
  (fSeq (fAsg (fCall F_changes (fCons (fVar 0) (fCons (fVar 1) fNil))) (fgName 4))
  (fSeq (fIfS (fB (fOp oGt (fCB oLen (fCons (fVar 4) fNil)) (ret (.int 8))))
    fNever fNext)
  (fSeq (fDrop (fCall F_require_count (fCons (fVar 2) fNil)))
  (fSeq (fDrop (fCall F_require_count (fCons (fVar 3) fNil)))
  (fSeq (fAsg (fCB oLen (fCons (fVar 1) fNil)) (fgName 5))
  (fSeq (fAsg (fCall F_story_links (fCons (fVar 0) (fCons (fVar 5) (fCons (fVar 2) (fCons (fVar 3) fNil))))) (fgName 6))
  (fSeq (fAsg (fCall F_least_joins (fCons (fVar 0) (fCons (fVar 6) (fCons (fOp oMul (fVar 5) (fCall F_site_count (fCons (fVar 0) fNil))) (fCons (fVar 4) fNil))))) (fgName 7))
  (fRet (fN (fLc (fItL (fVar 7)) (fgTup 2 (fgCons (fgName 8) (fgCons (fgName 9) fgNil))) (ret true) (fTup (fCons (fVar 8) (fCons (fCall F_story_of (fCons (fVar 0) (fCons (fVar 5) (fCons (fVar 9) fNil)))) fNil))) [8, 9]))))))))))))
def F_stories : Fn := runF 4 10 f_stories
def f_is_name : MS := (fSeq (fIfS (fOr (fNot (fB (fIsi "str" (fVar 0)))) (fNot (fB (fChain oLe oLe (ret (.int 1)) (fCB oLenS (fCons (fVar 0) fNil)) (ret (.int 8))))))
    (fRet (ret (.bool false))) fNext)
  (fRet (fCB oAll (fCons (fN (fLc (fItS (fVar 0)) (fgName 1) (ret true) (fOp oInC (fVar 1) (ret (.str "abcdefghijklmnopqrstuvwxyz"))) [1])) fNil))))
def F_is_name : Fn := runF 1 2 f_is_name
def f_is_row : MS := (fSeq (fAsg (fOp oEq (fOp oMod (fVar 1) (ret (.int 2))) (ret (.int 1))) (fgName 3))
  (fSeq (fAsg (fIf (fB (fVar 3)) (ret (.str "|#")) (ret (.str "o*"))) (fgName 4))
  (fSeq (fAsg (fIf (fB (fVar 3)) (ret (.str " ")) (ret (.str "-="))) (fgName 5))
  (fSeq (fIfS (fB (fOp oNe (fCB oLenS (fCons (fVar 0) fNil)) (fOp oSub (fOp oMul (ret (.int 2)) (fVar 2)) (fOp oMod (fVar 1) (ret (.int 2))))))
    (fRet (ret (.bool false))) fNext)
  (fRet (fAndV (fCB oAll (fCons (fN (fLc (fItS (fSlS3 (fVar 0) fNo fNo (fSo (ret (.int 2))))) (fgName 6) (ret true) (fOp oInC (fVar 6) (fVar 4)) [6])) fNil)) (fCB oAll (fCons (fN (fLc (fItS (fSlS3 (fVar 0) (fSo (ret (.int 1))) fNo (fSo (ret (.int 2))))) (fgName 6) (ret true) (fOp oInC (fVar 6) (fVar 5)) [6])) fNil))))))))
def F_is_row : Fn := runF 3 7 f_is_row
def f_require_rows : MS := (fSeq (fAsg (fOp oDiv (fCB oLenS (fCons (fOp oIxL (fVar 0) (ret (.int 0))) fNil)) (ret (.int 2))) (fgName 1))
  (fSeq (fIfS (fNot (fB (fChain oLe oLe (ret (.int 2)) (fVar 1) (ret (.int 5)))))
    fNever fNext)
  (fSeq (fFor (fEnumL (fVar 0)) (fgTup 2 (fgCons (fgName 2) (fgCons (fgName 3) fgNil)))
    (fIfS (fOr (fB (fOp oEq (fVar 2) (fOp oMul (ret (.int 2)) (ret (.int 5))))) (fNot (fB (fCall F_is_row (fCons (fVar 3) (fCons (fVar 2) (fCons (fVar 1) fNil)))))))
    fNever fNext))
  (fIfS (fOr (fB (fOp oEq (fOp oMod (fCB oLen (fCons (fVar 0) fNil)) (ret (.int 2))) (ret (.int 1)))) (fB (fOp oLt (fCB oLen (fCons (fVar 0) fNil)) (fOp oMul (ret (.int 2)) (ret (.int 2))))))
    fNever fNext))))
def F_require_rows : Fn := runF 1 4 f_require_rows
def f_drawn_flips : MS := (fSeq (fOwn 2 (fLst fNil))
  (fSeq (fFor (fRng1 (fCons (fCall F_site_count (fCons (fVar 0) fNil)) fNil)) (fgName 3)
    (fSeq (fAsg (fCB oDivmod (fCons (fVar 3) (fCons (fOp oIxT (fVar 0) (ret (.int 1))) fNil))) (fgTup 2 (fgCons (fgName 4) (fgCons (fgName 5) fgNil))))
  (fSeq (fIfS (fB (fOp oEq (fOp oIxS (fOp oIxL (fVar 1) (fOp oMul (ret (.int 2)) (fVar 4))) (fOp oAdd (fOp oMul (ret (.int 2)) (fVar 5)) (ret (.int 1)))) (fOp oIxS (ret (.str "-=")) (ret (.int 1)))))
    (fApp 2 (fOp oMul (ret (.int 2)) (fVar 3))) fNext)
  (fIfS (fB (fOp oEq (fOp oIxS (fOp oIxL (fVar 1) (fOp oAdd (fOp oMul (ret (.int 2)) (fVar 4)) (ret (.int 1)))) (fOp oMul (ret (.int 2)) (fVar 5))) (fOp oIxS (ret (.str "|#")) (ret (.int 1)))))
    (fApp 2 (fOp oAdd (fOp oMul (ret (.int 2)) (fVar 3)) (ret (.int 1)))) fNext))))
  (fFz 2 (fRet (fCB oTup (fCons (fVar 2) fNil))))))
def F_drawn_flips : Fn := runF 2 6 f_drawn_flips
def f_read : MS := (fSeq (fIfS (fNot (fB (fIsi "str" (fVar 0))))
    fNever fNext)
  (fSeq (fAsg (fN (fSplit (fVar 0) (ret (.str "\n")))) (fgName 1))
  (fSeq (fDrop (fCall F_require_rows (fCons (fVar 1) fNil)))
  (fSeq (fAsg (fTup (fCons (fOp oDiv (fCB oLen (fCons (fVar 1) fNil)) (ret (.int 2))) (fCons (fOp oDiv (fCB oLenS (fCons (fOp oIxL (fVar 1) (ret (.int 0))) fNil)) (ret (.int 2))) fNil))) (fgName 2))
  (fSeq (fAsg (fCall F_drawn_flips (fCons (fVar 2) (fCons (fVar 1) fNil))) (fgName 3))
  (fSeq (fFor (fEnumL (fN (fSplit (fCall F_written (fCons (fVar 2) (fCons (fVar 3) fNil))) (ret (.str "\n"))))) (fgTup 2 (fgCons (fgName 4) (fgCons (fgName 5) fgNil)))
    (fIfS (fB (fOp oNe (fVar 5) (fOp oIxL (fVar 1) (fVar 4))))
    fNever fNext))
  (fRet (fTup (fCons (fVar 2) (fCons (fVar 3) fNil))))))))))
def F_read : Fn := runF 1 6 f_read
def f__law_changed : MS := (fSeq (fPar [2, 3] (fCons (fCallR F__law_taken 0 (fCons (fOp oAdd (fCB oLenS (fCons (fVar 1) fNil)) (ret (.int 1))) fNil)) (fCons (fCallR F__law_taken 0 (fCons (ret (.int 5)) fNil)) fNil)))
  (fSeq (fIfS (fB (fOp oLt (fVar 3) (ret (.int 3))))
    (fSeq (fAsg (fOp oRepS (fOp oIxS (ret (.str "o*-=|# \nx")) (fCallR F__law_taken 0 (fCons (ret (.int 9)) fNil))) (fCB oInt (fCons (fOp oLt (fVar 3) (ret (.int 2))) fNil))) (fgName 4))
  (fRet (fOp oCatS (fOp oCatS (fSlS (fVar 1) fNo (fSo (fVar 2))) (fVar 4)) (fSlS (fVar 1) (fSo (fOp oAdd (fVar 2) (fCB oInt (fCons (fOp oGt (fVar 3) (ret (.int 0))) fNil)))) fNo)))) fNext)
  (fSeq (fAsg (fN (fSplit (fVar 1) (ret (.str "\n")))) (fgName 5))
  (fSeq (fAsg (fCallR F__law_taken 0 (fCons (fCB oLen (fCons (fVar 5) fNil)) fNil)) (fgName 6))
  (fSeq (fAsg (fN (fOpN oRep (fN (fSlL (fVar 5) (fSo (fVar 6)) (fSo (fOp oAdd (fVar 6) (ret (.int 2)))))) (fOp oMul (ret (.int 2)) (fCallR F__law_taken 0 (fCons (ret (.int 2)) fNil))))) (fgName 7))
  (fRet (fM1 oJoin (ret (.str "\n")) (fN (fOpN oCat (fN (fOpN oCat (fN (fSlL (fVar 5) fNo (fSo (fVar 6)))) (fVar 7))) (fN (fSlL (fVar 5) (fSo (fOp oAdd (fOp oAdd (fVar 6) (ret (.int 1))) (fOp oMod (fVar 3) (ret (.int 2))))) fNo)))))))))))
def F__law_changed : Fr := runW 2 8 f__law_changed
def f__law_lit_2 : MS := (fSeq (fAsg (fN (fLst fNil)) (fgName 2))
  (fSeq (fFor (fItL (fVar 1)) (fgName 3)
    (fAsg (fN (fOpN oCat (fVar 2) (fCall F__law_ends (fCons (fVar 0) (fCons (fVar 3) fNil))))) (fgName 2)))
  (fRet (fCB oTup (fCons (fN (fLc (fRng1 (fCons (fOp oMul (fOp oIxT (fVar 0) (ret (.int 0))) (fOp oIxT (fVar 0) (ret (.int 1)))) fNil)) (fgName 4) (fB (fOp oEq (fOp oMod (fCountL (fVar 2) (fCons (fVar 4) fNil)) (ret (.int 2))) (ret (.int 1)))) (fVar 4) [4])) fNil)))))
def F__law_lit_2 : Fn := runF 2 5 f__law_lit_2
def f__law_due : MS := (fSeq (fAsg (fN (fSplit (fVar 0) (ret (.str "\n")))) (fgName 1))
  (fSeq (fAsg (fOp oDiv (fCB oLenS (fCons (fOp oIxL (fVar 1) (ret (.int 0))) fNil)) (ret (.int 2))) (fgName 2))
  (fSeq (fIfS (fNot (fB (fChain oLe oLe (ret (.int 2)) (fVar 2) (ret (.int 5)))))
    (fRet (fTup (fCons (ret (.str "text")) (fCons (ret (.int 0)) fNil)))) fNext)
  (fSeq (fFor (fRng1 (fCons (fCB oLen (fCons (fVar 1) fNil)) fNil)) (fgName 3)
    (fSeq (fAsg (fOp oSub (fOp oMul (ret (.int 2)) (fVar 2)) (fOp oMod (fVar 3) (ret (.int 2)))) (fgName 4))
  (fSeq (fAsg (fOp oIxL (fN (fLst (fCons (fN (fLst (fCons (ret (.str "o*")) (fCons (ret (.str "-=")) fNil)))) (fCons (fN (fLst (fCons (ret (.str "|#")) (fCons (ret (.str " ")) fNil)))) fNil)))) (fOp oMod (fVar 3) (ret (.int 2)))) (fgName 5))
  (fSeq (fIfS (fOr (fB (fOp oEq (fVar 3) (ret (.int 10)))) (fB (fOp oNe (fCB oLenS (fCons (fOp oIxL (fVar 1) (fVar 3)) fNil)) (fVar 4))))
    (fRet (fTup (fCons (ret (.str "text")) (fCons (fVar 3) fNil)))) fNext)
  (fIfS (fB (fOp oNe (fN (fLc (fRng1 (fCons (fVar 4) fNil)) (fgName 6) (fB (fOp oNiC (fOp oIxS (fOp oIxL (fVar 1) (fVar 3)) (fVar 6)) (fOp oIxL (fVar 5) (fOp oMod (fVar 6) (ret (.int 2)))))) (fVar 6) [6])) (fN (fLst fNil))))
    (fRet (fTup (fCons (ret (.str "text")) (fCons (fVar 3) fNil)))) fNext)))))
  (fSeq (fIfS (fOr (fB (fOp oLt (fCB oLen (fCons (fVar 1) fNil)) (ret (.int 4)))) (fB (fOp oEq (fOp oMod (fCB oLen (fCons (fVar 1) fNil)) (ret (.int 2))) (ret (.int 1)))))
    (fRet (fTup (fCons (ret (.str "text")) (fCons (fCB oLen (fCons (fVar 1) fNil)) fNil)))) fNext)
  (fSeq (fPar [7, 8] (fCons (fTup (fCons (fOp oDiv (fCB oLen (fCons (fVar 1) fNil)) (ret (.int 2))) (fCons (fVar 2) fNil))) (fCons (fN (fLst fNil)) fNil)))
  (fSeq (fFor (fRng1 (fCons (fOp oMul (fOp oIxT (fVar 7) (ret (.int 0))) (fVar 2)) fNil)) (fgName 9)
    (fSeq (fPar [10, 11] (fCons (fOp oDiv (fVar 9) (fVar 2)) (fCons (fOp oMod (fVar 9) (fVar 2)) fNil)))
  (fSeq (fPar [12, 13] (fCons (fOp oIxL (fVar 1) (fOp oMul (ret (.int 2)) (fVar 10))) (fCons (fOp oIxL (fVar 1) (fOp oAdd (fOp oMul (ret (.int 2)) (fVar 10)) (ret (.int 1)))) fNil)))
  (fSeq (fAsg (fN (fOpN oCat (fVar 8) (fN (fOpN oRep (fN (fLst (fCons (fOp oMul (ret (.int 2)) (fVar 9)) fNil))) (fCB oInt (fCons (fOp oEq (fOp oIxS (fVar 12) (fOp oAdd (fOp oMul (ret (.int 2)) (fVar 11)) (ret (.int 1)))) (ret (.str "="))) fNil)))))) (fgName 8))
  (fAsg (fN (fOpN oCat (fVar 8) (fN (fOpN oRep (fN (fLst (fCons (fOp oAdd (fOp oMul (ret (.int 2)) (fVar 9)) (ret (.int 1))) fNil))) (fCB oInt (fCons (fOp oEq (fOp oIxS (fVar 13) (fOp oMul (ret (.int 2)) (fVar 11))) (ret (.str "#"))) fNil)))))) (fgName 8))))))
  (fSeq (fAsg (fCall F__law_lit_2 (fCons (fVar 7) (fCons (fVar 8) fNil))) (fgName 14))
  (fSeq (fFor (fRng1 (fCons (fOp oMul (fOp oIxT (fVar 7) (ret (.int 0))) (fVar 2)) fNil)) (fgName 9)
    (fSeq (fAsg (fOp oIxL (fVar 1) (fOp oMul (ret (.int 2)) (fOp oDiv (fVar 9) (fVar 2)))) (fgName 12))
  (fIfS (fB (fOp oNe (fOp oEq (fOp oIxS (fVar 12) (fOp oMul (ret (.int 2)) (fOp oMod (fVar 9) (fVar 2)))) (ret (.str "*"))) (fOp oIn (fVar 9) (fVar 14))))
    (fRet (fTup (fCons (ret (.str "text")) (fCons (fOp oMul (ret (.int 2)) (fOp oDiv (fVar 9) (fVar 2))) fNil)))) fNext)))
  (fRet (fTup (fCons (fVar 7) (fCons (fCB oTup (fCons (fVar 8) fNil)) fNil)))))))))))))
def F__law_due : Fn := runF 1 15 f__law_due
def f__law_kept (Frec : Fn) : MS := (fSeq (fIfS (fB (fIsi "list" (fVar 0)))
    (fRet (fN (fLc (fItO (fVar 0)) (fgName 1) (ret true) (fCall Frec (fCons (fVar 1) fNil)) [1]))) fNext)
  (fRet (fIf (fB (fIsi "tuple" (fVar 0))) (fCB oTup (fCons (fN (fLc (fItO (fVar 0)) (fgName 1) (ret true) (fCall Frec (fCons (fVar 1) fNil)) [1])) fNil)) (fVar 0))))
def R__law_kept : Nat → Fn
  | 0 => fun _ => none
  | i + 1 => runF 1 2 (f__law_kept (R__law_kept i))
def F__law_kept : Fn := R__law_kept 7
def f__law_told : MS := (fSeq (fAsg (fVar 0) (fgTup 3 (fgCons (fgName 1) (fgCons (fgName 2) (fgCons (fgName 3) fgNil)))))
  (fSeq (fAsg (fCall F__law_lit (fCons (fVar 1) (fCons (fVar 2) fNil))) (fgName 4))
  (fSeq (fOwn 5 (fLst (fCons (fCallN F_least 2 1 (fun ds zs => ds ++ zs) (fCons (fVar 1) (fCons (fVar 4) fNil)) (fCons (fVar 3) fNil)) (fCons (fCall (fun ds => F_stories (ds ++ [(.int 1), (.int 1)])) (fCons (fVar 1) (fCons (fTup (fCons (fVar 4) fNil)) fNil))) (fCons (fN (fLst (fCons (fCallN F_unseen 1 1 (fun ds zs => ds ++ zs) (fCons (fVar 1) fNil) (fCons (fVar 3) fNil)) fNil))) fNil)))))
  (fSeq (fApp 5 (fN (fLst (fCons (fCall F_checks (fCons (fVar 1) (fCons (fVar 2) fNil))) (fCons (fCall F_seams (fCons (fVar 1) (fCons (fVar 2) fNil))) (fCons (fCall (fun ds => F_mends (ds ++ [(.none)])) (fCons (fVar 1) (fCons (fVar 2) fNil))) (fCons (fCall F_written (fCons (fVar 1) (fCons (fVar 2) fNil))) fNil)))))))
  (fFz 5 (fRet (fN (fOpN oCat (fVar 5) (fN (fLst (fCons (fN (fLst (fCons (fCall F_turned (fCons (fVar 1) (fCons (fVar 2) (fCons (fTup (fCons (ret (.int 0)) (fCons (ret (.int 1)) fNil))) fNil)))) fNil))) fNil)))))))))))
def F__law_told : Fn := runF 1 6 f__law_told
def f__law_are_mended : MS := (fSeq (fAsg (fVar 0) (fgTup 2 (fgCons (fgName 2) (fgCons (fgName 3) fgNil))))
  (fSeq (fIfS (fB (fOp oNe (fCB oMinD (fCons (fN (fLc (fItL (fCall (fun ds => F_least (ds ++ [(.none)])) (fCons (fTup (fCons (ret (.int 5)) (fCons (ret (.int 5)) fNil))) (fCons (fTup (fCons (ret (.int 0)) (fCons (ret (.int 6)) (fCons (ret (.int 7)) (fCons (ret (.int 11)) (fCons (ret (.int 12)) (fCons (ret (.int 16)) (fCons (ret (.int 17)) (fCons (ret (.int 24)) fNil))))))))) fNil)))) (fgName 4) (ret true) (fOp oIxT (fVar 4) (ret (.int 0))) [4])) fNil)) (ret (.int 5))))
    (fRet (ret (.bool false))) fNext)
  (fSeq (fAsg (fCB oMin2 (fCons (fVar 2) (fCons (fVar 3) fNil))) (fgName 5))
  (fSeq (fIfS (fNot (fB (fCall F__law_alike (fCons (fCall (fun ds => F_mends (ds ++ [(.none)])) (fCons (fVar 0) (fCons (fTup (fCons (fOp oMul (ret (.int 2)) (fVar 1)) fNil)) fNil))) (fCons (fIf (fB (fOp oGt (fVar 5) (ret (.int 2)))) (ret (.bool true)) (fIf (fB (fOp oEq (fVar 3) (ret (.int 2)))) (ret .none) (ret (.bool true)))) fNil)))))
    (fRet (ret (.bool false))) fNext)
  (fSeq (fAsg (fCB oTup (fCons (fN (fLc (fRng1 (fCons (fOp oMul (fOp oMul (ret (.int 2)) (fVar 2)) (fVar 3)) fNil)) (fgName 7) (ret true) (fIf (fB (fOp oEq (fOp oMod (fVar 7) (ret (.int 2))) (ret (.int 0)))) (ret (.int 9)) (ret (.int 2))) [7])) fNil)) (fgName 6))
  (fSeq (fAsg (fCallN F_unseen 1 1 (fun ds zs => ds ++ zs) (fCons (fVar 0) fNil) (fCons (fVar 6) fNil)) (fgTup 3 (fgCons (fgName 8) (fgCons (fgName 9) (fgCons (fgName 10) fgNil)))))
  (fSeq (fAsg (fCB oMinD (fCons (fN (fLst (fCons (fTup (fCons (fOp oMul (ret (.int 2)) (fVar 2)) (fCons (fTup (fCons (ret (.int 0)) (fCons (ret (.int 1)) fNil))) fNil))) (fCons (fTup (fCons (fOp oMul (ret (.int 9)) (fVar 3)) (fCons (fTup (fCons (ret (.int 1)) (fCons (ret (.int 0)) fNil))) fNil))) (fCons (fTup (fCons (fOp oAdd (fOp oMul (ret (.int 2)) (fVar 2)) (fOp oMul (ret (.int 9)) (fVar 3))) (fCons (fTup (fCons (ret (.int 1)) (fCons (ret (.int 1)) fNil))) fNil))) fNil))))) fNil)) (fgName 11))
  (fSeq (fIfS (fNot (fB (fCall F__law_alike (fCons (fTup (fCons (fVar 8) (fCons (fVar 9) fNil))) (fCons (fVar 11) fNil)))))
    (fRet (ret (.bool false))) fNext)
  (fSeq (fAsg (fOp oIxL (fCallN F_stories 2 2 (fun ds zs => ds ++ zs) (fCons (fVar 0) (fCons (fTup (fCons (fTup (fCons (fVar 1) fNil)) (fCons (fTup fNil) fNil))) fNil)) (fCons (ret (.int 9)) (fCons (ret (.int 1)) fNil))) (ret (.int 0))) (fgName 12))
  (fSeq (fIfS (fNot (fB (fCall F__law_alike (fCons (fVar 12) (fCons (fTup (fCons (ret (.int 1)) (fCons (fN (fLst (fCons (fTup (fCons (fTup fNil) (fCons (fTup (fCons (fVar 1) fNil)) fNil))) (fCons (fTup (fCons (fTup fNil) (fCons (fTup fNil) fNil))) fNil)))) fNil))) fNil)))))
    (fRet (ret (.bool false))) fNext)
  (fRet (ret (.bool true)))))))))))))
def F__law_are_mended : Fn := runF 2 13 f__law_are_mended
def f__law_moved : MS := (fSeq (fOwn 2 (fOpN oRep (fN (fLst (fCons (ret (.int 0)) fNil))) (fCB oLen (fCons (fVar 0) fNil))))
  (fSeq (fFor (fRng1 (fCons (fCB oLen (fCons (fVar 0) fNil)) fNil)) (fgName 3)
    (fSto 2 (fOp oIxL (fVar 1) (fVar 3)) (fOp oIxT (fVar 0) (fVar 3))))
  (fFz 2 (fRet (fCB oTup (fCons (fVar 2) fNil))))))
def F__law_moved : Fn := runF 2 4 f__law_moved
def f__law_same : MS := (fSeq (fPar [6, 7] (fCons (fCB oTup (fCons (fN (fCBN oSorted (fCons (fN (fLc (fItT (fVar 2)) (fgName 8) (ret true) (fOp oIxL (fVar 4) (fVar 8)) [8])) fNil))) fNil)) (fCons (fCall F__law_moved (fCons (fVar 3) (fCons (fVar 4) fNil))) fNil)))
  (fSeq (fAsg (fCallN F_least 2 1 (fun ds zs => ds ++ zs) (fCons (fVar 0) (fCons (fCall F_checks (fCons (fVar 0) (fCons (fVar 2) fNil))) fNil)) (fCons (fVar 3) fNil)) (fgName 9))
  (fSeq (fAsg (fCallN F_least 2 1 (fun ds zs => ds ++ zs) (fCons (fVar 1) (fCons (fCall F_checks (fCons (fVar 1) (fCons (fVar 6) fNil))) fNil)) (fCons (fVar 7) fNil)) (fgName 10))
  (fSeq (fIfS (fB (fOp oNe (fCB oMinD (fCons (fN (fLc (fItL (fVar 9)) (fgName 11) (ret true) (fOp oIxT (fVar 11) (ret (.int 0))) [11])) fNil)) (fCB oMinD (fCons (fN (fLc (fItL (fVar 10)) (fgName 11) (ret true) (fOp oIxT (fVar 11) (ret (.int 0))) [11])) fNil))))
    (fRet (ret (.bool false))) fNext)
  (fSeq (fIfS (fB (fOp oNe (fCallN F_mends 2 1 (fun ds zs => ds ++ zs) (fCons (fVar 0) (fCons (fVar 2) fNil)) (fCons (fVar 3) fNil)) (fCallN F_mends 2 1 (fun ds zs => ds ++ zs) (fCons (fVar 1) (fCons (fVar 6) fNil)) (fCons (fVar 7) fNil))))
    (fRet (ret (.bool false))) fNext)
  (fSeq (fOwn 12 (fLst (fCons (fN (fLc (fItL (fCallN F_least 2 1 (fun ds zs => ds ++ zs) (fCons (fVar 0) (fCons (fTup fNil) fNil)) (fCons (fVar 3) fNil))) (fgName 11) (ret true) (fOp oIxT (fVar 11) (ret (.int 0))) [11])) (fCons (fN (fLc (fItL (fCallN F_least 2 1 (fun ds zs => ds ++ zs) (fCons (fVar 1) (fCons (fTup fNil) fNil)) (fCons (fVar 7) fNil))) (fgName 11) (ret true) (fOp oIxT (fVar 11) (ret (.int 0))) [11])) fNil))))
  (fSeq (fIfS (fB (fVar 5))
    (fSto 12 (ret (.int 1)) (fN (fLst (fCons (fLook (fOp oIxL (fOp oIxL (fVar 12) (ret (.int 1))) (ret (.int 0)))) (fCons (fLook (fOp oIxL (fOp oIxL (fVar 12) (ret (.int 1))) (ret (.int 2)))) (fCons (fLook (fOp oIxL (fOp oIxL (fVar 12) (ret (.int 1))) (ret (.int 1)))) (fCons (fLook (fOp oIxL (fOp oIxL (fVar 12) (ret (.int 1))) (ret (.int 3)))) fNil))))))) fNext)
  (fFz 12 (fRet (fAndV (fOp oEq (fOp oIxL (fVar 12) (ret (.int 0))) (fOp oIxL (fVar 12) (ret (.int 1)))) (fOp oEq (fOp oIxT (fCallN F_unseen 1 1 (fun ds zs => ds ++ zs) (fCons (fVar 0) fNil) (fCons (fVar 3) fNil)) (ret (.int 0))) (fOp oIxT (fCallN F_unseen 1 1 (fun ds zs => ds ++ zs) (fCons (fVar 1) fNil) (fCons (fVar 7) fNil)) (ret (.int 0))))))))))))))
def F__law_same : Fn := runF 6 13 f__law_same
def f__law_shifted : MS := (fSeq (fPar [4, 5] (fCons (fOp oDiv (fVar 1) (fOp oIxT (fVar 0) (ret (.int 1)))) (fCons (fOp oMod (fVar 1) (fOp oIxT (fVar 0) (ret (.int 1)))) fNil)))
  (fRet (fOp oAdd (fOp oMul (fOp oMod (fOp oAdd (fVar 4) (fVar 2)) (fOp oIxT (fVar 0) (ret (.int 0)))) (fOp oIxT (fVar 0) (ret (.int 1)))) (fOp oMod (fOp oAdd (fVar 5) (fVar 3)) (fOp oIxT (fVar 0) (ret (.int 1)))))))
def F__law_shifted : Fn := runF 4 6 f__law_shifted
def f__law_turned_over : MS := (fRet (fOp oAdd (fOp oMul (fOp oMod (fVar 1) (fOp oIxT (fVar 0) (ret (.int 1)))) (fOp oIxT (fVar 0) (ret (.int 0)))) (fOp oDiv (fVar 1) (fOp oIxT (fVar 0) (ret (.int 1))))))
def F__law_turned_over : Fn := runF 2 2 f__law_turned_over
def f__law_taken_2 : MS := (fSeq (fIfS (fB (fOp oGt (fRowI 0 3) (ret (.int 0))))
    (fSeq (fAsg (fOp oMod (fCB oInt (fCons (fRowI 0 3) fNil)) (fVar 1)) (fgName 2))
  (fSeq (fRowSet 0 3 (fOp oDiv (fRowI 0 3) (fVar 1)))
  (fRet (fVar 2)))) fNext)
  (fSeq (fRowSet 0 1 (fOp oAdd (fRowI 0 1) (ret (.int 1))))
  (fSeq (fIfS (fB (fOp oGt (fRowI 0 1) (fRowLen 0)))
    (fSeq (fRowSet 0 2 (fOp oMod (fCB oInt (fCons (fOp oAdd (fOp oMul (fRowI 0 2) (ret (.int 48271))) (ret (.int 11))) fNil)) (ret (.int 2147483647))))
  (fRet (fOp oMod (fCB oInt (fCons (fOp oDiv (fRowI 0 2) (ret (.int 7))) fNil)) (fVar 1)))) fNext)
  (fSeq (fAsg (fRowAt 0 (fOp oSub (fRowI 0 1) (ret (.int 1)))) (fgName 3))
  (fSeq (fRowSet 0 2 (fOp oMod (fCB oInt (fCons (fOp oAdd (fOp oAdd (fOp oMul (fRowI 0 2) (ret (.int 48271))) (fVar 3)) (ret (.int 11))) fNil)) (ret (.int 2147483647))))
  (fSeq (fIfS (fB (fOp oGe (fVar 3) (fOp oPow (ret (.int 10)) (ret (.int 18)))))
    (fRowSet 0 3 (fOp oDiv (fVar 3) (fVar 1))) fNext)
  (fRet (fOp oMod (fCB oInt (fCons (fVar 3) fNil)) (fVar 1)))))))))
def F__law_taken_2 : Fr := runW 2 4 f__law_taken_2
def f__law_board_2 : MS := (fRet (fTup (fCons (fOp oAdd (ret (.int 2)) (fCallR F__law_taken_2 0 (fCons (fOp oSub (fVar 1) (ret (.int 1))) fNil))) (fCons (fOp oAdd (ret (.int 2)) (fCallR F__law_taken_2 0 (fCons (fOp oSub (fVar 1) (ret (.int 1))) fNil))) fNil))))
def F__law_board_2 : Fr := runW 2 2 f__law_board_2
def f__law_some_2 : MS := (fSeq (fAsg (fN (fLst fNil)) (fgName 3))
  (fSeq (fFor (fRng1 (fCons (fCallR F__law_taken_2 0 (fCons (fOp oAdd (fCB oMin2 (fCons (fVar 1) (fCons (fVar 2) fNil))) (ret (.int 1))) fNil)) fNil)) (fgName 4)
    (fSeq (fAsg (fCallR F__law_taken_2 0 (fCons (fVar 1) fNil)) (fgName 5))
  (fAsg (fN (fOpN oCat (fVar 3) (fN (fOpN oRep (fN (fLst (fCons (fVar 5) fNil))) (fCB oInt (fCons (fOp oNi (fVar 5) (fVar 3)) fNil)))))) (fgName 3))))
  (fRet (fCB oTup (fCons (fN (fCBN oSorted (fCons (fVar 3) fNil))) fNil)))))
def F__law_some_2 : Fr := runW 3 6 f__law_some_2
def f__law_flips_2 : MS := (fSeq (fAsg (fOp oMul (fOp oIxT (fVar 1) (ret (.int 0))) (fOp oIxT (fVar 1) (ret (.int 1)))) (fgName 2))
  (fSeq (fAsg (fN (fCBN oListOf (fCons (fCallR F__law_some_2 0 (fCons (fOp oMul (ret (.int 2)) (fVar 2)) (fCons (fOp oIxL (fN (fLst (fCons (ret (.int 3)) (fCons (ret (.int 6)) (fCons (fOp oMul (ret (.int 2)) (fVar 2)) fNil))))) (fCallR F__law_taken_2 0 (fCons (ret (.int 3)) fNil))) fNil))) fNil))) (fgName 3))
  (fSeq (fIfS (fB (fOp oEq (fCallR F__law_taken_2 0 (fCons (ret (.int 4)) fNil)) (ret (.int 0))))
    (fSeq (fAsg (fCallR F__law_taken_2 0 (fCons (fOp oIxT (fVar 1) (ret (.int 0))) fNil)) (fgName 4))
  (fAsg (fN (fOpN oCat (fVar 3) (fN (fLc (fRng1 (fCons (fOp oIxT (fVar 1) (ret (.int 1))) fNil)) (fgName 5) (ret true) (fOp oMul (ret (.int 2)) (fOp oAdd (fOp oMul (fVar 4) (fOp oIxT (fVar 1) (ret (.int 1)))) (fVar 5))) [5])))) (fgName 3))) fNext)
  (fSeq (fIfS (fB (fOp oEq (fCallR F__law_taken_2 0 (fCons (ret (.int 4)) fNil)) (ret (.int 0))))
    (fSeq (fAsg (fCallR F__law_taken_2 0 (fCons (fOp oIxT (fVar 1) (ret (.int 1))) fNil)) (fgName 4))
  (fAsg (fN (fOpN oCat (fVar 3) (fN (fLc (fRng1 (fCons (fOp oIxT (fVar 1) (ret (.int 0))) fNil)) (fgName 5) (ret true) (fOp oAdd (fOp oMul (ret (.int 2)) (fOp oAdd (fOp oMul (fVar 5) (fOp oIxT (fVar 1) (ret (.int 1)))) (fVar 4))) (ret (.int 1))) [5])))) (fgName 3))) fNext)
  (fRet (fCB oTup (fCons (fN (fLc (fRng1 (fCons (fOp oMul (ret (.int 2)) (fVar 2)) fNil)) (fgName 6) (fB (fOp oEq (fOp oMod (fCountL (fVar 3) (fCons (fVar 6) fNil)) (ret (.int 2))) (ret (.int 1)))) (fVar 6) [6])) fNil)))))))
def F__law_flips_2 : Fr := runW 2 7 f__law_flips_2
def f__law_apart : MS := (fRet (fCB oTup (fCons (fN (fCBN oSorted (fCons (fN (fOpN oCat (fN (fLc (fItT (fVar 0)) (fgName 2) (fB (fOp oNi (fVar 2) (fVar 1))) (fVar 2) [2])) (fN (fLc (fItT (fVar 1)) (fgName 2) (fB (fOp oNi (fVar 2) (fVar 0))) (fVar 2) [2])))) fNil))) fNil)))
def F__law_apart : Fn := runF 2 3 f__law_apart
def f__law_side : MS := (fRet (fTup (fCons (fOp oMod (fCB oInt (fCons (fOp oAdd (fOp oIxT (fVar 0) (ret (.int 0))) (fOp oIxT (fVar 1) (ret (.int 0)))) fNil)) (ret (.int 2))) (fCons (fOp oMod (fCB oInt (fCons (fOp oAdd (fOp oIxT (fVar 0) (ret (.int 1))) (fOp oIxT (fVar 1) (ret (.int 1)))) fNil)) (ret (.int 2))) fNil))))
def F__law_side : Fn := runF 2 2 f__law_side
def f__law_is_led : MS := (fSeq (fAsg (fCallR F__law_flips_2 0 (fCons (fVar 1) fNil)) (fgName 3))
  (fSeq (fAsg (fCall F_led (fCons (fVar 1) (fCons (fVar 2) (fCons (fVar 3) fNil)))) (fgName 4))
  (fSeq (fAsg (fAndV (fOp oEq (fCall F_checks (fCons (fVar 1) (fCons (fVar 2) fNil))) (fCall F_checks (fCons (fVar 1) (fCons (fVar 3) fNil)))) (fOp oEq (fCall F_seams (fCons (fVar 1) (fCons (fVar 2) fNil))) (fCall F_seams (fCons (fVar 1) (fCons (fVar 3) fNil))))) (fgName 5))
  (fSeq (fIfS (fOr (fB (fOp oEq (fOp oIsN (fVar 4) (ret .none)) (fVar 5))) (fAnd (fB (fOp oNotN (fVar 4) (ret .none))) (fB (fOp oNe (fCall F_turned (fCons (fVar 1) (fCons (fVar 2) (fCons (fVar 4) fNil)))) (fVar 3)))))
    (fRet (ret (.bool false))) fNext)
  (fSeq (fAsg (fCallR F__law_taken_2 0 (fCons (fOp oIxT (fVar 1) (ret (.int 0))) fNil)) (fgName 6))
  (fSeq (fAsg (fCB oTup (fCons (fN (fLc (fRng1 (fCons (fOp oIxT (fVar 1) (ret (.int 1))) fNil)) (fgName 8) (ret true) (fOp oMul (ret (.int 2)) (fOp oAdd (fOp oMul (fVar 6) (fOp oIxT (fVar 1) (ret (.int 1)))) (fVar 8))) [8])) fNil)) (fgName 7))
  (fRet (fAndV (fOp oEq (fCall F_checks (fCons (fVar 1) (fCons (fVar 7) fNil))) (fTup fNil)) (fOp oIsN (fCall F_led (fCons (fVar 1) (fCons (fVar 2) (fCons (fCall F_after (fCons (fVar 1) (fCons (fVar 2) (fCons (fVar 7) fNil)))) fNil)))) (ret .none))))))))))
def F__law_is_led : Fr := runW 3 9 f__law_is_led
def f__law_site : MS := (fRet (fOp oAdd (fOp oMul (fOp oMod (fCB oInt (fCons (fVar 1) fNil)) (fOp oIxT (fVar 0) (ret (.int 1)))) (fOp oIxT (fVar 0) (ret (.int 0)))) (fOp oDiv (fVar 1) (fOp oIxT (fVar 0) (ret (.int 1))))))
def F__law_site : Fn := runF 2 2 f__law_site
def f__law_edges : MS := (fRet (fCB oTup (fCons (fN (fCBN oSorted (fCons (fN (fLc (fItT (fVar 1)) (fgName 2) (ret true) (fOp oSub (fOp oAdd (fOp oMul (ret (.int 2)) (fCall F__law_site (fCons (fVar 0) (fCons (fOp oDiv (fVar 2) (ret (.int 2))) fNil)))) (ret (.int 1))) (fOp oMod (fCB oInt (fCons (fVar 2) fNil)) (ret (.int 2)))) [2])) fNil))) fNil)))
def F__law_edges : Fn := runF 2 3 f__law_edges
def f__law_sites : MS := (fRet (fCB oTup (fCons (fN (fCBN oSorted (fCons (fN (fLc (fItT (fVar 1)) (fgName 2) (ret true) (fCall F__law_site (fCons (fVar 0) (fCons (fVar 2) fNil))) [2])) fNil))) fNil)))
def F__law_sites : Fn := runF 2 3 f__law_sites
def f__law_are_least_2 : MS := (fSeq (fAsg (fTup (fCons (fCallN F_least 2 1 (fun ds zs => ds ++ zs) (fCons (fVar 0) (fCons (fVar 2) fNil)) (fCons (fVar 3) fNil)) (fCons (fCallN F_least 2 1 (fun ds zs => ds ++ zs) (fCons (fVar 1) (fCons (fCall F__law_sites (fCons (fVar 0) (fCons (fVar 2) fNil))) fNil)) (fCons (fVar 4) fNil)) fNil))) (fgTup 2 (fgCons (fgName 5) (fgCons (fgName 6) fgNil))))
  (fSeq (fIfS (fB (fOp oNe (fN (fLc (fItT (fTup (fCons (ret (.int 0)) (fCons (ret (.int 2)) (fCons (ret (.int 1)) (fCons (ret (.int 3)) fNil)))))) (fgName 7) (ret true) (fOp oIxT (fOp oIxL (fVar 6) (fVar 7)) (ret (.int 0))) [7])) (fN (fLc (fItL (fVar 5)) (fgName 8) (ret true) (fOp oIxT (fVar 8) (ret (.int 0))) [8]))))
    (fRet (ret (.bool false))) fNext)
  (fSeq (fFor (fRng1 (fCons (ret (.int 4)) fNil)) (fgName 7)
    (fSeq (fAsg (fCall F__law_edges (fCons (fVar 0) (fCons (fOp oIxT (fOp oIxL (fVar 5) (fVar 7)) (ret (.int 1))) fNil))) (fgName 9))
  (fIfS (fOr (fB (fOp oNe (fCall F_checks (fCons (fVar 1) (fCons (fVar 9) fNil))) (fCall F__law_sites (fCons (fVar 0) (fCons (fVar 2) fNil))))) (fB (fOp oNe (fCall F_seams (fCons (fVar 1) (fCons (fVar 9) fNil))) (fBack (fCall F_seams (fCons (fVar 0) (fCons (fOp oIxT (fOp oIxL (fVar 5) (fVar 7)) (ret (.int 1))) fNil))) fNo fNo (fSo (fUn oNeg (ret (.int 1))))))))
    (fRet (ret (.bool false))) fNext)))
  (fSeq (fAsg (fTup (fCons (fCall (fun ds => F_stories (ds ++ [(.int 1), (.int 1)])) (fCons (fVar 0) (fCons (fTup (fCons (fVar 2) fNil)) fNil))) (fCons (fCall (fun ds => F_stories (ds ++ [(.int 1), (.int 1)])) (fCons (fVar 1) (fCons (fTup (fCons (fCall F__law_sites (fCons (fVar 0) (fCons (fVar 2) fNil))) fNil)) fNil))) fNil))) (fgTup 2 (fgCons (fgName 10) (fgCons (fgName 6) fgNil))))
  (fRet (fOp oEq (fN (fLc (fItT (fTup (fCons (ret (.int 0)) (fCons (ret (.int 2)) (fCons (ret (.int 1)) (fCons (ret (.int 3)) fNil)))))) (fgName 7) (ret true) (fOp oIxT (fOp oIxL (fVar 6) (fVar 7)) (ret (.int 0))) [7])) (fN (fLc (fItL (fVar 10)) (fgName 8) (ret true) (fOp oIxT (fVar 8) (ret (.int 0))) [8]))))))))
def F__law_are_least_2 : Fn := runF 5 11 f__law_are_least_2
def f__law_is_judged : MS := (fSeq (fPar [4, 5] (fCons (fCallN F_stories 2 2 (fun ds zs => ds ++ zs) (fCons (fVar 0) (fCons (fVar 1) fNil)) (fCons (fVar 2) (fCons (fVar 3) fNil))) (fCons (fN (fLst (fCons (fTup (fCons (ret (.int 0)) (fCons (ret (.int 0)) fNil))) (fCons (fTup (fCons (ret (.int 0)) (fCons (ret (.int 1)) fNil))) (fCons (fTup (fCons (ret (.int 1)) (fCons (ret (.int 0)) fNil))) (fCons (fTup (fCons (ret (.int 1)) (fCons (ret (.int 1)) fNil))) fNil)))))) fNil)))
  (fSeq (fFor (fRng1 (fCons (ret (.int 4)) fNil)) (fgName 6)
    (fIfS (fB (fOp oNe (fCallN F_judged 3 2 (fun ds zs => ds ++ zs) (fCons (fVar 0) (fCons (fVar 1) (fCons (fOp oIxT (fOp oIxL (fVar 4) (fVar 6)) (ret (.int 1))) fNil))) (fCons (fVar 2) (fCons (fVar 3) fNil))) (fTup (fCons (fOp oIxT (fOp oIxL (fVar 4) (fVar 6)) (ret (.int 0))) (fCons (fOp oIxL (fVar 5) (fVar 6)) fNil)))))
    (fRet (ret .none)) fNext))
  (fRet (fN (fLc (fItL (fVar 4)) (fgName 7) (ret true) (fOp oIxT (fVar 7) (ret (.int 0))) [7])))))
def F__law_is_judged : Fn := runF 4 8 f__law_is_judged
def f__law_story : MS := (fSeq (fParDN 3 4 (fOp oMul (fOp oIxT (fVar 1) (ret (.int 0))) (fOp oIxT (fVar 1) (ret (.int 1)))) (fLst fNil))
  (fSeq (fFor (fRng1 (fCons (fVar 2) fNil)) (fgName 5)
    (fApp 4 (fTup (fCons (fCallR F__law_some_2 0 (fCons (fOp oMul (ret (.int 2)) (fVar 3)) (fCons (ret (.int 1)) fNil))) (fCons (fIf (fB (fOp oLt (fVar 5) (fOp oSub (fVar 2) (ret (.int 1))))) (fCallR F__law_some_2 0 (fCons (fVar 3) (fCons (ret (.int 1)) fNil))) (fTup fNil)) fNil)))))
  (fFz 4 (fRet (fVar 4)))))
def F__law_story : Fr := runW 3 6 f__law_story
def f__law_told_2 : MS := (fSeq (fParND 2 3 (fLst fNil) (fTup fNil))
  (fSeq (fFor (fItL (fVar 1)) (fgTup 2 (fgCons (fgName 4) (fgCons (fgName 5) fgNil)))
    (fSeq (fAsg (fCall F_after (fCons (fVar 0) (fCons (fVar 3) (fCons (fVar 4) fNil)))) (fgName 3))
  (fApp 2 (fCall F__law_apart (fCons (fCall F_checks (fCons (fVar 0) (fCons (fVar 3) fNil))) (fCons (fVar 5) fNil))))))
  (fFz 2 (fRet (fCB oTup (fCons (fVar 2) fNil))))))
def F__law_told_2 : Fn := runF 2 6 f__law_told_2
def f__law_events : MS := (fSeq (fAsg (fTup (fCons (ret (.int 0)) (fCons (fTup fNil) fNil))) (fgTup 2 (fgCons (fgName 1) (fgCons (fgName 2) fgNil))))
  (fSeq (fFor (fItT (fVar 0)) (fgName 3)
    (fPar [1, 2] (fCons (fOp oAdd (fVar 1) (fCB oLen (fCons (fCall F__law_apart (fCons (fVar 2) (fCons (fVar 3) fNil))) fNil))) (fCons (fVar 3) fNil))))
  (fRet (fVar 1))))
def F__law_events : Fn := runF 1 4 f__law_events
def f__law_guess : MS := (fSeq (fPar [4, 5] (fCons (fN (fLst (fCons (fTup (fCons (ret (.int 0)) (fCons (ret (.int 0)) fNil))) (fCons (fTup (fCons (ret (.int 0)) (fCons (ret (.int 1)) fNil))) (fCons (fTup (fCons (ret (.int 1)) (fCons (ret (.int 0)) fNil))) (fCons (fTup (fCons (ret (.int 1)) (fCons (ret (.int 1)) fNil))) fNil)))))) (fCons (fN (fLc (fItL (fCallN F_stories 2 2 (fun ds zs => ds ++ zs) (fCons (fVar 0) (fCons (fVar 1) fNil)) (fCons (fVar 2) (fCons (fVar 3) fNil)))) (fgName 6) (ret true) (fOp oIxT (fVar 6) (ret (.int 0))) [6])) fNil)))
  (fSeq (fAsg (fIndexL (fVar 5) (fCons (fCB oMinD (fCons (fVar 5) fNil)) fNil)) (fgName 7))
  (fRet (fTup (fCons (fOp oIxL (fVar 4) (fVar 7)) (fCons (fOp oSub (fCB oMinD (fCons (fN (fOpN oCat (fN (fSlL (fVar 5) fNo (fSo (fVar 7)))) (fN (fSlL (fVar 5) (fSo (fOp oAdd (fVar 7) (ret (.int 1)))) fNo)))) fNil)) (fOp oIxL (fVar 5) (fVar 7))) fNil))))))
def F__law_guess : Fn := runF 4 8 f__law_guess
def f__law_rows : MS := (fSeq (fParND 2 3 (fLst fNil) (fCall F_checks (fCons (fVar 0) (fCons (fVar 1) fNil))))
  (fSeq (fFor (fRng1 (fCons (fOp oIxT (fVar 0) (ret (.int 0))) fNil)) (fgName 4)
    (fSeq (fAsg (fN (fListRg2 (fOp oMul (fVar 4) (fOp oIxT (fVar 0) (ret (.int 1)))) (fOp oAdd (fOp oMul (fVar 4) (fOp oIxT (fVar 0) (ret (.int 1)))) (fOp oIxT (fVar 0) (ret (.int 1)))))) (fgName 5))
  (fSeq (fApp 2 (fM1 oJoin (ret (.str "")) (fN (fLc (fItL (fVar 5)) (fgName 6) (ret true) (fOp oCatS (fOp oIxS (ret (.str "o*")) (fCB oInt (fCons (fOp oIn (fVar 6) (fVar 3)) fNil))) (fOp oIxS (ret (.str "-=")) (fCB oInt (fCons (fOp oIn (fOp oMul (ret (.int 2)) (fVar 6)) (fVar 1)) fNil)))) [6]))))
  (fApp 2 (fM1 oJoin (ret (.str " ")) (fN (fLc (fItL (fVar 5)) (fgName 6) (ret true) (fOp oIxS (ret (.str "|#")) (fCB oInt (fCons (fOp oIn (fOp oAdd (fOp oMul (ret (.int 2)) (fVar 6)) (ret (.int 1))) (fVar 1)) fNil))) [6])))))))
  (fFz 2 (fRet (fVar 2)))))
def F__law_rows : Fn := runF 2 7 f__law_rows
end Sb

/-! Seamboard: how functions are reckoned. -/
namespace Sb
open PySem PySem.Spec PyProof.Rows L2
section
variable {α β : Type} {s : Ss} {ρ ρ1 : Ro} {a b : MS} {g : ME α}
@[simp] theorem ret_at (x : α) : (ret x : ME α) s ρ = some (.ok x, ρ) := (rfl)
@[simp] theorem lft_at (x : α) : (lft (some x) : ME α) s ρ = some (.ok x, ρ) := (rfl)
theorem bnd_to {k : α → ME β} {x : α} (h : g s ρ = some (.ok x, ρ1)) : bnd g k s ρ = k x s ρ1 := by unfold bnd; rw [h]
theorem fOut_to {k : α → MS} {x : α} (h : g s ρ = some (.ok x, ρ1)) : fOut g k s ρ = k x s ρ1 := by unfold fOut; rw [h]
@[simp] theorem bnd_at (k : α → ME β) : bnd g k s ρ = match g s ρ with
  | none => none
  | some (.error x, ρ1) => some (.error x, ρ1)
  | some (.ok a, ρ1) => k a s ρ1 := (rfl)
@[simp] theorem fOut_at (k : α → MS) : fOut g k s ρ = match g s ρ with
  | none => none
  | some (.error x, ρ1) => some (.er x ρ1)
  | some (.ok a, ρ1) => k a s ρ1 := (rfl)
@[simp] theorem fVar_at (i : Nat) : fVar i s ρ = match s[i]? with
  | some (some (.d x)) => some (.ok x, ρ)
  | _ => none := (rfl)
@[simp] theorem fSeq_at : fSeq a b s ρ = match a s ρ with
  | some (.nx s1 ρ1) => b s1 ρ1
  | o => o := (rfl)
theorem fSeq_to {s1 : Ss} (h : a s ρ = some (.nx s1 ρ1)) : fSeq a b s ρ = b s1 ρ1 := by unfold fSeq; rw [h]
theorem fSeq_rt {d : Dt} (h : a s ρ = some (.rt d ρ1)) : fSeq a b s ρ = some (.rt d ρ1) := by unfold fSeq; rw [h]
@[simp] theorem fgName_at (j : Nat) (d : Dt) : fgName j d s = some (s.set j (some (.d d))) := (rfl)
@[simp] theorem fgCons_at (f : FG) (fs : FGs) (d : Dt) (ds : List Dt) : fgCons f fs (d :: ds) s = match f d s with
  | some s1 => fs ds s1
  | none => none := (rfl)
@[simp] theorem fgNil_at : fgNil [] s = some s := (rfl)
@[simp] theorem fgTup_at (n : Nat) (fs : FGs) (ds : List Dt) : fgTup n fs (.tuple ds) s = if ds.length = n then fs ds s else none := (rfl)
@[simp] theorem forGo_nil (tg : FG) : forGo tg b [] s ρ = some (.nx s ρ) := (rfl)
theorem forGo_cons (tg : FG) (d : Dt) (ds : List Dt) : forGo tg b (d :: ds) s ρ = match tg d s with
  | none => none
  | some s1 => match b s1 ρ with
    | some (.nx s2 ρ2) => forGo tg b ds s2 ρ2
    | some (.ct s2 ρ2) => forGo tg b ds s2 ρ2
    | some (.bk s2 ρ2) => some (.nx s2 ρ2)
    | o => o := rfl
@[simp] theorem fOp_e (o : Dt → Dt → Option Dt) (x y : ME Dt) : fOp o x y s ρ = (bnd x fun u => bnd y fun v => lft (o u v)) s ρ := (rfl)
@[simp] theorem fUn_e (o : Dt → Option Dt) (x : ME Dt) : fUn o x s ρ = (bnd x fun u => lft (o u)) s ρ := (rfl)
@[simp] theorem fNil_e : fNil s ρ = some (.ok [], ρ) := (rfl)
@[simp] theorem fCons_e (x : ME Dt) (t : ME (List Dt)) : fCons x t s ρ = (bnd x fun u => bnd t fun us => ret (u :: us)) s ρ := (rfl)
@[simp] theorem fTup_e (t : ME (List Dt)) : fTup t s ρ = (bnd t fun ds => lft (if ds.length ≤ 100000 then some (.tuple ds) else none)) s ρ := (rfl)
@[simp] theorem fCB_e (o : List Dt → Option Dt) (t : ME (List Dt)) : fCB o t s ρ = (bnd t fun ds => lft (o ds)) s ρ := (rfl)
@[simp] theorem fB_e (x : ME Dt) : fB x s ρ = (bnd x fun u => lft (asB u)) s ρ := (rfl)
@[simp] theorem asB_b (b : Bool) : asB (.bool b) = some b := (rfl)
@[simp] theorem fNot_e (x : ME Bool) : fNot x s ρ = (bnd x fun b => ret (!b)) s ρ := (rfl)
@[simp] theorem fAnd_e (x y : ME Bool) : fAnd x y s ρ = (bnd x fun b => if b = true then y else ret false) s ρ := (rfl)
@[simp] theorem fOr_e (x y : ME Bool) : fOr x y s ρ = (bnd x fun b => if b = true then ret true else y) s ρ := (rfl)
@[simp] theorem fNotV_e (x : ME Dt) : fNotV x s ρ = (bnd x fun u => lft ((asB u).map fun b => .bool (!b))) s ρ := (rfl)
@[simp] theorem fIf_e (c : ME Bool) (x y : ME Dt) : fIf c x y s ρ = (bnd c fun b => if b = true then x else y) s ρ := (rfl)
@[simp] theorem fAndV_e (x y : ME Dt) : fAndV x y s ρ = (bnd x fun u => match u with
  | .bool true => y
  | .bool false => ret (.bool false)
  | _ => lft none) s ρ := (rfl)
@[simp] theorem fOrV_e (x y : ME Dt) : fOrV x y s ρ = (bnd x fun u => match u with
  | .bool true => ret (.bool true)
  | .bool false => y
  | _ => lft none) s ρ := (rfl)
@[simp] theorem fChain_e (o o' : Dt → Dt → Option Dt) (x y z : ME Dt) : fChain o o' x y z s ρ = (bnd x fun u => bnd y fun v => match o u v with
  | some (.bool true) => bnd z fun w => lft (o' v w)
  | some (.bool false) => ret (.bool false)
  | _ => lft none) s ρ := (rfl)
@[simp] theorem fN_e (x : ME (List Dt)) : fN x s ρ = (bnd x fun ds => ret (.list ds)) s ρ := (rfl)
@[simp] theorem fOpN_e (o : Dt → Dt → Option (List Dt)) (x y : ME Dt) : fOpN o x y s ρ = (bnd x fun u => bnd y fun v => lft (o u v)) s ρ := (rfl)
@[simp] theorem fCBN_e (o : List Dt → Option (List Dt)) (t : ME (List Dt)) : fCBN o t s ρ = (bnd t fun ds => lft (o ds)) s ρ := (rfl)
@[simp] theorem fLst_e (t : ME (List Dt)) : fLst t s ρ = (bnd t fun ds => lft (few ds)) s ρ := (rfl)
@[simp] theorem fItL_e (x : ME Dt) : fItL x s ρ = (bnd x fun u => lft (match u with
  | .list ds => some ds
  | _ => none)) s ρ := (rfl)
@[simp] theorem fItT_e (x : ME Dt) : fItT x s ρ = (bnd x fun u => lft (match u with
  | .tuple ds => some ds
  | _ => none)) s ρ := (rfl)
@[simp] theorem fItO_e (x : ME Dt) : fItO x s ρ = (bnd x fun u => lft (seqD u)) s ρ := (rfl)
@[simp] theorem seqD_t (ds : List Dt) : seqD (.tuple ds) = some ds := (rfl)
@[simp] theorem seqD_l (ds : List Dt) : seqD (.list ds) = some ds := (rfl)
@[simp] theorem fRng1_e (t : ME (List Dt)) : fRng1 t s ρ = (bnd t fun ds => lft (oRng1 ds)) s ρ := (rfl)
@[simp] theorem fRng2_e (t : ME (List Dt)) : fRng2 t s ρ = (bnd t fun ds => lft (oRng2 ds)) s ρ := (rfl)
@[simp] theorem fRng3_e (t : ME (List Dt)) : fRng3 t s ρ = (bnd t fun ds => lft (oRng3 ds)) s ρ := (rfl)
@[simp] theorem fEnumL_e (x : ME Dt) : fEnumL x s ρ = (bnd x fun u => lft (match u with
  | .list ds => some (pairsFrom 0 ds)
  | _ => none)) s ρ := (rfl)
@[simp] theorem fEnumT_e (x : ME Dt) : fEnumT x s ρ = (bnd x fun u => lft (match u with
  | .tuple ds => some (pairsFrom 0 ds)
  | _ => none)) s ρ := (rfl)
@[simp] theorem fRet_e (x : ME Dt) : fRet x s ρ = (fOut x fun d _ ρ => some (.rt d ρ)) s ρ := (rfl)
@[simp] theorem fRetN_at : fRetN s ρ = some (.rt .none ρ) := (rfl)
@[simp] theorem fIfS_e (c : ME Bool) : fIfS c a b s ρ = (fOut c fun x => if x = true then a else b) s ρ := (rfl)
@[simp] theorem fAsg_e (x : ME Dt) (tg : FG) : fAsg x tg s ρ = (fOut x fun d s ρ => match tg d s with
  | some s1 => some (.nx s1 ρ)
  | none => none) s ρ := (rfl)
@[simp] theorem fFor_e (i : ME (List Dt)) (tg : FG) : fFor i tg b s ρ = (fOut i fun ds => forGo tg b ds) s ρ := (rfl)
@[simp] theorem fDrop_e (x : ME Dt) : fDrop x s ρ = (fOut x fun _ s ρ => some (.nx s ρ)) s ρ := (rfl)
@[simp] theorem fNext_at : fNext s ρ = some (.nx s ρ) := (rfl)
@[simp] theorem fCont_at : fCont s ρ = some (.ct s ρ) := (rfl)
@[simp] theorem fBreak_at : fBreak s ρ = some (.bk s ρ) := (rfl)
@[simp] theorem fPar_e (is : List Nat) (t : ME (List Dt)) : fPar is t s ρ = (fOut t fun ds s ρ => match setAll is ds s with
  | some s1 => some (.nx s1 ρ)
  | none => none) s ρ := (rfl)
@[simp] theorem setAll_n : setAll [] [] s = some s := (rfl)
@[simp] theorem setAll_c (i : Nat) (is : List Nat) (d : Dt) (ds : List Dt) : setAll (i :: is) (d :: ds) s = setAll is ds (s.set i (some (.d d))) := (rfl)
@[simp] theorem fCall_at (F : Fn) (t : ME (List Dt)) : fCall F t s ρ = (bnd t fun ds s ρ => match F ds with
  | none => none
  | some r => some (r, ρ)) s ρ := (rfl)
@[simp] theorem fIsi_e (n : String) (x : ME Dt) : fIsi n x s ρ = (bnd x fun u => lft (kitO n u)) s ρ := (rfl)
@[simp] theorem fIsiTL_e (x : ME Dt) : fIsiTL x s ρ = (bnd x fun u => ret (.bool (kTL u))) s ρ := (rfl)
@[simp] theorem runF_at (np n : Nat) (ds : List Dt) : runF np n b ds = if ds.length = np then outF (b (argS n ds) none) else none := (rfl)
@[simp] theorem outF_rt (d : Dt) : outF (some (.rt d ρ)) = some (.ok d) := (rfl)
@[simp] theorem outF_nx : outF (some (.nx s ρ)) = some (.ok .none) := (rfl)
@[simp] theorem argS_e (n : Nat) (ds : List Dt) : argS n ds = ds.map (fun d => some (Wv.d d)) ++ List.replicate (n - ds.length) none := (rfl)
@[simp] theorem oI_i (f : Int → Int → Int) (i j : Int) : oI f (.int i) (.int j) = some (.int (f i j)) := (rfl)
@[simp] theorem oB_i (f : Int → Int → Bool) (i j : Int) : oB f (.int i) (.int j) = some (.bool (f i j)) := (rfl)
theorem oMul_i {i j : Int} (h : -1000000000000 ≤ i ∧ i ≤ 1000000000000 ∨ -1000000000000 ≤ j ∧ j ≤ 1000000000000) : oIC cMul (fun i j => i * j) (.int i) (.int j) = some (.int (i * j)) := by
  show (if cMul i j = true then _ else _) = _
  rw [if_pos]
  unfold cMul
  simpa using h
theorem oMod_i {i j : Int} (h : 0 < j) : oIC cPos (fun i j => i % j) (.int i) (.int j) = some (.int (i % j)) := if_pos (decide_eq_true h)
theorem oDiv_i {i j : Int} (h : 0 < j ∧ j < 1073741824) : oIC cDiv (fun i j => i / j) (.int i) (.int j) = some (.int (i / j)) := if_pos (decide_eq_true h)
theorem atI_in {α : Type} {xs : List α} {i : Int} {v : α} (h0 : 0 ≤ i) (h : xs[i.toNat]? = some v) : atI xs i = some v := at_nn h0 h
@[simp] theorem atI_0 {α : Type} (x : α) (xs : List α) : atI (x :: xs) 0 = some x := atI_in (by decide) rfl
@[simp] theorem atI_1 {α : Type} (x y : α) (xs : List α) : atI (x :: y :: xs) 1 = some y := atI_in (by decide) rfl
@[simp] theorem atI_2 {α : Type} (x y z : α) (xs : List α) : atI (x :: y :: z :: xs) 2 = some z := atI_in (by decide) rfl
@[simp] theorem atI_3 {α : Type} (x y z u : α) (xs : List α) : atI (x :: y :: z :: u :: xs) 3 = some u := atI_in (by decide) rfl
@[simp] theorem oIxT_e (ds : List Dt) (i : Int) : oIxT (.tuple ds) (.int i) = atI ds i := (rfl)
@[simp] theorem oIxL_e (ds : List Dt) (i : Int) : oIxL (.list ds) (.int i) = atI ds i := (rfl)
@[simp] theorem oLen_t (ds : List Dt) : oLen [.tuple ds] = some (.int ds.length) := (rfl)
@[simp] theorem oLen_l (ds : List Dt) : oLen [.list ds] = some (.int ds.length) := (rfl)
@[simp] theorem oTup_l (ds : List Dt) : oTup [.list ds] = some (.tuple ds) := (rfl)
@[simp] theorem oTup_t (ds : List Dt) : oTup [.tuple ds] = some (.tuple ds) := (rfl)
@[simp] theorem oInt_i (i : Int) : oInt [.int i] = some (.int i) := (rfl)
@[simp] theorem oInt_b (b : Bool) : oInt [.bool b] = some (.int (if b then 1 else 0)) := (rfl)
@[simp] theorem oIsN_e (x : Dt) : oIsN x .none = some (.bool (isNo x)) := (rfl)
@[simp] theorem oNotN_e (x : Dt) : oNotN x .none = some (.bool (!isNo x)) := (rfl)
theorem oEq_e {x y : Dt} (h : (SeqAt.shaped x && SeqAt.shaped y) = true) : oEq x y = some (.bool (PyData.eqv x y)) := if_pos h
theorem oNe_e {x y : Dt} (h : (SeqAt.shaped x && SeqAt.shaped y) = true) : oNe x y = some (.bool (!PyData.eqv x y)) := if_pos h
@[simp] theorem oEq_i (i j : Int) : oEq (.int i) (.int j) = some (.bool (decide (i = j))) := (oEq_e rfl).trans (by rw [eqv_int])
@[simp] theorem oNe_i (i j : Int) : oNe (.int i) (.int j) = some (.bool (!decide (i = j))) := (oNe_e rfl).trans (by rw [eqv_int])
@[simp] theorem fStar_e (x : ME Dt) (t : ME (List Dt)) : fStar x t s ρ = (bnd x fun u => match seqD u with
  | some ds => bnd t fun us => ret (ds ++ us)
  | none => lft none) s ρ := (rfl)
@[simp] theorem fOwn_e (i : Nat) (x : ME (List Dt)) : fOwn i x s ρ = (fOut x fun ds s ρ => some (.nx (s.set i (some (.o (.l ds)))) ρ)) s ρ := (rfl)
@[simp] theorem fFz_at (i : Nat) : fFz i b s ρ = match s[i]? with
  | some (some (.o (.l xs))) => b (s.set i (some (.d (.list xs)))) ρ
  | some (some (.o (.ll xss))) => b (s.set i (some (.d (.list (xss.map .list))))) ρ
  | some (some (.d _)) => b s ρ
  | _ => none := (rfl)
theorem few_e {ds : List Dt} (h : ds.length ≤ 100000) : few ds = some ds := if_pos h
theorem oCat_e {x y : List Dt} (h : x.length + y.length ≤ 100000) : oCat (.list x) (.list y) = some (x ++ y) := few_e (by rw [List.length_append]; exact h)
theorem oCatT_e {x y : List Dt} (h : x.length + y.length ≤ 100000) : oCatT (.tuple x) (.tuple y) = some (.tuple (x ++ y)) := if_pos h
theorem oRep_e {x : List Dt} {k : Int} (h : -1000 ≤ k ∧ k ≤ 1000 ∧ x.length ≤ 100) : oRep (.list x) (.int k) = some (List.replicate k.toNat x).flatten := if_pos h
theorem oRng1_e {j : Int} (h : -1000000 ≤ j ∧ j ≤ 1000000) : oRng1 [.int j] = some (upto 0 j.toNat) := if_pos h
@[simp] theorem lcGo_nil (tg : FG) (t : ME Bool) (e : ME Dt) : lcGo tg t e s [] ρ = some ([], ρ) := (rfl)
/-- a comprehension that draws nothing -/
theorem lcGo_to {tg : FG} {t : ME Bool} {e : ME Dt} (p : Dt → Bool) (q : Dt → Dt) : ∀ {ds : List Dt}, (∀ d ∈ ds, ∃ s1, tg d s = some s1 ∧ t s1 ρ = some (.ok (p d), ρ) ∧ (p d = true → e s1 ρ = some (.ok (q d), ρ))) → lcGo tg t e s ds ρ = some ((ds.filter p).map q, ρ)
  | [], _ => rfl
  | d :: ds, h => by
    obtain ⟨s1, h1, h2, h3⟩ := h d List.mem_cons_self
    have ih := lcGo_to p q (ds := ds) fun d hd => h d (List.mem_cons_of_mem _ hd)
    unfold lcGo
    rw [h1]
    simp only [h2]
    cases hp : p d with
    | true => simp only [h3 hp, ih, List.filter_cons, hp, if_true, List.map_cons]
    | false => simp only [ih, List.filter_cons, hp]; rfl
theorem lcGo_map {tg : FG} {e : ME Dt} (q : Dt → Dt) {ds : List Dt} (h : ∀ d ∈ ds, ∃ s1, tg d s = some s1 ∧ e s1 ρ = some (.ok (q d), ρ)) : lcGo tg (ret true) e s ds ρ = some (ds.map q, ρ) := by
  have := lcGo_to (t := ret true) (s := s) (ρ := ρ) (tg := tg) (e := e) (fun _ => true) q (ds := ds) fun d hd => by
    obtain ⟨s1, h1, h2⟩ := h d hd
    exact ⟨s1, h1, rfl, fun _ => h2⟩
  rw [this, List.filter_eq_self.mpr fun _ _ => rfl]
theorem fLc_to {i : ME (List Dt)} {tg : FG} {t : ME Bool} {e : ME Dt} {vs : List Nat} {ds xs : List Dt} {ρ2 : Ro} (h : i s ρ = some (.ok ds, ρ1)) (hl : ds.length ≤ 50000) (h2 : lcGo tg t e (wipeS s vs) ds ρ1 = some (xs, ρ2)) : fLc i tg t e vs s ρ = some (.ok xs, ρ2) := by
  unfold fLc
  rw [bnd_to h, if_pos hl, h2]
end
end Sb

/-! Seamboard: numbers, boards, parities (mathematics). -/
namespace Sb
open PySem PySem.Spec PyProof.Rows L2
def isI : Dt → Bool
  | .int _ => true
  | _ => false
def kI : Dt → Bool
  | .int _ => true
  | .bool _ => true
  | _ => false
def kB : Dt → Bool
  | .bool _ => true
  | _ => false
def kT : Dt → Bool
  | .tuple _ => true
  | _ => false
theorem kit_I : ∀ x : Dt, kitB (tyN x) "int" = some (kI x)
  | .none => (by decide +kernel : kitB "NoneType" "int" = some false)
  | .bool _ => (by decide +kernel : kitB "bool" "int" = some true)
  | .int _ => (by decide +kernel : kitB "int" "int" = some true)
  | .str _ => (by decide +kernel : kitB "str" "int" = some false)
  | .list _ => (by decide +kernel : kitB "list" "int" = some false)
  | .tuple _ => (by decide +kernel : kitB "tuple" "int" = some false)
  | .dict _ => (by decide +kernel : kitB "dict" "int" = some false)
theorem kit_B : ∀ x : Dt, kitB (tyN x) "bool" = some (kB x)
  | .none => (by decide +kernel : kitB "NoneType" "bool" = some false)
  | .bool _ => (by decide +kernel : kitB "bool" "bool" = some true)
  | .int _ => (by decide +kernel : kitB "int" "bool" = some false)
  | .str _ => (by decide +kernel : kitB "str" "bool" = some false)
  | .list _ => (by decide +kernel : kitB "list" "bool" = some false)
  | .tuple _ => (by decide +kernel : kitB "tuple" "bool" = some false)
  | .dict _ => (by decide +kernel : kitB "dict" "bool" = some false)
theorem kit_T : ∀ x : Dt, kitB (tyN x) "tuple" = some (kT x)
  | .none => (by decide +kernel : kitB "NoneType" "tuple" = some false)
  | .bool _ => (by decide +kernel : kitB "bool" "tuple" = some false)
  | .int _ => (by decide +kernel : kitB "int" "tuple" = some false)
  | .str _ => (by decide +kernel : kitB "str" "tuple" = some false)
  | .list _ => (by decide +kernel : kitB "list" "tuple" = some false)
  | .tuple _ => (by decide +kernel : kitB "tuple" "tuple" = some true)
  | .dict _ => (by decide +kernel : kitB "dict" "tuple" = some false)
def sideB : Dt → Bool
  | .int i => decide (2 ≤ i) && decide (i ≤ 5)
  | _ => false
/-! ### rising -/
def Rise (n : Int) (l : List Int) : Prop := l.Pairwise (· < ·) ∧ ∀ x ∈ l, 0 ≤ x ∧ x < n
theorem rise_sel (n : Nat) (f : Nat → Bool) : Rise (n : Int) (sel n f) := ⟨sel_rise n f, fun x hx => by
  obtain ⟨k, rfl, h, _⟩ := mem_sel.mp hx
  omega⟩
def low (l : List Int) : Nat → Int
  | 0 => 0
  | i + 1 => l.getD i 0 + 1
def rightI (c s : Int) : Int := s - s % c + (s + 1) % c
def belowI (r c s : Int) : Int := (s + c) % (r * c)
def endB (r c e : Int) : Int := if e % 2 = 1 then belowI r c (e / 2) else rightI c (e / 2)
def crA (r c e : Int) : Bool := !(decide (e % 2 = 1)) && decide (e / 2 % c = c - 1)
def crB (r c e : Int) : Bool := decide (e % 2 = 1) && decide (e / 2 / c = r - 1)
def cnt (n : Nat) (l : List Int) : List Int := (List.range n).map fun (k : Nat) => ((l.count (k : Int) : Nat) : Int)
def pOdd : Dt → Bool
  | .tuple [_, .int c] => decide (c % 2 = 1)
  | _ => false
def qFst : Dt → Dt
  | .tuple [a, _] => a
  | _ => .none
def endsL (r c : Int) (l : List Int) : List Int := l.flatMap fun e => [e / 2, endB r c e]
def litF (r c : Int) (l : List Int) (k : Nat) : Bool := decide ((endsL r c l).count (k : Int) % 2 = 1)
def Brd (r c : Nat) : Prop := 2 ≤ r ∧ r ≤ 5 ∧ 2 ≤ c ∧ c ≤ 5
def cp (k : Int) (l : List Int) : Bool := decide (l.count k % 2 = 1)
end Sb

/-! Seamboard: the boards' functions. -/
namespace Sb
open PySem PySem.Spec PyProof.Rows L2
theorem v_is_whole (x : Dt) : F_is_whole [x] = some (.ok (.bool (isI x))) := by
  cases x <;> simp [F_is_whole, f_is_whole, kitO, kit_I, kit_B, kI, kB, isI]
theorem v_is_side (x : Dt) : F_is_side [x] = some (.ok (.bool (sideB x))) := by
  cases x <;> simp [F_is_side, f_is_side, v_is_whole, isI, sideB]
  rename_i i
  by_cases h : 2 ≤ i <;> simp [h]
theorem v_require_board {r c : Nat} (hB : Brd r c) : F_require_board [bd r c] = some (.ok .none) := by
  obtain ⟨h1, h2, h3, h4⟩ := hB
  have e1 : decide ((2 : Int) ≤ (r : Int)) = true := decide_eq_true (by omega)
  have e2 : decide ((r : Int) ≤ 5) = true := decide_eq_true (by omega)
  have e3 : decide ((2 : Int) ≤ (c : Int)) = true := decide_eq_true (by omega)
  have e4 : decide ((c : Int) ≤ 5) = true := decide_eq_true (by omega)
  simp only [F_require_board, f_require_board, kitO, kit_T, kT, v_is_side, sideB, e1, e2, e3, e4] 
  simp [kitO, kit_T, kT, v_is_side, sideB, e1, e2, e3, e4]
theorem v_site_count {r c : Nat} (hB : Brd r c) : F_site_count [bd r c] = some (.ok (.int (r * c))) := by
  obtain ⟨h1, h2, h3, h4⟩ := hB
  simp [F_site_count, f_site_count, oMul_i (i := (r : Int)) (j := c) (by omega)]
theorem v_first_misplaced {l : List Int} {n : Int} (h : Rise n l) : F_first_misplaced [ti l, .int n] = some (.ok .none) := by
  have key : ∀ (l2 : List Int) (k : Nat) (lo : Int) (x3 x4 : Option Wv), (∀ x ∈ l2, lo ≤ x) → l2.Pairwise (· < ·) → (∀ x ∈ l2, x < n) →
      ∃ s2, forGo (fgTup 2 (fgCons (fgName 3) (fgCons (fgName 4) fgNil))) (fSeq (fIfS (fOr (fNot (fB (fCall F_is_whole (fCons (fVar 4) fNil)))) (fOr (fB (fOp oLt (fVar 4) (fVar 2))) (fB (fOp oGe (fVar 4) (fVar 1)))))
        (fRet (fVar 3)) fNext) (fAsg (fOp oAdd (fVar 4) (ret (.int 1))) (fgName 2))) (pairsFrom k (l2.map .int)) [some (.d (ti l)), some (.d (.int n)), some (.d (.int lo)), x3, x4] none = some (.nx s2 none) := by
    intro l2
    induction l2 with
    | nil => intro k lo x3 x4 _ _ _; exact ⟨_, rfl⟩
    | cons x l2 ih =>
      intro k lo x3 x4 h1 h2 h3
      have hx := h1 x List.mem_cons_self
      have hn := h3 x List.mem_cons_self
      obtain ⟨hp, h2'⟩ := List.pairwise_cons.mp h2
      obtain ⟨s2, hs⟩ := ih (k + 1) (x + 1) (some (.d (.int k))) (some (.d (.int x))) (fun y hy => hp y hy) h2' (fun y hy => h3 y (List.mem_cons_of_mem _ hy))
      refine ⟨s2, ?_⟩
      rw [List.map_cons, pairsFrom, forGo_cons]
      simp [v_is_whole, isI, show ¬ x < lo by omega, show ¬ n ≤ x by omega]
      exact hs
  obtain ⟨s2, hs⟩ := key l 0 0 none none (fun x hx => (h.2 x hx).1) h.1 (fun x hx => (h.2 x hx).2)
  simp [F_first_misplaced, f_first_misplaced, kitO, kit_T, kT]
  simp [hs]
theorem rise_s {r c : Nat} (f : Nat → Bool) : Rise ((r : Int) * c) (sel (r * c) f) := by
  have := rise_sel (r * c) f
  simpa using this
theorem v_require_lit {r c : Nat} (hB : Brd r c) (f : Nat → Bool) : F_require_lit [bd r c, ti (sel (r * c) f)] = some (.ok .none) := by
  simp [F_require_lit, f_require_lit, v_site_count hB, v_first_misplaced (rise_s f), isNo]
end Sb

/-! Seamboard: counting; checks, seams, after, turned. -/
namespace Sb
open PySem PySem.Spec PyProof.Rows L2
end Sb

/-! Seamboard: parities of chosen sets; what faces flip (mathematics). -/
namespace Sb
open PySem PySem.Spec PyProof.Rows L2
theorem srt_lt {l : List Int} (h : l.Nodup) : (srt l).Pairwise (· < ·) := by
  have h1 := srt_sorted l
  have h2 : (srt l).Nodup := (srt_perm l).nodup_iff.mpr h
  exact h1.imp₂ (fun a b hab hne => Int.lt_iff_le_and_ne.mpr ⟨hab, hne⟩) h2
theorem hasI_mem {i : Int} {l : List Int} : hasI i l = true ↔ i ∈ l := ⟨fun h => List.mem_of_elem_eq_true h, fun h => List.elem_eq_true_of_mem h⟩
/-- the rest by 2 of how many numbers below n are taken -/
def px : Nat → (Nat → Bool) → Bool
  | 0, _ => false
  | n + 1, h => px n h ^^ h n
theorem px_congr : ∀ {n : Nat} {f g : Nat → Bool}, (∀ k, k < n → f k = g k) → px n f = px n g
  | 0, _, _, _ => rfl
  | n + 1, f, g, h => by
    show (px n f ^^ f n) = (px n g ^^ g n)
    rw [px_congr fun k hk => h k (by omega), h n (by omega)]
theorem px_xor : ∀ (n : Nat) (f g : Nat → Bool), px n (fun k => f k ^^ g k) = (px n f ^^ px n g)
  | 0, _, _ => rfl
  | n + 1, f, g => by
    show (px n (fun k => f k ^^ g k) ^^ (f n ^^ g n)) = ((px n f ^^ f n) ^^ (px n g ^^ g n))
    rw [px_xor n f g]
    cases px n f <;> cases px n g <;> cases f n <;> cases g n <;> rfl
theorem px_ff : ∀ n : Nat, px n (fun _ => false) = false
  | 0 => rfl
  | n + 1 => by
    show (px n (fun _ => false) ^^ false) = false
    rw [px_ff n]; rfl
theorem px_one : ∀ {n e : Nat} (h : Nat → Bool), e < n → px n (fun k => decide (k = e) && h k) = h e
  | n + 1, e, h, he => by
    show (px n (fun k => decide (k = e) && h k) ^^ (decide (n = e) && h n)) = h e
    by_cases q : n = e
    · subst q
      have : px n (fun k => decide (k = n) && h k) = false := by
        rw [px_congr (g := fun _ => false) fun k hk => by rw [decide_eq_false (by omega)]; rfl, px_ff]
      rw [this]; simp
    · rw [px_one h (by omega), decide_eq_false q]; simp
def bi (b : Bool) : Int := if b then 1 else 0
/-! ### lit sites, seams -/
def uu (r c : Nat) (e k : Nat) : Bool := decide (((e : Nat) : Int) / 2 = (k : Int)) ^^ decide (endB r c (e : Int) = (k : Int))
def lit (r c : Nat) (f : Nat → Bool) (k : Nat) : Bool := px (2 * (r * c)) fun e => f e && uu r c e k
def sA (r c : Nat) (f : Nat → Bool) : Bool := px (2 * (r * c)) fun e => f e && crA r c (e : Int)
def sB (r c : Nat) (f : Nat → Bool) : Bool := px (2 * (r * c)) fun e => f e && crB r c (e : Int)
theorem and_xor (a b c : Bool) : ((a ^^ b) && c) = ((a && c) ^^ (b && c)) := by cases a <;> cases b <;> cases c <;> rfl
theorem lit_xor (r c : Nat) (f g : Nat → Bool) (k : Nat) : lit r c (fun e => f e ^^ g e) k = (lit r c f k ^^ lit r c g k) := by
  unfold lit
  rw [← px_xor]
  exact px_congr fun e _ => and_xor _ _ _
theorem sA_xor (r c : Nat) (f g : Nat → Bool) : sA r c (fun e => f e ^^ g e) = (sA r c f ^^ sA r c g) := by
  unfold sA
  rw [← px_xor]
  exact px_congr fun e _ => and_xor _ _ _
theorem sB_xor (r c : Nat) (f g : Nat → Bool) : sB r c (fun e => f e ^^ g e) = (sB r c f ^^ sB r c g) := by
  unfold sB
  rw [← px_xor]
  exact px_congr fun e _ => and_xor _ _ _
/-! ### the ends of an edge lie on the board, apart -/
/-! the sixteen boards, one by one -/
def brds : List (Nat × Nat) := [(2, 2), (2, 3), (2, 4), (2, 5), (3, 2), (3, 3), (3, 4), (3, 5), (4, 2), (4, 3), (4, 4), (4, 5), (5, 2), (5, 3), (5, 4), (5, 5)]
theorem brd_mem {r c : Nat} (h : Brd r c) : (r, c) ∈ brds := by
  obtain ⟨h1, h2, h3, h4⟩ := h
  have a : r = 2 ∨ r = 3 ∨ r = 4 ∨ r = 5 := by omega
  have b : c = 2 ∨ c = 3 ∨ c = 4 ∨ c = 5 := by omega
  rcases a with rfl | rfl | rfl | rfl <;> rcases b with rfl | rfl | rfl | rfl <;> decide
def rnd (r c f : Int) : List Int := [2 * f, 2 * f + 1, 2 * belowI r c f, 2 * rightI c f + 1]
/-! ### faces: what turning does, over all boards -/
def rightN (c s : Nat) : Nat := s - s % c + (s + 1) % c
def belowN (r c s : Nat) : Nat := (s + c) % (r * c)
def endN (r c e : Nat) : Nat := if e % 2 = 1 then belowN r c (e / 2) else rightN c (e / 2)
theorem right_nat (c s : Nat) : rightI c s = (rightN c s : Nat) := by
  unfold rightI rightN
  have h := Nat.mod_le s c
  rw [Int.natCast_add, Int.natCast_sub h, Int.natCast_emod, Int.natCast_emod]
  rfl
theorem below_nat (r c s : Nat) : belowI r c s = (belowN r c s : Nat) := by
  unfold belowI belowN
  rw [Int.natCast_emod, Int.natCast_mul]
  rfl
theorem end_nat (r c e : Nat) : endB r c (e : Int) = (endN r c e : Nat) := by
  have h2 : ((e : Nat) : Int) / 2 = ((e / 2 : Nat) : Int) := (Int.natCast_ediv e 2).symm
  unfold endB endN
  by_cases h : e % 2 = 1
  · rw [if_pos (by omega), if_pos h, h2, below_nat]
  · rw [if_neg (by omega), if_neg h, h2, right_nat]
def crAN (c e : Nat) : Bool := !decide (e % 2 = 1) && decide (e / 2 % c = c - 1)
def crBN (r c e : Nat) : Bool := decide (e % 2 = 1) && decide (e / 2 / c = r - 1)
theorem crA_nat {r c e : Nat} (hc : 2 ≤ c) : crA r c (e : Int) = crAN c e := by
  unfold crA crAN
  have e1 : decide ((e : Int) % 2 = 1) = decide (e % 2 = 1) := decide_eq_decide.mpr (by omega)
  have h2 : ((e : Nat) : Int) / 2 % (c : Int) = ((e / 2 % c : Nat) : Int) := by rw [Int.natCast_emod, Int.natCast_ediv]; rfl
  rw [e1, h2]
  congr 1
  exact decide_eq_decide.mpr (by omega)
theorem crB_nat {r c e : Nat} (hr : 2 ≤ r) : crB r c (e : Int) = crBN r c e := by
  unfold crB crBN
  have e1 : decide ((e : Int) % 2 = 1) = decide (e % 2 = 1) := decide_eq_decide.mpr (by omega)
  have h2 : ((e : Nat) : Int) / 2 / (c : Int) = ((e / 2 / c : Nat) : Int) := by rw [Int.natCast_ediv, Int.natCast_ediv]; rfl
  rw [e1, h2]
  congr 1
  exact decide_eq_decide.mpr (by omega)
theorem uu_nat (r c e k : Nat) : uu r c e k = (decide (k = e / 2) ^^ decide (k = endN r c e)) := by
  unfold uu
  rw [end_nat]
  congr 1
  · exact decide_eq_decide.mpr (by omega)
  · exact decide_eq_decide.mpr (by omega)
/-- face p has the edge e round it (an odd count of times) -/
def fb (r c p e : Nat) : Bool := decide (e = 2 * p) ^^ (decide (e = 2 * p + 1) ^^ (decide (e = 2 * belowN r c p) ^^ decide (e = 2 * rightN c p + 1)))
/-- what is flipped by turning the faces F -/
def tr (r c : Nat) (F : Nat → Bool) (e : Nat) : Bool := px (r * c) fun p => F p && fb r c p e
/-! small facts over the sixteen boards, by trying -/
def upN (r c s : Nat) : Nat := if s < c then s + r * c - c else s - c
def leftN (c s : Nat) : Nat := if s % c = 0 then s + c - 1 else s - 1
def chkFace : Bool := brds.all fun (r, c) => (List.range (r * c)).all fun p =>
  decide (belowN r c p < r * c) && decide (rightN c p < r * c) && decide (upN r c p < r * c) && decide (leftN c p < r * c) &&
  (!(crAN c (2 * p) ^^ (crAN c (2 * p + 1) ^^ (crAN c (2 * belowN r c p) ^^ crAN c (2 * rightN c p + 1))))) &&
  (!(crBN r c (2 * p) ^^ (crBN r c (2 * p + 1) ^^ (crBN r c (2 * belowN r c p) ^^ crBN r c (2 * rightN c p + 1))))) &&
  (List.range (r * c)).all fun s =>
    (!((decide (s = p) ^^ decide (s = endN r c (2 * p))) ^^ ((decide (s = p) ^^ decide (s = endN r c (2 * p + 1))) ^^ ((decide (s = belowN r c p) ^^ decide (s = endN r c (2 * belowN r c p))) ^^ (decide (s = rightN c p) ^^ decide (s = endN r c (2 * rightN c p + 1))))))) &&
    (fb r c p (2 * s) == (decide (p = s) ^^ decide (p = upN r c s))) && (fb r c p (2 * s + 1) == (decide (p = s) ^^ decide (p = leftN c s)))
structure FaceOk (r c p : Nat) : Prop where
  b : belowN r c p < r * c
  ri : rightN c p < r * c
  u : upN r c p < r * c
  l : leftN c p < r * c
  a1 : (crAN c (2 * p) ^^ (crAN c (2 * p + 1) ^^ (crAN c (2 * belowN r c p) ^^ crAN c (2 * rightN c p + 1)))) = false
  b1 : (crBN r c (2 * p) ^^ (crBN r c (2 * p + 1) ^^ (crBN r c (2 * belowN r c p) ^^ crBN r c (2 * rightN c p + 1)))) = false
  lit : ∀ s, s < r * c → (uu r c (2 * p) s ^^ (uu r c (2 * p + 1) s ^^ (uu r c (2 * belowN r c p) s ^^ uu r c (2 * rightN c p + 1) s))) = false
  ev : ∀ s, s < r * c → fb r c p (2 * s) = (decide (p = s) ^^ decide (p = upN r c s))
  od : ∀ s, s < r * c → fb r c p (2 * s + 1) = (decide (p = s) ^^ decide (p = leftN c s))
def fwS (c : Nat) (a : Nat → Bool) (n : Nat) (t : List Bool) : Bool := if n = 0 then false else if n % c = 0 then (t.getD (n - c) false ^^ a (2 * n)) else (t.getD (n - 1) false ^^ a (2 * n + 1))
def fwL (c : Nat) (a : Nat → Bool) : Nat → List Bool
  | 0 => []
  | n + 1 => fwL c a n ++ [fwS c a n (fwL c a n)]
def fw (c : Nat) (a : Nat → Bool) (k : Nat) : Bool := fwS c a k (fwL c a k)
def pTrue : Dt → Bool
  | .tuple [_, .bool b] => b
  | _ => false
/-! what is neither lit nor crosses, and is not on the faces' tree, is nothing -/
def tree (c e : Nat) : Bool := if e % 2 = 1 then !decide (e / 2 % c = 0) else decide (e / 2 % c = 0) && decide (c ≤ e / 2)
def Sw (c e s : Nat) : Bool :=
  if e % 2 = 1 then decide (e / 2 / c < s / c)
  else if c ≤ e / 2 then decide (s / c = e / 2 / c) && decide (1 ≤ s % c) && decide (s % c ≤ e / 2 % c)
  else (decide (1 ≤ s / c) && decide (1 ≤ s % c)) || (decide (s / c = 0) && decide (e / 2 % c < s % c))
def wA (c e : Nat) : Bool := !decide (e % 2 = 1) && decide (e / 2 < c)
def wB (e : Nat) : Bool := decide (e % 2 = 1)
def chkTree : Bool := brds.all fun (r, c) => (List.range (2 * (r * c))).all fun e => tree c e || (List.range (2 * (r * c))).all fun x => tree c x ||
  (decide (x = e) == (Sw c e (x / 2) ^^ Sw c e (endN r c x) ^^ (wA c e && crAN c x) ^^ (wB e && crBN r c x)))
variable {P : Program} {w : World} {K : PySem.W.Frag} {mg : Str → Option Value} {base : Heap}
def othI (r c e : Int) : Int := if e % 2 = 0 then e / 2 / c * c + (if e / 2 % c = c - 1 then 0 else e / 2 % c + 1) else (if e / 2 / c = r - 1 then 0 else e / 2 / c + 1) * c + e / 2 % c
def chkOth : Bool := brds.all fun (r, c) => (List.range (2 * (r * c))).all fun e => decide (othI (r : Int) (c : Int) (e : Int) = endB (r : Int) (c : Int) (e : Int))
end Sb

/-! Seamboard: checks, seams, after, turned. -/
namespace Sb
open PySem PySem.Spec PyProof.Rows L2
theorem rc25 {r c : Nat} (hB : Brd r c) : r * c ≤ 25 := Nat.mul_le_mul hB.2.1 hB.2.2.2
end Sb

/-! Seamboard: what is drawn. -/
namespace Sb
open PySem PySem.Spec PyProof.Rows L2
@[simp] theorem runW_at (np n : Nat) (b : MS) (x : Rw) (ds : List Dt) : runW np n b x ds = if ds.length + 1 = np then outW (b (some .row :: argS (n - 1) ds) (some x)) else none := rfl
@[simp] theorem outW_rt (d : Dt) (x : Rw) : outW (some (.rt d (some x))) = some (.ok d, x) := rfl
@[simp] theorem outW_nx (s : Ss) (x : Rw) : outW (some (.nx s (some x))) = some (.ok .none, x) := rfl
@[simp] theorem fCallR_at {s : Ss} {ρ : Ro} (F : Fr) (i : Nat) (t : ME (List Dt)) : fCallR F i t s ρ = match s[i]? with
  | some (some .row) => bnd t (fun ds s ρ => match ρ with
    | none => none
    | some x => match F x ds with
      | none => none
      | some (r, x') => some (r, some x')) s ρ
  | _ => none := rfl
theorem oPow_i {i j : Int} {f : Int → Int → Int} (h : cPow i j = true) : oIC cPow f (.int i) (.int j) = some (.int (f i j)) := if_pos h
theorem d_taken {x : Rw} (hx : 0 ≤ x.i) {m : Int} (h : 0 < m ∧ m < 1073741824) : ∃ (k : Nat) (x' : Rw), F__law_taken x [.int m] = some (.ok (.int k), x') ∧ (k : Int) < m ∧ 0 ≤ x'.i := by
  obtain ⟨ns, i, s0, r⟩ := x
  simp only [] at hx
  have fin : ∀ y : Int, ∃ k : Nat, y % m = k ∧ (k : Int) < m := fun y => by
    have a := Int.emod_nonneg y (show m ≠ 0 by omega)
    have b := Int.emod_lt_of_pos y h.1
    exact ⟨(y % m).toNat, by omega, by omega⟩
  by_cases h1 : 0 < r
  · obtain ⟨k, e, hk⟩ := fin r
    refine ⟨k, ⟨ns, i, s0, r / m⟩, ?_, hk, hx⟩
    simp [F__law_taken, f__law_taken, fRowI, Rw.at_, Rw.put, fRowSet, h1, oMod_i h.1, oDiv_i h, e]
  · by_cases h2 : (ns.length : Int) < i + 1
    · obtain ⟨k, e, hk⟩ := fin ((s0 * 48271 + 11) % 2147483647 / 7)
      refine ⟨k, ⟨ns, i + 1, (s0 * 48271 + 11) % 2147483647, r⟩, ?_, hk, by show 0 ≤ i + 1; omega⟩
      simp [F__law_taken, f__law_taken, fRowI, Rw.at_, Rw.put, fRowSet, fRowLen, h1, h2, oMod_i h.1, oMod_i, oDiv_i, oMul_i, e]
    · obtain ⟨n, hn⟩ : ∃ n, ns[i.toNat]? = some n := ⟨ns[i.toNat]'(by omega), List.getElem?_eq_getElem _⟩
      have hat : atI ns i = some n := atI_in hx hn
      obtain ⟨k, e, hk⟩ := fin n
      have hp : oIC cPow (fun i j => i ^ j.toNat) (.int 10) (.int 18) = some (.int 1000000000000000000) := oPow_i (by decide)
      by_cases h3 : (1000000000000000000 : Int) ≤ n
      · refine ⟨k, ⟨ns, i + 1, (s0 * 48271 + n + 11) % 2147483647, n / m⟩, ?_, hk, by show 0 ≤ i + 1; omega⟩
        simp [F__law_taken, f__law_taken, fRowI, Rw.at_, Rw.put, fRowSet, fRowLen, fRowAt, h1, h2, hat, hp, h3, oMod_i h.1, oMod_i, oDiv_i h, oMul_i, e]
      · refine ⟨k, ⟨ns, i + 1, (s0 * 48271 + n + 11) % 2147483647, r⟩, ?_, hk, by show 0 ≤ i + 1; omega⟩
        simp [F__law_taken, f__law_taken, fRowI, Rw.at_, Rw.put, fRowSet, fRowLen, fRowAt, h1, h2, hat, hp, h3, oMod_i h.1, oMod_i, oMul_i, e]
theorem d_board {x : Rw} (hx : 0 ≤ x.i) {m : Int} (h : 2 ≤ m ∧ m ≤ 5) : ∃ (r c : Nat) (x' : Rw), F__law_board x [.int m] = some (.ok (bd r c), x') ∧ Brd r c ∧ (r : Int) ≤ m ∧ (c : Int) ≤ m ∧ 0 ≤ x'.i := by
  obtain ⟨k, x1, e1, hk, hx1⟩ := d_taken hx (m := m - 1) (by omega)
  obtain ⟨j, x2, e2, hj, hx2⟩ := d_taken hx1 (m := m - 1) (by omega)
  refine ⟨2 + k, 2 + j, x2, ?_, ⟨by omega, by omega, by omega, by omega⟩, by omega, by omega, hx2⟩
  simp [F__law_board, f__law_board, e1, e2]
theorem some_loop {n : Nat} {t : Int} (hn : 1 ≤ n ∧ n ≤ 50) : ∀ (ds : List Dt) (l : List Int) (x : Rw) (x4 x5 : Option Wv), 0 ≤ x.i → l.Nodup → (∀ y ∈ l, 0 ≤ y ∧ y < (n : Int)) → l.length + ds.length ≤ 1000 →
    ∃ (l' : List Int) (x' : Rw) (y4 y5 : Option Wv), forGo (fgName 4) (fSeq (fAsg (fCallR F__law_taken 0 (fCons (fVar 1) fNil)) (fgName 5))
      (fAsg (fN (fOpN oCat (fVar 3) (fN (fOpN oRep (fN (fLst (fCons (fVar 5) fNil))) (fCB oInt (fCons (fOp oNi (fVar 5) (fVar 3)) fNil)))))) (fgName 3))) ds [some .row, some (.d (.int n)), some (.d (.int t)), some (.d (li l)), x4, x5] (some x) =
      some (.nx [some .row, some (.d (.int n)), some (.d (.int t)), some (.d (li l')), y4, y5] (some x')) ∧ l'.Nodup ∧ (∀ y ∈ l', 0 ≤ y ∧ y < (n : Int)) ∧ 0 ≤ x'.i ∧ l'.length ≤ l.length + ds.length
  | [], l, x, x4, x5, hx, h1, h2, h3 => ⟨l, x, x4, x5, rfl, h1, h2, hx, Nat.le_refl _⟩
  | d :: ds, l, x, x4, x5, hx, h1, h2, h3 => by
    obtain ⟨k, x1, e1, hk, hx1⟩ := d_taken hx (m := n) (by omega)
    rw [List.length_cons] at h3
    have hfl : (flatD (.int k) && (l.map PyData.int).all flatD) = true := by
      rw [Bool.and_eq_true]; exact ⟨rfl, List.all_eq_true.mpr fun z hz => by obtain ⟨_, _, rfl⟩ := List.mem_map.mp hz; rfl⟩
    have hni : oNi (.int k) (li l) = some (.bool (!hasI k l)) := by
      show (if (flatD (.int k) && (l.map PyData.int).all flatD) = true then some (PyData.bool (!inD (.int k) (l.map .int))) else none) = _
      rw [if_pos hfl]
      have : inD (.int k) (l.map PyData.int) = hasI k l := by
        unfold inD hasI
        rw [List.any_map]
        induction l with
        | nil => rfl
        | cons a l ih =>
          rw [List.any_cons, List.contains_cons, ih (List.nodup_cons.mp h1).2 (fun y hy => h2 y (List.mem_cons_of_mem _ hy)) (by rw [List.length_cons] at h3; omega) (by rw [List.map_cons, List.all_cons, Bool.and_eq_true, Bool.and_eq_true] at hfl; rw [Bool.and_eq_true]; exact ⟨rfl, hfl.2.2⟩)]
          congr 1
          show (a == (k : Int)) = ((k : Int) == a)
          exact BEq.comm
      rw [this]
    by_cases hm : (k : Int) ∈ l
    · have hh : hasI k l = true := hasI_mem.mpr hm
      obtain ⟨l', x', y4, y5, g1, g2, g3, g4, g5⟩ := some_loop (t := t) hn ds l x1 (some (.d d)) (some (.d (.int k))) hx1 h1 h2 (by omega)
      refine ⟨l', x', y4, y5, ?_, g2, g3, g4, by rw [List.length_cons]; omega⟩
      have ec := oCat_e (x := l.map PyData.int) (y := []) (by rw [List.length_map]; simp; omega)
      rw [hh] at hni
      rw [forGo_cons]
      simp [e1, hni, few_e, oRep_e (x := [PyData.int k]) (k := 0) ⟨by decide, by decide, by show 1 ≤ 100; decide⟩, ec]
      exact g1
    · have hh : hasI k l = false := by
        cases q : hasI (k : Int) l with
        | false => rfl
        | true => exact absurd (hasI_mem.mp q) hm
      have h1' : (l ++ [(k : Int)]).Nodup := List.nodup_append.mpr ⟨h1, by simp, fun a ha b hb => by rw [List.mem_singleton] at hb; subst hb; exact fun e => hm (e ▸ ha)⟩
      obtain ⟨l', x', y4, y5, g1, g2, g3, g4, g5⟩ := some_loop (t := t) hn ds (l ++ [(k : Int)]) x1 (some (.d d)) (some (.d (.int k))) hx1 h1' (fun y hy => by
        rcases List.mem_append.mp hy with h | h
        · exact h2 y h
        · rw [List.mem_singleton] at h; omega) (by rw [List.length_append]; simp; omega)
      refine ⟨l', x', y4, y5, ?_, g2, g3, g4, by rw [List.length_append] at g5; simp at g5; rw [List.length_cons]; omega⟩
      have ec := oCat_e (x := l.map PyData.int) (y := [.int k]) (by rw [List.length_map]; simp; omega)
      rw [hh] at hni
      rw [forGo_cons]
      simp [e1, hni, few_e, oRep_e (x := [PyData.int k]) (k := 1) ⟨by decide, by decide, by show 1 ≤ 100; decide⟩, ec]
      simp only [li, List.map_append, List.map_cons, List.map_nil] at g1 ⊢
      exact g1
theorem d_some {x : Rw} (hx : 0 ≤ x.i) {n : Nat} {t : Int} (h : 1 ≤ n ∧ n ≤ 50 ∧ 0 ≤ t ∧ t ≤ 50) : ∃ (f : Nat → Bool) (x' : Rw), F__law_some x [.int n, .int t] = some (.ok (ti (sel n f)), x') ∧ 0 ≤ x'.i ∧ ((sel n f).length : Int) ≤ t := by
  obtain ⟨k, x1, e1, hk, hx1⟩ := d_taken hx (m := min (n : Int) t + 1) (by omega)
  obtain ⟨l', x', y4, y5, g1, g2, g3, g4, g5⟩ := some_loop (t := t) ⟨h.1, h.2.1⟩ (upto 0 k) [] x1 none none hx1 List.nodup_nil (fun y hy => nomatch hy) (by rw [upto_len]; simp; omega)
  have er := oRng1_e (j := k) (by omega)
  have e := sel_of (srt_lt g2) (n := n) fun y hy => g3 y ((srt_perm l').mem_iff.mp hy)
  refine ⟨fun k => hasI (k : Int) (srt l'), x', ?_, g4, ?_⟩
  · simp [F__law_some, f__law_some, few_e, oMin2, e1, er]
    rw [show ([] : List Dt) = ([] : List Int).map .int from rfl] 
    rw [g1]
    simp [oSorted, toInts_map]
    exact congrArg (List.map PyData.int) e
  · rw [← e, (srt_perm l').length_eq]
    rw [upto_len] at g5
    simp at g5
    omega

end Sb

/-! Seamboard: the laws' own counting. -/
namespace Sb
open PySem PySem.Spec PyProof.Rows L2
/-- data that can be held against itself, n deep -/
def wfA : Nat → Dt → Bool
  | _, .none => true
  | _, .bool _ => true
  | _, .int _ => true
  | _, .str z => SeqAt.shaped (.str z)
  | n + 1, .list ds => decide (ds.length ≤ 50000) && ds.all (wfA n)
  | n + 1, .tuple ds => decide (ds.length ≤ 50000) && ds.all (wfA n)
  | _, _ => false
theorem eqv_self {x : Dt} (h : SeqAt.shaped x = true) : PyData.eqv x x = true := SeqAt.eqv_refl _ (SeqAt.canLay_of_shaped h)
theorem alike_seq {n : Nat} {ds : List Dt} (x : Dt) (hx : x = .list ds ∨ x = .tuple ds) (hl : ds.length ≤ 50000) (ih : ∀ d ∈ ds, R__law_alike n [d, d] = some (.ok (.bool true))) : R__law_alike (n + 1) [x, x] = some (.ok (.bool true)) := by
  have er := oRng1_e (j := (ds.length : Int)) (by omega)
  rw [Int.toNat_natCast] at er
  have hle : (upto 0 ds.length).length ≤ 50000 := by rw [upto_len]; exact hl
  have key : ∀ (x2 : Option Wv), lcGo (fgName 2) (fNot (fB (fCall (R__law_alike n) (fCons (fOp oIxO (fVar 0) (fVar 2)) (fCons (fOp oIxO (fVar 1) (fVar 2)) fNil))))) (fVar 2) [some (.d x), some (.d x), x2] (upto 0 ds.length) none = some ([], none) := fun x2 => by
    rw [lcGo_to (fun _ => false) (fun d => d)]
    · rw [List.filter_eq_nil_iff.mpr fun _ _ => by decide]; rfl
    · intro d hd
      obtain ⟨k, hk, rfl⟩ := List.mem_map.mp hd
      rw [List.mem_range] at hk
      have hat : atI ds (k : Int) = some ds[k] := atI_in (by omega) (by rw [Int.toNat_natCast, List.getElem?_eq_getElem hk])
      have hx' : oIxO x (.int (k : Int)) = some ds[k] := by rcases hx with rfl | rfl <;> exact hat
      have := ih ds[k] (List.getElem_mem hk)
      refine ⟨_, rfl, ?_, fun h => nomatch h⟩
      simp [hx', this]
  have hT : kTL x = true := by rcases hx with rfl | rfl <;> rfl
  have hL : oLen [x] = some (.int ds.length) := by rcases hx with rfl | rfl <;> rfl
  have e1 : oNe (.bool (kT x)) (.bool (kT x)) = some (.bool false) := by rw [oNe_e rfl, eqv_self rfl]; rfl
  have e2 : oEq (.list []) (.list []) = some (.bool true) := rfl
  simp [R__law_alike, f__law_alike, hT, kitO, kit_T, e1, hL, er, fLc, wipeS, key, hle, few_e, e2]
theorem v_alike : ∀ (n : Nat) (d : Dt), wfA n d = true → R__law_alike (n + 1) [d, d] = some (.ok (.bool true))
  | n, .none, _ => by
    have e : oEq .none .none = some (.bool true) := rfl
    have e2 : oEq (.bool false) (.bool false) = some (.bool true) := rfl
    simp [R__law_alike, f__law_alike, kTL, kitO, kit_B, kB, e, e2]
  | n, .bool b, _ => by
    have e : oEq (.bool b) (.bool b) = some (.bool true) := by rw [oEq_e rfl, eqv_self rfl]
    have e2 : oEq (.bool true) (.bool true) = some (.bool true) := rfl
    simp [R__law_alike, f__law_alike, kTL, kitO, kit_B, kB, e, e2]
  | n, .int i, _ => by
    have e2 : oEq (.bool false) (.bool false) = some (.bool true) := rfl
    simp [R__law_alike, f__law_alike, kTL, kitO, kit_B, kB, e2]
  | n, .str z, h => by
    have hz : SeqAt.shaped (.str z) = true := by cases n <;> exact h
    have e : oEq (.str z) (.str z) = some (.bool true) := by rw [oEq_e (by rw [hz]; rfl), eqv_self hz]
    have e2 : oEq (.bool false) (.bool false) = some (.bool true) := rfl
    simp [R__law_alike, f__law_alike, kTL, kitO, kit_B, kB, e, e2]
  | n + 1, .list ds, h => by
    unfold wfA at h
    rw [Bool.and_eq_true, decide_eq_true_eq, List.all_eq_true] at h
    exact alike_seq _ (.inl rfl) h.1 fun d hd => v_alike n d (h.2 d hd)
  | n + 1, .tuple ds, h => by
    unfold wfA at h
    rw [Bool.and_eq_true, decide_eq_true_eq, List.all_eq_true] at h
    exact alike_seq _ (.inr rfl) h.1 fun d hd => v_alike n d (h.2 d hd)
  | 0, .list ds, h => by cases h
  | 0, .tuple ds, h => by cases h
  | 0, .dict _, h => by cases h
  | n + 1, .dict _, h => by cases h
theorem v_law_alike {d : Dt} (h : wfA 6 d = true) : F__law_alike [d, d] = some (.ok (.bool true)) := v_alike 6 d h
end Sb

/-! Seamboard: drawings written. -/
namespace Sb
open PySem PySem.Spec PyProof.Rows L2
def mk2 (b : Bool) (x y : Str) : Str := if b then y else x
/-! the drawing -/
def acr (r c : Nat) (f : Nat → Bool) (l : Nat) : Nat → Str
  | 0 => ""
  | j + 1 => (acr r c f l j ++ mk2 (lit r c f (l * c + j)) "o" "*") ++ mk2 (f (2 * (l * c + j))) "-" "="
def dwn (c : Nat) (f : Nat → Bool) (l : Nat) (j : Nat) : List Str := (List.range j).map fun i => mk2 (f (2 * (l * c + i) + 1)) "|" "#"
def drs (r c : Nat) (f : Nat → Bool) (l : Nat) : List Str := (List.range l).flatMap fun i => [acr r c f i c, Txt.join " " (dwn c f i c)]
def drw (r c : Nat) (f : Nat → Bool) : Str := Txt.join "\n" (drs r c f r)
/-- all its signs are such -/
def okS (z : Str) : Prop := ∀ x ∈ z.cps.toList, x < 0x110000
theorem shaped_S {z : Str} (h : okS z) : SeqAt.shaped (.str z) = true := by
  show (z.cps.all (fun x => decide (x < 0x110000)) && decide (0 ≤ 64)) = true
  rw [← Array.all_toList, List.all_eq_true.mpr fun x hx => decide_eq_true (h x hx)]; rfl
/-- what a loop has left in a name -/
def was (g : Nat → Dt) : Nat → Option Wv
  | 0 => none
  | i + 1 => some (.d (g i))
/-- the pairs of a row of sites -/
def prs (r c : Nat) (f : Nat → Bool) (l j : Nat) : List Str := (List.range j).map fun i => mk2 (lit r c f (l * c + i)) "o" "*" ++ mk2 (f (2 * (l * c + i))) "-" "="
def oLR (x y : Dt) : Option (List Dt) := match x, y with
  | .int m, .int n => if (0 ≤ m ∧ m ≤ 100000) ∧ 0 ≤ n ∧ n ≤ 100000 then some (rgD m n) else none
  | _, _ => none
@[simp] theorem fListRg2_e {s : Ss} {ρ : Ro} (a b : ME Dt) : fListRg2 a b s ρ = (bnd a fun x => bnd b fun y => lft (oLR x y)) s ρ := (rfl)
/-- the states of the loop of rows -/
def wSt (r c : Nat) (f : Nat → Bool) (l : Nat) : Ss := [some (.d (bd r c)), some (.d (ti (sel (2 * (r * c)) f))), some (.d (ti (sel (r * c) (lit r c f)))), some (.o (.l ((drs r c f l).map .str))), was (fun i => .int i) l, was (fun i => .list (upto ((i : Int) * c) c)) l, none]
@[simp] theorem fM1_e {s : Ss} {ρ : Ro} (o : Str → Dt → Option Dt) (a b : ME Dt) : fM1 o a b s ρ = (bnd a fun x => match x with
  | .str z => bnd b fun y => lft (o z y)
  | _ => lft none) s ρ := (rfl)
end Sb

/-! Seamboard: drawings read. -/
namespace Sb
open PySem PySem.Spec PyProof.Rows L2
/-! signs of the rows -/
def cd (b : Bool) (x y : Nat) : Nat := if b then y else x
/-- the row of the edges down -/
def dnr (c : Nat) (f : Nat → Bool) (l j : Nat) : Str := Txt.join " " (dwn c f l j)
/-! a row is a row -/
@[simp] theorem fItS_e {s : Ss} {ρ : Ro} (x : ME Dt) : fItS x s ρ = (bnd x fun u => lft (match u with
  | .str z => some (z.cps.toList.map fun c => PyData.str (sg c))
  | _ => none)) s ρ := (rfl)
@[simp] theorem fNo_at {s : Ss} {ρ : Ro} : fNo s ρ = some (.ok none, ρ) := (rfl)
@[simp] theorem fSo_e {s : Ss} {ρ : Ro} (x : ME Dt) : fSo x s ρ = (bnd x fun u => lft (match u with
  | .int i => some (some i)
  | _ => none)) s ρ := (rfl)
def oSl3 (z : Str) (lo hi : Option Int) (k : Int) : Option Dt := if 1 < k ∧ (stepS z lo hi k).length ≤ 100000 then some (.str (stepS z lo hi k)) else none
/-! the rows of a drawing -/
/-- the rows as data -/
def rws (r c : Nat) (f : Nat → Bool) : Dt := .list ((drs r c f r).map .str)
end Sb

/-! Seamboard: drawings read again. -/
namespace Sb
open PySem PySem.Spec PyProof.Rows L2
/-- the states of the loop of the sites -/
def dSt (r c : Nat) (f : Nat → Bool) (k : Nat) : Ss := [some (.d (bd r c)), some (.d (rws r c f)), some (.o (.l ((sel (2 * k) f).map .int))), was (fun i => .int i) k, was (fun i => .int ((i : Int) / c)) k, was (fun i => .int ((i : Int) % c)) k]
def oSplit (z : Str) (y : Dt) : Option (List Dt) := match y with
  | .str t => if t.length ≠ 0 ∧ z.length ≤ 90000 then some ((Txt.split z t).map .str) else none
  | _ => none
@[simp] theorem fSplit_e {s : Ss} {ρ : Ro} (a b : ME Dt) : fSplit a b s ρ = (bnd a fun x => match x with
  | .str z => bnd b fun y => lft (oSplit z y)
  | _ => lft none) s ρ := (rfl)
def kS : Dt → Bool
  | .str _ => true
  | _ => false
end Sb

/-! Seamboard: what drawings count and how two differ. -/
namespace Sb
open PySem PySem.Spec PyProof.Rows L2
theorem oNe_same {x : Dt} (h : SeqAt.shaped x = true) : oNe x x = some (.bool false) := by rw [oNe_e (by rw [h]; rfl), eqv_self h]; rfl
/-! sums -/
def sm : Nat → (Nat → Nat) → Nat
  | 0, _ => 0
  | n + 1, g => sm n g + g n
def b2 (b : Bool) : Nat := if b then 1 else 0
/-! a measure of a text -/
def Mw (w : Nat → Nat) (l : List Nat) : Nat := (l.map w).sum
end Sb

/-! Seamboard: how two drawings differ. -/
namespace Sb
open PySem PySem.Spec PyProof.Rows L2
def sgE : List Nat := [45, 61, 124, 35]
/-- two texts that differ at so many places, at signs of edges -/
structure Df (n : Nat) (a b : List Nat) : Prop where
  len : a.length = b.length
  num : ((List.range a.length).filter fun k => decide (a[k]? ≠ b[k]?)).length = n
  sgn : ∀ k, k < a.length → a[k]? ≠ b[k]? → ∃ x ∈ sgE, a[k]? = some x
theorem Df.same (a : List Nat) : Df 0 a a where
  len := rfl
  num := by
    rw [List.filter_eq_nil_iff.mpr]
    · rfl
    · intro k _; simp
  sgn := fun k _ h => absurd rfl h
theorem Df.one (b b' : Bool) {x y : Nat} (hxy : x ≠ y) (hx : x ∈ sgE) (hy : y ∈ sgE) : Df (b2 (b ^^ b')) [cd b x y] [cd b' x y] where
  len := rfl
  num := by cases b <;> cases b' <;> simp [cd, b2, List.range_succ, hxy, Ne.symm hxy]
  sgn := fun k hk h => by
    have : k = 0 := by simpa using hk
    subst this
    refine ⟨cd b x y, ?_, rfl⟩
    cases b
    · exact hx
    · exact hy
variable {r c : Nat} {f g : Nat → Bool}
def chkFour : Bool := brds.all fun (r, c) => (List.range (r * c)).all fun p => decide (sm (2 * (r * c)) (fun e => b2 (fb r c p e)) = 4)
theorem chkFour_ok : chkFour = true := by decide +kernel
theorem four {r c p : Nat} (hB : Brd r c) (hp : p < r * c) : sm (2 * (r * c)) (fun e => b2 (fb r c p e)) = 4 := by
  have := List.all_eq_true.mp chkFour_ok (r, c) (brd_mem hB)
  exact of_decide_eq_true (List.all_eq_true.mp this p (List.mem_range.mpr hp))
end Sb

/-! Seamboard: the law's own rows. -/
namespace Sb
open PySem PySem.Spec PyProof.Rows L2
theorem for_ex {b : MS} {j : Nat} {n : Nat} (P : Nat → Ss → Ro → Prop) (h : ∀ i, i < n → ∀ s ρ, P i s ρ → ∃ s' ρ', (b (s.set j (some (.d (.int i)))) ρ = some (.nx s' ρ') ∨ b (s.set j (some (.d (.int i)))) ρ = some (.ct s' ρ')) ∧ P (i + 1) s' ρ') {s : Ss} {ρ : Ro} (h0 : P 0 s ρ) :
    ∃ s' ρ', forGo (fgName j) b (upto 0 n) s ρ = some (.nx s' ρ') ∧ P n s' ρ' := by
  have key : ∀ (m k : Nat) (s : Ss) (ρ : Ro), k + m = n → P k s ρ → ∃ s' ρ', forGo (fgName j) b (upto (k : Int) m) s ρ = some (.nx s' ρ') ∧ P n s' ρ' := by
    intro m
    induction m with
    | zero => intro k s ρ e p; exact ⟨s, ρ, rfl, by rw [← e]; exact p⟩
    | succ m ih =>
      intro k s ρ e p
      obtain ⟨s1, ρ1, h1, p1⟩ := h k (by omega) s ρ p
      obtain ⟨s2, ρ2, h2, p2⟩ := ih (k + 1) s1 ρ1 (by omega) p1
      refine ⟨s2, ρ2, ?_, p2⟩
      have e : upto (k : Int) (m + 1) = .int (k : Int) :: upto ((k + 1 : Nat) : Int) m := by
        unfold upto
        rw [List.range_succ_eq_map, List.map_cons, List.map_map]
        refine congr (congrArg List.cons ?_) ?_
        · simp
        · apply List.map_congr_left
          intro a _
          show PyData.int _ = PyData.int _
          refine congrArg PyData.int ?_
          rw [Int.natCast_succ, Int.natCast_succ]
          omega
      rw [e, forGo_cons]
      show (match b (s.set j (some (.d (.int k)))) ρ with
        | some (.nx s2 ρ2) => forGo (fgName j) b (upto ((k + 1 : Nat) : Int) m) s2 ρ2
        | some (.ct s2 ρ2) => forGo (fgName j) b (upto ((k + 1 : Nat) : Int) m) s2 ρ2
        | some (.bk s2 ρ2) => some (.nx s2 ρ2)
        | o => o) = _
      rcases h1 with h1 | h1 <;> (rw [h1]; exact h2)
  exact key n 0 s ρ (by omega) h0
@[simp] theorem fParND_e {s : Ss} {ρ : Ro} (i j : Nat) (g : ME (List Dt)) (a : ME Dt) : fParND i j g a s ρ = (fOut g fun ds => fOut a fun d s ρ => some (.nx ((s.set i (some (.o (.l ds)))).set j (some (.d d))) ρ)) s ρ := (rfl)
def rSt (r c : Nat) (f : Nat → Bool) (l : Nat) : Ss := [some (.d (bd r c)), some (.d (ti (sel (2 * (r * c)) f))), some (.o (.l ((drs r c f l).map .str))), some (.d (ti (sel (r * c) (lit r c f)))), was (fun i => .int i) l, was (fun i => .list (upto ((i : Int) * c) c)) l, none]
end Sb

/-! Seamboard: stories judged. -/
namespace Sb
open PySem PySem.Spec PyProof.Rows L2
abbrev Bt := (Nat → Bool) × (Nat → Bool)
/-- a beat as data; a story -/
def pr (r c : Nat) (b : Bt) : Dt := .tuple [ti (sel (2 * (r * c)) b.1), ti (sel (r * c) b.2)]
def sto (r c : Nat) (L : List Bt) : Dt := .list (L.map (pr r c))
def xf (a f : Nat → Bool) : Nat → Bool := fun e => a e ^^ f e
/-- what beats tell, behind the flips a -/
def tb (r c : Nat) : (Nat → Bool) → List Bt → List (Nat → Bool)
  | _, [] => []
  | a, b :: L => (fun k => lit r c (xf a b.1) k ^^ b.2 k) :: tb r c (xf a b.1) L
/-- told beats as data -/
def tld (r c : Nat) (ts : List (Nat → Bool)) : Dt := .tuple (ts.map fun g => ti (sel (r * c) g))
def al : (Nat → Bool) → List Bt → (Nat → Bool)
  | a, [] => a
  | a, b :: L => al (xf a b.1) L
variable {r c : Nat}
def kL : Dt → Bool
  | .list _ => true
  | _ => false
/-- whether the beats tell just so -/
def mt (r c : Nat) : (Nat → Bool) → List (Nat → Bool) → List Bt → Bool
  | a, h :: ts, b :: L => decide (sel (r * c) (fun k => lit r c (xf a b.1) k ^^ b.2 k) = sel (r * c) h) && mt r c (xf a b.1) ts L
  | _, _, _ => true
/-- what a story costs -/
def cst (r c : Nat) (x y : Int) : List Bt → Int
  | [] => 0
  | b :: L => (x * (sel (2 * (r * c)) b.1).length + y * (sel (r * c) b.2).length) + cst r c x y L
@[simp] theorem fZipTL_e {s : Ss} {ρ : Ro} (a b : ME Dt) : fZipTL a b s ρ = (bnd a fun x => bnd b fun y => lft (match x, y with
  | .tuple xs, .list ys => some (zipD xs ys)
  | _, _ => none)) s ρ := (rfl)
def jTg : FG := fgTup 2 (fgCons (fgName 7) (fgCons (fgTup 2 (fgCons (fgName 8) (fgCons (fgName 9) fgNil))) fgNil))
def jBody : MS := fSeq (fAsg (fCall F_after (fCons (fVar 0) (fCons (fVar 6) (fCons (fVar 8) fNil)))) (fgName 6))
  (fSeq (fIfS (fB (fOp oNe (fCall F_odd_ones (fCons (fOp oCatT (fCall F_checks (fCons (fVar 0) (fCons (fVar 6) fNil))) (fVar 9)) (fCons (fCall F_site_count (fCons (fVar 0) fNil)) fNil))) (fVar 7)))
    (fRet (ret .none)) fNext)
  (fAug (fun i j => i + j) 5 (fOp oAdd (fOp oMul (fVar 3) (fCB oLen (fCons (fVar 8) fNil))) (fOp oMul (fVar 4) (fCB oLen (fCons (fVar 9) fNil))))))
@[simp] theorem fAug_at {s : Ss} {ρ : Ro} (f : Int → Int → Int) (i : Nat) (a : ME Dt) : fAug f i a s ρ = match s[i]? with
  | some (some (.d (.int n))) => fOut a (fun d s ρ => match d with
    | .int m => some (.nx (s.set i (some (.d (.int (f n m))))) ρ)
    | _ => none) s ρ
  | _ => none := (rfl)
theorem v_require_count {x : Int} (hx : 1 ≤ x ∧ x ≤ 9) : F_require_count [.int x] = some (.ok .none) := by
  simp [F_require_count, f_require_count, v_is_whole, isI, hx.1, hx.2]
end Sb

/-! Seamboard: what a story tells, by the law's own counting. -/
namespace Sb
open PySem PySem.Spec PyProof.Rows L2
variable {r c : Nat}
def tBody : MS := (fSeq (fFor (fItT (fVar 4)) (fgName 6)
    (fAsg (fN (fOpN oCat (fVar 3) (fCall F__law_ends (fCons (fVar 0) (fCons (fVar 6) fNil))))) (fgName 3)))
  (fSeq (fAsg (fN (fLc (fRng1 (fCons (fOp oMul (fOp oIxT (fVar 0) (ret (.int 0))) (fOp oIxT (fVar 0) (ret (.int 1)))) fNil)) (fgName 8) (fB (fOp oNe (fOp oEq (fOp oMod (fCountL (fVar 3) (fCons (fVar 8) fNil)) (ret (.int 2))) (ret (.int 1))) (fOp oIn (fVar 8) (fVar 5)))) (fVar 8) [8])) (fgName 7))
  (fApp 2 (fCB oTup (fCons (fVar 7) fNil)))))
end Sb

/-! Seamboard: sets of links as walks that join odd nodes two by two (pure mathematics). -/
namespace Sb
/-- a link: its nodes, its cost, its class -/
structure Lk where
  a : Nat
  b : Nat
  c : Nat
  k : Nat
/-- a walk over links of M: from, to, class, cost -/
inductive Wk (M : Lk → Prop) : Nat → Nat → Nat → Nat → Prop
  | nil (u : Nat) : Wk M u u 0 0
  | fwd {u v k c : Nat} {e : Lk} : Wk M u v k c → M e → e.a = v → Wk M u e.b (k ^^^ e.k) (c + e.c)
  | bwd {u v k c : Nat} {e : Lk} : Wk M u v k c → M e → e.b = v → Wk M u e.a (k ^^^ e.k) (c + e.c)
section
variable {M : Lk → Prop}
theorem Wk.trans {u v w k l c d : Nat} (h : Wk M u v k c) (g : Wk M v w l d) : Wk M u w (k ^^^ l) (c + d) := by
  induction g with
  | nil => rw [Nat.xor_zero]; exact h
  | fwd _ hm e ih => rw [← Nat.xor_assoc, ← Nat.add_assoc]; exact ih.fwd hm e
  | bwd _ hm e ih => rw [← Nat.xor_assoc, ← Nat.add_assoc]; exact ih.bwd hm e
theorem Wk.one {e : Lk} (h : M e) : Wk M e.a e.b e.k e.c := by
  have := (Wk.nil (M := M) e.a).fwd h rfl
  rw [Nat.zero_xor, Nat.zero_add] at this
  exact this
theorem Wk.eno {e : Lk} (h : M e) : Wk M e.b e.a e.k e.c := by
  have := (Wk.nil (M := M) e.b).bwd h rfl
  rw [Nat.zero_xor, Nat.zero_add] at this
  exact this
theorem Wk.symm {u v k c : Nat} (h : Wk M u v k c) : Wk M v u k c := by
  induction h with
  | nil => exact .nil _
  | @fwd v k c e _ hm he ih =>
    subst he
    have := (Wk.eno hm).trans ih
    rw [Nat.xor_comm, Nat.add_comm]
    exact this
  | @bwd v k c e _ hm he ih =>
    subst he
    have := (Wk.one hm).trans ih
    rw [Nat.xor_comm, Nat.add_comm]
    exact this
/-- a pair joined by a walk -/
structure Pr where
  u : Nat
  v : Nat
  k : Nat
  c : Nat
def Pr.ok (M : Lk → Prop) (p : Pr) : Prop := Wk M p.u p.v p.k p.c
def ends (P : List Pr) : List Nat := P.flatMap fun p => [p.u, p.v]
def xk (P : List Pr) : Nat := (P.map Pr.k).foldr (· ^^^ ·) 0
def sc (P : List Pr) : Nat := (P.map Pr.c).sum
/-- what a set of links has: its odd nodes, its class, its cost -/
def od (es : List Lk) (x : Nat) : Bool := es.foldr (fun e b => (decide (x = e.a) ^^ decide (x = e.b)) ^^ b) false
def kx (es : List Lk) : Nat := (es.map Lk.k).foldr (· ^^^ ·) 0
def cs (es : List Lk) : Nat := (es.map Lk.c).sum
theorem xk_perm {P Q : List Pr} (h : P.Perm Q) : xk P = xk Q := by
  induction h with
  | nil => rfl
  | cons p _ ih => show p.k ^^^ xk _ = p.k ^^^ xk _; rw [ih]
  | swap p q l => show q.k ^^^ (p.k ^^^ xk l) = p.k ^^^ (q.k ^^^ xk l); rw [← Nat.xor_assoc, ← Nat.xor_assoc, Nat.xor_comm q.k]
  | trans _ _ h1 h2 => rw [h1, h2]
theorem sc_perm {P Q : List Pr} (h : P.Perm Q) : sc P = sc Q := (h.map Pr.c).sum_nat
theorem ends_perm {P Q : List Pr} (h : P.Perm Q) : (ends P).Perm (ends Q) := h.flatMap_right _
/-- a node of the pairs: its pair first, it first -/
theorem turn_to {P : List Pr} {a : Nat} (hok : ∀ p ∈ P, p.ok M) (h : a ∈ ends P) : ∃ (p : Pr) (Q : List Pr), p.u = a ∧ p.ok M ∧ (∀ q ∈ Q, q.ok M) ∧ (ends P).Perm (p.u :: p.v :: ends Q) ∧ xk P = p.k ^^^ xk Q ∧ sc P = p.c + sc Q := by
  obtain ⟨p, hp, hm⟩ := List.mem_flatMap.mp h
  obtain ⟨A, B, rfl⟩ := List.append_of_mem hp
  have hperm : (A ++ p :: B).Perm (p :: (A ++ B)) := List.perm_middle
  have hQ : ∀ q ∈ A ++ B, q.ok M := fun q hq => hok q (hperm.mem_iff.mpr (List.mem_cons_of_mem _ hq))
  have hp' := hok p hp
  have e1 := ends_perm hperm
  have e2 := xk_perm hperm
  have e3 := sc_perm hperm
  have e1' : ends (p :: (A ++ B)) = p.u :: p.v :: ends (A ++ B) := rfl
  rw [e1'] at e1
  rcases List.mem_cons.mp hm with h | h
  · exact ⟨p, A ++ B, h.symm, hp', hQ, e1, e2, e3⟩
  · rw [List.mem_singleton] at h
    exact ⟨⟨p.v, p.u, p.k, p.c⟩, A ++ B, h.symm, hp'.symm, hQ, e1.trans (.swap _ _ _), e2, e3⟩
theorem od_cons (e : Lk) (es : List Lk) (x : Nat) : od (e :: es) x = ((decide (x = e.a) ^^ decide (x = e.b)) ^^ od es x) := rfl
theorem nd_xor {a x : Nat} {L : List Nat} (h : (a :: L).Nodup) : decide (x ∈ a :: L) = (decide (x = a) ^^ decide (x ∈ L)) := by
  have h1 := (List.nodup_cons.mp h).1
  by_cases e : x = a
  · subst e
    simp [h1]
  · simp [e]
theorem mem_perm {L L' : List Nat} (h : L.Perm L') (x : Nat) : decide (x ∈ L) = decide (x ∈ L') := by rw [decide_eq_decide]; exact h.mem_iff
theorem x4 (A B C D : Bool) : ((A ^^ B) ^^ ((A ^^ C) ^^ D)) = (B ^^ (C ^^ D)) := by cases A <;> cases B <;> cases C <;> cases D <;> rfl
theorem x5 (A B C : Bool) : ((A ^^ B) ^^ ((A ^^ B) ^^ C)) = C := by cases A <;> cases B <;> cases C <;> rfl
theorem x6 (A B C D E : Bool) : ((A ^^ B) ^^ ((A ^^ C) ^^ ((B ^^ D) ^^ E))) = (C ^^ (D ^^ E)) := by cases A <;> cases B <;> cases C <;> cases D <;> cases E <;> rfl
theorem x7 (A B C D : Bool) : ((A ^^ B) ^^ ((B ^^ C) ^^ D)) = (A ^^ (C ^^ D)) := by cases A <;> cases B <;> cases C <;> cases D <;> rfl
/-- any set of links, as walks that join its odd nodes two by two, and rounds -/
theorem joined : ∀ es : List Lk, (∀ e ∈ es, M e) → ∃ (P C : List Pr), (∀ p ∈ P, p.ok M) ∧ (∀ q ∈ C, q.ok M ∧ q.u = q.v) ∧ (ends P).Nodup ∧ (∀ x, decide (x ∈ ends P) = od es x) ∧ kx es = xk P ^^^ xk C ∧ sc P + sc C = cs es
  | [], _ => ⟨[], [], nofun, nofun, .nil, fun x => by simp [ends, od], rfl, rfl⟩
  | e :: es, hM => by
    obtain ⟨P, C, h1, h2, h3, h4, h5, h6⟩ := joined es fun x hx => hM x (List.mem_cons_of_mem _ hx)
    have he := hM e List.mem_cons_self
    have w := Wk.one he
    have kc : kx (e :: es) = e.k ^^^ kx es := rfl
    have cc : cs (e :: es) = e.c + cs es := by show (e.c :: es.map Lk.c).sum = _; rw [List.sum_cons]; rfl
    have xc : ∀ (p : Pr) (L : List Pr), xk (p :: L) = p.k ^^^ xk L := fun _ _ => rfl
    have sc' : ∀ (p : Pr) (L : List Pr), sc (p :: L) = p.c + sc L := fun p L => by show (p.c :: L.map Pr.c).sum = _; rw [List.sum_cons]; rfl
    have ec : ∀ (p : Pr) (L : List Pr), ends (p :: L) = p.u :: p.v :: ends L := fun _ _ => rfl
    by_cases hab : e.a = e.b
    · refine ⟨P, ⟨e.a, e.b, e.k, e.c⟩ :: C, h1, fun q hq => ?_, h3, fun x => ?_, ?_, ?_⟩
      · rcases List.mem_cons.mp hq with r | r
        · subst r; exact ⟨w, hab⟩
        · exact h2 q r
      · rw [h4, od_cons, hab, Bool.xor_self, Bool.false_xor]
      · rw [kc, h5, xc, ← Nat.xor_assoc, ← Nat.xor_assoc, Nat.xor_comm e.k]
      · rw [cc, ← h6, sc']
        show sc P + (e.c + sc C) = _
        omega
    · by_cases ha : e.a ∈ ends P
      · obtain ⟨p, Q, pu, pok, Qok, pe, pk, pc⟩ := turn_to h1 ha
        have nd := pe.nodup_iff.mp h3
        have nd2 := (List.nodup_cons.mp nd).2
        have nd3 := (List.nodup_cons.mp nd2).2
        have pok' : Wk M e.a p.v p.k p.c := by rw [← pu]; exact pok
        have mem : ∀ x, od es x = ((decide (x = e.a) ^^ decide (x = p.v)) ^^ decide (x ∈ ends Q)) := fun x => by
          rw [← h4, mem_perm pe, nd_xor nd, nd_xor nd2, pu, Bool.xor_assoc]
        by_cases hb : e.b ∈ ends P
        · by_cases hbv : e.b = p.v
          · refine ⟨Q, ⟨e.a, e.a, p.k ^^^ e.k, p.c + e.c⟩ :: C, Qok, fun q hq => ?_, nd3, fun x => ?_, ?_, ?_⟩
            · rcases List.mem_cons.mp hq with r | r
              · subst r
                refine ⟨?_, rfl⟩
                have g := Wk.eno he
                rw [hbv] at g
                exact pok'.trans g
              · exact h2 q r
            · rw [od_cons, mem, ← hbv, x5]
            · rw [kc, h5, pk, xc]
              show e.k ^^^ ((p.k ^^^ xk Q) ^^^ xk C) = xk Q ^^^ ((p.k ^^^ e.k) ^^^ xk C)
              ac_rfl
            · rw [cc, ← h6, pc, sc']
              show sc Q + ((p.c + e.c) + sc C) = _
              omega
          · have hbQ : e.b ∈ ends Q := by
              rcases List.mem_cons.mp (pe.mem_iff.mp hb) with r | r
              · exact absurd (r.trans pu).symm hab
              · rcases List.mem_cons.mp r with r | r
                · exact absurd r hbv
                · exact r
            obtain ⟨p2, Q2, pu2, pok2, Qok2, pe2, pk2, pc2⟩ := turn_to Qok hbQ
            have nq := pe2.nodup_iff.mp nd3
            have nq2 := (List.nodup_cons.mp nq).2
            have nall : (p.v :: p2.u :: p2.v :: ends Q2).Nodup := (pe2.cons p.v).nodup_iff.mp nd2
            have pok2' : Wk M e.b p2.v p2.k p2.c := by rw [← pu2]; exact pok2
            refine ⟨⟨p.v, p2.v, (p.k ^^^ e.k) ^^^ p2.k, (p.c + e.c) + p2.c⟩ :: Q2, C, fun q hq => ?_, h2, ?_, fun x => ?_, ?_, ?_⟩
            · rcases List.mem_cons.mp hq with r | r
              · subst r; exact (pok'.symm.trans w).trans pok2'
              · exact Qok2 q r
            · rw [ec]
              have n1 := List.nodup_cons.mp nall
              exact List.nodup_cons.mpr ⟨fun h => n1.1 (List.mem_cons_of_mem _ h), (List.nodup_cons.mp n1.2).2⟩
            · have n1 := List.nodup_cons.mp nall
              have n2 : (p.v :: p2.v :: ends Q2).Nodup := List.nodup_cons.mpr ⟨fun h => n1.1 (List.mem_cons_of_mem _ h), (List.nodup_cons.mp n1.2).2⟩
              have n3 := (List.nodup_cons.mp n1.2).2
              rw [ec, nd_xor n2, nd_xor n3, od_cons, mem, mem_perm pe2, nd_xor nq, nd_xor nq2, pu2, ← Bool.xor_assoc (decide (x = e.b)), x6]
            · rw [kc, h5, pk, pk2, xc]
              show e.k ^^^ ((p.k ^^^ (p2.k ^^^ xk Q2)) ^^^ xk C) = (((p.k ^^^ e.k) ^^^ p2.k) ^^^ xk Q2) ^^^ xk C
              ac_rfl
            · rw [cc, ← h6, pc, pc2, sc']
              show ((p.c + e.c) + p2.c) + sc Q2 + sc C = _
              omega
        · have hbn : e.b ∉ p.v :: ends Q := fun h => hb (pe.mem_iff.mpr (List.mem_cons_of_mem _ h))
          refine ⟨⟨e.b, p.v, e.k ^^^ p.k, e.c + p.c⟩ :: Q, C, fun q hq => ?_, h2, List.nodup_cons.mpr ⟨hbn, nd2⟩, fun x => ?_, ?_, ?_⟩
          · rcases List.mem_cons.mp hq with r | r
            · subst r; exact (Wk.eno he).trans pok'
            · exact Qok q r
          · have n1 : (e.b :: p.v :: ends Q).Nodup := List.nodup_cons.mpr ⟨hbn, nd2⟩
            rw [ec, nd_xor n1, nd_xor nd2, od_cons, mem, x4]
          · rw [kc, h5, pk, xc]
            show e.k ^^^ ((p.k ^^^ xk Q) ^^^ xk C) = ((e.k ^^^ p.k) ^^^ xk Q) ^^^ xk C
            ac_rfl
          · rw [cc, ← h6, pc, sc']
            show (e.c + p.c) + sc Q + sc C = _
            omega
      · by_cases hb : e.b ∈ ends P
        · obtain ⟨p, Q, pu, pok, Qok, pe, pk, pc⟩ := turn_to h1 hb
          have nd := pe.nodup_iff.mp h3
          have nd2 := (List.nodup_cons.mp nd).2
          have pok' : Wk M e.b p.v p.k p.c := by rw [← pu]; exact pok
          have mem : ∀ x, od es x = ((decide (x = e.b) ^^ decide (x = p.v)) ^^ decide (x ∈ ends Q)) := fun x => by
            rw [← h4, mem_perm pe, nd_xor nd, nd_xor nd2, pu, Bool.xor_assoc]
          have han : e.a ∉ p.v :: ends Q := fun h => ha (pe.mem_iff.mpr (List.mem_cons_of_mem _ h))
          refine ⟨⟨e.a, p.v, e.k ^^^ p.k, e.c + p.c⟩ :: Q, C, fun q hq => ?_, h2, List.nodup_cons.mpr ⟨han, nd2⟩, fun x => ?_, ?_, ?_⟩
          · rcases List.mem_cons.mp hq with r | r
            · subst r; exact w.trans pok'
            · exact Qok q r
          · have n1 : (e.a :: p.v :: ends Q).Nodup := List.nodup_cons.mpr ⟨han, nd2⟩
            rw [ec, nd_xor n1, nd_xor nd2, od_cons, mem, x7]
          · rw [kc, h5, pk, xc]
            show e.k ^^^ ((p.k ^^^ xk Q) ^^^ xk C) = ((e.k ^^^ p.k) ^^^ xk Q) ^^^ xk C
            ac_rfl
          · rw [cc, ← h6, pc, sc']
            show (e.c + p.c) + sc Q + sc C = _
            omega
        · have n2 : (e.b :: ends P).Nodup := List.nodup_cons.mpr ⟨hb, h3⟩
          have n1 : (e.a :: e.b :: ends P).Nodup := List.nodup_cons.mpr ⟨fun h => by
            rcases List.mem_cons.mp h with r | r
            · exact hab r
            · exact ha r, n2⟩
          refine ⟨⟨e.a, e.b, e.k, e.c⟩ :: P, C, fun q hq => ?_, h2, n1, fun x => ?_, ?_, ?_⟩
          · rcases List.mem_cons.mp hq with r | r
            · subst r; exact w
            · exact h1 q r
          · rw [ec, nd_xor n1, nd_xor n2, od_cons, h4, Bool.xor_assoc]
          · rw [kc, h5, xc, Nat.xor_assoc]
          · rw [cc, ← h6, sc']
            show (e.c + sc P) + sc C = _
            omega
/-- a walk's links: their class, cost and odd nodes; at both ends of each the walk can be cut -/
theorem Wk.edges {u v k c : Nat} (h : Wk M u v k c) : ∃ es : List Lk, (∀ e ∈ es, M e) ∧ kx es = k ∧ cs es = c ∧ (∀ x, od es x = (decide (x = u) ^^ decide (x = v))) ∧
    ∀ e ∈ es, ∀ x, x = e.a ∨ x = e.b → ∃ k1 c1 k2 c2, Wk M u x k1 c1 ∧ Wk M x v k2 c2 ∧ k1 ^^^ k2 = k ∧ c1 + c2 = c := by
  induction h with
  | nil => exact ⟨[], nofun, rfl, rfl, fun x => by simp [od], nofun⟩
  | @fwd v k c e hw hm he ih =>
    obtain ⟨es, h1, h2, h3, h4, h5⟩ := ih
    subst he
    refine ⟨e :: es, fun x hx => ?_, ?_, ?_, fun x => ?_, fun d hd x hx => ?_⟩
    · rcases List.mem_cons.mp hx with r | r
      · subst r; exact hm
      · exact h1 x r
    · show e.k ^^^ kx es = _
      rw [h2, Nat.xor_comm]
    · show (e.c :: es.map Lk.c).sum = _
      rw [List.sum_cons]
      have : (es.map Lk.c).sum = c := h3
      omega
    · rw [od_cons, h4]
      cases decide (x = e.a) <;> cases decide (x = e.b) <;> cases decide (x = u) <;> rfl
    · have atEnd : ∀ y, y = e.a ∨ y = e.b → ∃ k1 c1 k2 c2, Wk M u y k1 c1 ∧ Wk M y e.b k2 c2 ∧ k1 ^^^ k2 = k ^^^ e.k ∧ c1 + c2 = c + e.c := fun y hy => by
        rcases hy with r | r
        · subst r
          exact ⟨k, c, e.k, e.c, hw, Wk.one hm, rfl, rfl⟩
        · subst r
          exact ⟨k ^^^ e.k, c + e.c, 0, 0, hw.fwd hm rfl, .nil _, Nat.xor_zero _, rfl⟩
      rcases List.mem_cons.mp hd with r | r
      · subst r; exact atEnd x hx
      · obtain ⟨k1, c1, k2, c2, w1, w2, e1, e2⟩ := h5 d r x hx
        exact ⟨k1, c1, k2 ^^^ e.k, c2 + e.c, w1, w2.fwd hm rfl, by rw [← Nat.xor_assoc, e1], by omega⟩
  | @bwd v k c e hw hm he ih =>
    obtain ⟨es, h1, h2, h3, h4, h5⟩ := ih
    subst he
    refine ⟨e :: es, fun x hx => ?_, ?_, ?_, fun x => ?_, fun d hd x hx => ?_⟩
    · rcases List.mem_cons.mp hx with r | r
      · subst r; exact hm
      · exact h1 x r
    · show e.k ^^^ kx es = _
      rw [h2, Nat.xor_comm]
    · show (e.c :: es.map Lk.c).sum = _
      rw [List.sum_cons]
      have : (es.map Lk.c).sum = c := h3
      omega
    · rw [od_cons, h4]
      cases decide (x = e.a) <;> cases decide (x = e.b) <;> cases decide (x = u) <;> rfl
    · have atEnd : ∀ y, y = e.a ∨ y = e.b → ∃ k1 c1 k2 c2, Wk M u y k1 c1 ∧ Wk M y e.a k2 c2 ∧ k1 ^^^ k2 = k ^^^ e.k ∧ c1 + c2 = c + e.c := fun y hy => by
        rcases hy with r | r
        · subst r
          exact ⟨k ^^^ e.k, c + e.c, 0, 0, hw.bwd hm rfl, .nil _, Nat.xor_zero _, rfl⟩
        · subst r
          exact ⟨k, c, e.k, e.c, hw, Wk.eno hm, rfl, rfl⟩
      rcases List.mem_cons.mp hd with r | r
      · subst r; exact atEnd x hx
      · obtain ⟨k1, c1, k2, c2, w1, w2, e1, e2⟩ := h5 d r x hx
        exact ⟨k1, c1, k2 ^^^ e.k, c2 + e.c, w1, w2.bwd hm rfl, by rw [← Nat.xor_assoc, e1], by omega⟩
end
end Sb

/-! Seamboard: links told by bits; walks with bits; least ways (pure mathematics). -/
namespace Sb
/-- the links that bits tell -/
def sl : List Lk → Nat → List Lk
  | [], _ => []
  | e :: L, b => if b % 2 = 1 then e :: sl L (b / 2) else sl L (b / 2)
theorem sl_zero : ∀ L : List Lk, sl L 0 = []
  | [] => rfl
  | e :: L => by
    unfold sl
    rw [if_neg (by decide)]
    exact sl_zero L
theorem sl_two : ∀ {L : List Lk} {i : Nat} {e : Lk}, L[i]? = some e → sl L (2 ^ i) = [e]
  | [], _, _, h => by simp at h
  | d :: L, 0, e, h => by
    simp at h
    subst h
    show (if 1 % 2 = 1 then d :: sl L (1 / 2) else _) = _
    rw [if_pos rfl, show 1 / 2 = 0 from rfl, sl_zero]
  | d :: L, i + 1, e, h => by
    have h' : L[i]? = some e := by simpa using h
    show (if 2 ^ (i + 1) % 2 = 1 then d :: sl L (2 ^ (i + 1) / 2) else sl L (2 ^ (i + 1) / 2)) = _
    rw [Nat.pow_succ, Nat.mul_mod_left, if_neg (by decide), Nat.mul_div_cancel _ (by decide)]
    exact sl_two h'
theorem xor_half (a b : Nat) : (a ^^^ b) / 2 = a / 2 ^^^ b / 2 := Nat.xor_div_two
theorem xor_odd (a b : Nat) : (a ^^^ b) % 2 = (a % 2 + b % 2) % 2 := by
  have h := Nat.xor_mod_two_pow (a := a) (b := b) (n := 1)
  rw [Nat.pow_one] at h
  rw [h]
  have ha : a % 2 = 0 ∨ a % 2 = 1 := by omega
  have hb : b % 2 = 0 ∨ b % 2 = 1 := by omega
  rcases ha with ha | ha <;> rcases hb with hb | hb <;> rw [ha, hb] <;> rfl
theorem sl_xor (x : Nat) : ∀ (L : List Lk) (a b : Nat), od (sl L (a ^^^ b)) x = (od (sl L a) x ^^ od (sl L b) x) ∧ kx (sl L (a ^^^ b)) = kx (sl L a) ^^^ kx (sl L b) ∧ cs (sl L (a ^^^ b)) ≤ cs (sl L a) + cs (sl L b)
  | [], _, _ => ⟨rfl, (Nat.xor_zero _).symm, Nat.zero_le _⟩
  | e :: L, a, b => by
    obtain ⟨i1, i2, i3⟩ := sl_xor x L (a / 2) (b / 2)
    have kc : ∀ es : List Lk, kx (e :: es) = e.k ^^^ kx es := fun _ => rfl
    have cc : ∀ es : List Lk, cs (e :: es) = e.c + cs es := fun es => by show (e.c :: es.map Lk.c).sum = _; rw [List.sum_cons]; rfl
    unfold sl
    rw [xor_half, xor_odd]
    have ha : a % 2 = 0 ∨ a % 2 = 1 := by omega
    have hb : b % 2 = 0 ∨ b % 2 = 1 := by omega
    rcases ha with ha | ha <;> rcases hb with hb | hb <;> rw [ha, hb]
    · exact ⟨i1, i2, i3⟩
    · refine ⟨?_, ?_, ?_⟩
      · show od (e :: sl L (a / 2 ^^^ b / 2)) x = (od (sl L (a / 2)) x ^^ od (e :: sl L (b / 2)) x)
        rw [od_cons, od_cons, i1]
        cases (decide (x = e.a) ^^ decide (x = e.b)) <;> cases od (sl L (a / 2)) x <;> cases od (sl L (b / 2)) x <;> rfl
      · show kx (e :: sl L (a / 2 ^^^ b / 2)) = kx (sl L (a / 2)) ^^^ kx (e :: sl L (b / 2))
        rw [kc, kc, i2]
        ac_rfl
      · show cs (e :: sl L (a / 2 ^^^ b / 2)) ≤ cs (sl L (a / 2)) + cs (e :: sl L (b / 2))
        rw [cc, cc]
        omega
    · refine ⟨?_, ?_, ?_⟩
      · show od (e :: sl L (a / 2 ^^^ b / 2)) x = (od (e :: sl L (a / 2)) x ^^ od (sl L (b / 2)) x)
        rw [od_cons, od_cons, i1]
        cases (decide (x = e.a) ^^ decide (x = e.b)) <;> cases od (sl L (a / 2)) x <;> cases od (sl L (b / 2)) x <;> rfl
      · show kx (e :: sl L (a / 2 ^^^ b / 2)) = kx (e :: sl L (a / 2)) ^^^ kx (sl L (b / 2))
        rw [kc, kc, i2]
        ac_rfl
      · show cs (e :: sl L (a / 2 ^^^ b / 2)) ≤ cs (e :: sl L (a / 2)) + cs (sl L (b / 2))
        rw [cc, cc]
        omega
    · refine ⟨?_, ?_, ?_⟩
      · show od (sl L (a / 2 ^^^ b / 2)) x = (od (e :: sl L (a / 2)) x ^^ od (e :: sl L (b / 2)) x)
        rw [od_cons, od_cons, i1]
        cases (decide (x = e.a) ^^ decide (x = e.b)) <;> cases od (sl L (a / 2)) x <;> cases od (sl L (b / 2)) x <;> rfl
      · show kx (sl L (a / 2 ^^^ b / 2)) = kx (e :: sl L (a / 2)) ^^^ kx (e :: sl L (b / 2))
        rw [kc, kc, i2]
        have : e.k ^^^ kx (sl L (a / 2)) ^^^ (e.k ^^^ kx (sl L (b / 2))) = (e.k ^^^ e.k) ^^^ (kx (sl L (a / 2)) ^^^ kx (sl L (b / 2))) := by ac_rfl
        rw [this, Nat.xor_self, Nat.zero_xor]
      · show cs (sl L (a / 2 ^^^ b / 2)) ≤ cs (e :: sl L (a / 2)) + cs (e :: sl L (b / 2))
        rw [cc, cc]
        omega
/-- walks from s, with bits -/
inductive Wi (L : List Lk) (s : Nat) : Nat → Nat → Nat → Nat → Prop
  | nil : Wi L s s 0 0 0
  | fwd {v k c b i : Nat} {e : Lk} : Wi L s v k c b → L[i]? = some e → e.a = v → Wi L s e.b (k ^^^ e.k) (c + e.c) (b ^^^ 2 ^ i)
  | bwd {v k c b i : Nat} {e : Lk} : Wi L s v k c b → L[i]? = some e → e.b = v → Wi L s e.a (k ^^^ e.k) (c + e.c) (b ^^^ 2 ^ i)
abbrev In (L : List Lk) : Lk → Prop := fun e => e ∈ L
theorem pow_lt {L : List Lk} {i : Nat} {e : Lk} (h : L[i]? = some e) : 2 ^ i < 2 ^ L.length := Nat.pow_lt_pow_right (by decide) (List.getElem?_eq_some_iff.mp h).1
theorem Wi.bits {L : List Lk} {s v k c b : Nat} (h : Wi L s v k c b) : (∀ x, od (sl L b) x = (decide (x = s) ^^ decide (x = v))) ∧ kx (sl L b) = k ∧ cs (sl L b) ≤ c ∧ b < 2 ^ L.length := by
  have one : ∀ {i : Nat} {e : Lk}, L[i]? = some e → ∀ {k c b : Nat}, kx (sl L b) = k → cs (sl L b) ≤ c → b < 2 ^ L.length → (∀ x, od (sl L (b ^^^ 2 ^ i)) x = (od (sl L b) x ^^ (decide (x = e.a) ^^ decide (x = e.b)))) ∧ kx (sl L (b ^^^ 2 ^ i)) = k ^^^ e.k ∧ cs (sl L (b ^^^ 2 ^ i)) ≤ c + e.c ∧ b ^^^ 2 ^ i < 2 ^ L.length := fun {i e} he {k c b} h2 h3 h4 => by
    have hx := fun x => sl_xor x L b (2 ^ i)
    rw [sl_two he] at hx
    have c1 : cs [e] = e.c := by show [e.c].sum = _; simp
    have k1 : kx [e] = e.k := Nat.xor_zero _
    refine ⟨fun x => ?_, ?_, ?_, Nat.xor_lt_two_pow h4 (pow_lt he)⟩
    · rw [(hx x).1, od_cons]
      have : od [] x = false := rfl
      rw [this, Bool.xor_false]
    · rw [(hx 0).2.1, h2, k1]
    · have := (hx 0).2.2
      rw [c1] at this
      omega
  induction h with
  | nil => exact ⟨fun x => by rw [sl_zero, Bool.xor_self]; rfl, by rw [sl_zero]; rfl, by rw [sl_zero]; exact Nat.le_refl _, Nat.two_pow_pos _⟩
  | fwd _ he ha ih =>
    obtain ⟨h1, h2, h3, h4⟩ := ih
    obtain ⟨g1, g2, g3, g4⟩ := one he h2 h3 h4
    refine ⟨fun x => ?_, g2, g3, g4⟩
    rw [g1, h1, ha]
    cases decide (x = _) <;> cases decide (x = _) <;> cases decide (x = _) <;> rfl
  | bwd _ he ha ih =>
    obtain ⟨h1, h2, h3, h4⟩ := ih
    obtain ⟨g1, g2, g3, g4⟩ := one he h2 h3 h4
    refine ⟨fun x => ?_, g2, g3, g4⟩
    rw [g1, h1, ha]
    cases decide (x = _) <;> cases decide (x = _) <;> cases decide (x = _) <;> rfl
/-- the least walk of its class -/
def Bw (L : List Lk) (s v k c b : Nat) : Prop := Wi L s v k c b ∧ ∀ c', Wk (In L) s v k c' → c ≤ c'
/-! ### the search -/
/-- a step from x: to y, cost, class, its link's place -/
def Stp1 (L : List Lk) (x y c k i : Nat) : Prop := ∃ e, L[i]? = some e ∧ ((e.a = x ∧ e.b = y) ∨ (e.b = x ∧ e.a = y)) ∧ e.c = c ∧ e.k = k
theorem Stp1.wi {L : List Lk} {s x y k c b k' c' i : Nat} (h : Wi L s x k c b) (g : Stp1 L x y c' k' i) : Wi L s y (k ^^^ k') (c + c') (b ^^^ 2 ^ i) := by
  obtain ⟨e, he, ⟨h1, h2⟩ | ⟨h1, h2⟩, h3, h4⟩ := g
  · subst h2 h3 h4; exact h.fwd he h1
  · subst h2 h3 h4; exact h.bwd he h1
structure Ent where
  c : Nat
  x : Nat
  k : Nat
  b : Nat
abbrev Sm := Nat → Nat → Option (Nat × Nat)
structure Dij (L : List Lk) (s : Nat) (S : Sm) (Q : List Ent) : Prop where
  q : ∀ e ∈ Q, Wi L s e.x e.k e.c e.b
  st : ∀ x k c b, S x k = some (c, b) → Bw L s x k c b
  f0 : S s 0 ≠ none ∨ ∃ e ∈ Q, e.x = s ∧ e.k = 0 ∧ e.c = 0
  fr : ∀ x k c b, S x k = some (c, b) → ∀ y c' k' i, Stp1 L x y c' k' i → S y (k ^^^ k') ≠ none ∨ ∃ e ∈ Q, e.x = y ∧ e.k = k ^^^ k' ∧ e.c = c + c'
theorem Dij.front {L : List Lk} {s : Nat} {S : Sm} {Q : List Ent} (D : Dij L s S Q) {v k c : Nat} (h : Wk (In L) s v k c) : (∃ c0 b, S v k = some (c0, b)) ∨ ∃ e ∈ Q, e.c ≤ c := by
  induction h with
  | nil =>
    rcases D.f0 with h | ⟨e, he, _, _, h3⟩
    · cases hs : S s 0 with
      | none => exact absurd hs h
      | some p => exact .inl ⟨p.1, p.2, rfl⟩
    · exact .inr ⟨e, he, by omega⟩
  | @fwd v k c e hw hm ha ih =>
    rcases ih with ⟨c0, b, h⟩ | ⟨q, hq, h⟩
    · obtain ⟨i, hi⟩ := List.mem_iff_getElem?.mp hm
      have hb := (D.st _ _ _ _ h).2 _ hw
      rcases D.fr _ _ _ _ h e.b e.c e.k i ⟨e, hi, .inl ⟨ha, rfl⟩, rfl, rfl⟩ with g | ⟨q, hq, _, _, g⟩
      · cases hs : S e.b (k ^^^ e.k) with
        | none => exact absurd hs g
        | some p => exact .inl ⟨p.1, p.2, rfl⟩
      · exact .inr ⟨q, hq, by omega⟩
    · exact .inr ⟨q, hq, by omega⟩
  | @bwd v k c e hw hm ha ih =>
    rcases ih with ⟨c0, b, h⟩ | ⟨q, hq, h⟩
    · obtain ⟨i, hi⟩ := List.mem_iff_getElem?.mp hm
      have hb := (D.st _ _ _ _ h).2 _ hw
      rcases D.fr _ _ _ _ h e.a e.c e.k i ⟨e, hi, .inr ⟨ha, rfl⟩, rfl, rfl⟩ with g | ⟨q, hq, _, _, g⟩
      · cases hs : S e.a (k ^^^ e.k) with
        | none => exact absurd hs g
        | some p => exact .inl ⟨p.1, p.2, rfl⟩
      · exact .inr ⟨q, hq, by omega⟩
    · exact .inr ⟨q, hq, by omega⟩
theorem Dij.start (L : List Lk) (s : Nat) : Dij L s (fun _ _ => none) [⟨0, s, 0, 0⟩] :=
  ⟨fun e h => by rw [List.mem_singleton] at h; subst h; exact .nil, fun _ _ _ _ h => (nomatch h), .inr ⟨_, List.mem_singleton.mpr rfl, rfl, rfl, rfl⟩, fun _ _ _ _ h => (nomatch h)⟩
/-- what was done already is left out -/
theorem Dij.skip {L : List Lk} {s : Nat} {S : Sm} {e : Ent} {Q : List Ent} (D : Dij L s S (e :: Q)) (h : S e.x e.k ≠ none) : Dij L s S Q := by
  refine ⟨fun q hq => D.q q (List.mem_cons_of_mem _ hq), D.st, ?_, fun x k c b hs y c' k' i hst => ?_⟩
  · rcases D.f0 with g | ⟨q, hq, h1, h2, h3⟩
    · exact .inl g
    · rcases List.mem_cons.mp hq with r | r
      · subst r; rw [h1, h2] at h; exact .inl h
      · exact .inr ⟨q, r, h1, h2, h3⟩
  · rcases D.fr x k c b hs y c' k' i hst with g | ⟨q, hq, h1, h2, h3⟩
    · exact .inl g
    · rcases List.mem_cons.mp hq with r | r
      · subst r; rw [h1, h2] at h; exact .inl h
      · exact .inr ⟨q, r, h1, h2, h3⟩
def setS (S : Sm) (x k : Nat) (v : Nat × Nat) : Sm := fun y l => if y = x ∧ l = k then some v else S y l
/-- a least one is done; Q2: what is new of it -/
theorem Dij.done {L : List Lk} {s : Nat} {S : Sm} {e : Ent} {Q Q2 : List Ent} (D : Dij L s S (e :: Q)) (hn : S e.x e.k = none) (least : ∀ q ∈ Q, e.c ≤ q.c)
    (h1 : ∀ q ∈ Q2, ∃ y c' k' i, Stp1 L e.x y c' k' i ∧ q = ⟨e.c + c', y, e.k ^^^ k', e.b ^^^ 2 ^ i⟩)
    (h2 : ∀ y c' k' i, Stp1 L e.x y c' k' i → setS S e.x e.k (e.c, e.b) y (e.k ^^^ k') = none → ∃ q ∈ Q2, q.x = y ∧ q.k = e.k ^^^ k' ∧ q.c = e.c + c') : Dij L s (setS S e.x e.k (e.c, e.b)) (Q ++ Q2) := by
  have me := D.q e List.mem_cons_self
  have grow : ∀ y l, S y l ≠ none → setS S e.x e.k (e.c, e.b) y l ≠ none := fun y l h => by
    unfold setS
    split
    · simp
    · exact h
  have self : setS S e.x e.k (e.c, e.b) e.x e.k ≠ none := by unfold setS; rw [if_pos ⟨rfl, rfl⟩]; simp
  refine ⟨fun q hq => ?_, fun x k c b hs => ?_, ?_, fun x k c b hs y c' k' i hst => ?_⟩
  · rcases List.mem_append.mp hq with r | r
    · exact D.q q (List.mem_cons_of_mem _ r)
    · obtain ⟨y, c', k', i, st, rfl⟩ := h1 q r
      exact st.wi me
  · unfold setS at hs
    split at hs
    · rename_i hxk
      obtain ⟨rfl, rfl⟩ := hxk
      cases hs
      refine ⟨me, fun c' hw => ?_⟩
      rcases D.front hw with ⟨c0, b, h⟩ | ⟨q, hq, h⟩
      · rw [hn] at h; cases h
      · rcases List.mem_cons.mp hq with r | r
        · subst r; exact h
        · exact Nat.le_trans (least q r) h
    · exact D.st x k c b hs
  · rcases D.f0 with g | ⟨q, hq, g1, g2, g3⟩
    · exact .inl (grow _ _ g)
    · rcases List.mem_cons.mp hq with r | r
      · subst r; rw [← g1, ← g2]; exact .inl self
      · exact .inr ⟨q, List.mem_append_left _ r, g1, g2, g3⟩
  · by_cases hxk : x = e.x ∧ k = e.k
    · obtain ⟨rfl, rfl⟩ := hxk
      unfold setS at hs
      rw [if_pos ⟨rfl, rfl⟩] at hs
      cases hs
      by_cases hy : setS S e.x e.k (e.c, e.b) y (e.k ^^^ k') = none
      · obtain ⟨q, hq, g⟩ := h2 y c' k' i hst hy
        exact .inr ⟨q, List.mem_append_right _ hq, g⟩
      · exact .inl hy
    · unfold setS at hs
      rw [if_neg hxk] at hs
      rcases D.fr x k c b hs y c' k' i hst with g | ⟨q, hq, g1, g2, g3⟩
      · exact .inl (grow _ _ g)
      · rcases List.mem_cons.mp hq with r | r
        · subst r; rw [← g1, ← g2]; exact .inl self
        · exact .inr ⟨q, List.mem_append_left _ r, g1, g2, g3⟩
theorem Dij.all {L : List Lk} {s : Nat} {S : Sm} (D : Dij L s S []) {v k c : Nat} (h : Wk (In L) s v k c) : ∃ c0 b, S v k = some (c0, b) ∧ Bw L s v k c0 b := by
  rcases D.front h with ⟨c0, b, h⟩ | ⟨e, he, _⟩
  · exact ⟨c0, b, h, D.st _ _ _ _ h⟩
  · cases he
end Sb

/-! Seamboard: least rounds, least pairings, least links (pure mathematics). -/
namespace Sb
variable {L : List Lk}
/-- closed walks -/
def Clo (L : List Lk) (C : List Pr) : Prop := ∀ q ∈ C, q.ok (In L) ∧ q.u = q.v
/-- closed walks are as good as one at a start -/
def HR (L : List Lk) (starts : List Nat) : Prop := ∀ C, Clo L C → ∃ s ∈ starts, ∃ d, Wk (In L) s s (xk C) d ∧ d ≤ sc C
def Br (L : List Lk) (k c b : Nat) : Prop := (∃ s, Wi L s s k c b) ∧ ∀ C, Clo L C → xk C = k → c ≤ sc C
/-- least for a pairing of lit and rounds -/
def Bp (L : List Lk) (lit : List Nat) (k c b : Nat) : Prop := (∀ x, od (sl L b) x = decide (x ∈ lit)) ∧ kx (sl L b) = k ∧ cs (sl L b) ≤ c ∧ b < 2 ^ L.length ∧
  ∀ P C, (∀ p ∈ P, p.ok (In L)) → Clo L C → (ends P).Perm lit → xk P ^^^ xk C = k → c ≤ sc P + sc C
/-- THE least links with these odd nodes, of this class -/
def Bl (L : List Lk) (lit : List Nat) (k c b : Nat) : Prop := (∀ x, od (sl L b) x = decide (x ∈ lit)) ∧ kx (sl L b) = k ∧ cs (sl L b) = c ∧ b < 2 ^ L.length ∧
  ∀ es : List Lk, (∀ e ∈ es, e ∈ L) → (∀ x, od es x = decide (x ∈ lit)) → kx es = k → c ≤ cs es
/-! ### rounds joined -/
/-- closed walks of different classes, none 0, have a node in common -/
def Meet (L : List Lk) : Prop := ∀ u v k l c d, Wk (In L) u u k c → Wk (In L) v v l d → k ≠ 0 → l ≠ 0 → k ≠ l → ∃ x, Wk (In L) x x k c ∧ Wk (In L) x x l d
/-- a closed walk of a class that isn't 0 touches a start -/
def Rim (L : List Lk) (starts : List Nat) : Prop := ∀ u k c, Wk (In L) u u k c → k ≠ 0 → ∃ x ∈ starts, Wk (In L) x x k c
end Sb

/-! Seamboard: what heaps are. -/
namespace Sb
open PySem PySem.Spec PyProof.Rows L2
section
variable {α : Type} {lt : α → α → Bool}
/-- an order -/
structure Ord (lt : α → α → Bool) : Prop where
  irr : ∀ a, lt a a = false
  asy : ∀ a b, lt a b = true → lt b a = false
  tr : ∀ a b c, lt b a = false → lt c b = false → lt c a = false
/-- a is not above b -/
def leO (lt : α → α → Bool) (xs : List α) (i j : Nat) : Prop := ∀ a b, xs[i]? = some a → xs[j]? = some b → lt b a = false
def par (j : Nat) : Nat := (j - 1) / 2
def HpOk (lt : α → α → Bool) (xs : List α) : Prop := ∀ j, 0 < j → leO lt xs (par j) j
/-- a heap but for the place pos above its parent -/
structure Up (lt : α → α → Bool) (xs : List α) (pos : Nat) : Prop where
  rel : ∀ j, 0 < j → j ≠ pos → leO lt xs (par j) j
  gr : 0 < pos → ∀ j, 0 < j → par j = pos → leO lt xs (par pos) j
theorem leO.trans (O : Ord lt) {xs : List α} {i j k : Nat} (hj : j < xs.length) (h : leO lt xs i j) (g : leO lt xs j k) : leO lt xs i k := fun a c ha hc => by
  have e : xs[j]? = some xs[j] := List.getElem?_eq_getElem hj
  exact O.tr _ _ _ (h a _ ha e) (g _ c e hc)
/-- a heap but for the place pos, below and above -/
structure Down (lt : α → α → Bool) (xs : List α) (pos : Nat) : Prop where
  rel : ∀ j, 0 < j → j ≠ pos → par j ≠ pos → leO lt xs (par j) j
  gr : 0 < pos → ∀ j, 0 < j → par j = pos → leO lt xs (par pos) j
end
end Sb

/-! Seamboard: ways_from does what Dij says. -/
namespace Sb
open PySem PySem.Spec PyProof.Rows L2
/-! data -/
def wD : Option (Nat × Nat) → Dt
  | none => .none
  | some (c, b) => ti [c, b]
def rowD (S : Sm) (x : Nat) : List Dt := (List.range 4).map fun k => wD (S x k)
def waysD (S : Sm) (n : Nat) : List (List Dt) := (List.range n).map (rowD S)
def qe (e : Ent) : List Int := [e.c, e.x, e.k, e.b]
abbrev St4 := Nat × Nat × Nat × Nat
def stD (p : St4) : Dt := ti [p.1, p.2.1, p.2.2.1, ((2 ^ p.2.2.2 : Nat) : Int)]
/-! rules of reckoning -/
section
variable {s s1 : Ss} {ρ : Ro}
end
/-! the steps from a node -/
def cond (S : Sm) (e : Ent) (p : St4) : Bool := (S p.1 (e.k ^^^ p.2.2.1)).isNone
def nw (e : Ent) (p : St4) : Ent := ⟨e.c + p.2.1, p.1, e.k ^^^ p.2.2.1, e.b ^^^ 2 ^ p.2.2.2⟩
def wst (T0 : Dt) (s0 : Nat) (S : Sm) (n : Nat) (jss : List (List Int)) (t5 t6 t7 t8 t9 t10 t11 t12 : Option Wv) : Ss :=
  [some (.d T0), some (.d (.int s0)), some (.o (.ll (waysD S n))), none, some (.o (.l (jss.map ti))), t5, t6, t7, t8, t9, t10, t11, t12]
abbrev di (x : Nat) : Option Wv := some (.d (.int x))
def pushB : MS := (fIfS (fLookT (fB (fOp oIsN (fOp oIxL (fOp oIxL (fVar 2) (fVar 9)) (fOp oXor (fVar 7) (fVar 11))) (ret .none))))
    (fHPush 4 (fTup (fCons (fOp oAdd (fVar 5) (fVar 10)) (fCons (fVar 9) (fCons (fOp oXor (fVar 7) (fVar 11)) (fCons (fOp oXor (fVar 8) (fVar 12)) fNil)))))) fNext)
end Sb

/-! Seamboard: the search's loop. -/
namespace Sb
open PySem PySem.Spec PyProof.Rows L2
def deg (T : List (List St4)) (x : Nat) : Nat := (T.getD x []).length
def U (T : List (List St4)) (S : Sm) (n : Nat) : Nat := ((List.range (4 * n)).map fun i => if (S (i / 4) (i % 4)).isNone = true then deg T (i / 4) else 0).sum
/-- the steps of links -/
structure StpOk (L : List Lk) (n : Nat) (T : List (List St4)) : Prop where
  len : T.length = n
  st : ∀ x ts, T[x]? = some ts → ∀ y c k i, (y, c, k, i) ∈ ts ↔ Stp1 L x y c k i
  bd : ∀ e ∈ L, e.a < n ∧ e.b < n ∧ e.k < 4
  sum : (T.map List.length).sum = 2 * L.length
theorem Dij.mem {L : List Lk} {s : Nat} {S : Sm} {Q Q' : List Ent} (D : Dij L s S Q) (h : ∀ e, e ∈ Q ↔ e ∈ Q') : Dij L s S Q' := by
  refine ⟨fun e he => D.q e ((h e).mpr he), D.st, ?_, fun x k c b hs y c' k' i hst => ?_⟩
  · rcases D.f0 with g | ⟨e, he, g⟩
    · exact .inl g
    · exact .inr ⟨e, (h e).mp he, g⟩
  · rcases D.fr x k c b hs y c' k' i hst with g | ⟨e, he, g⟩
    · exact .inl g
    · exact .inr ⟨e, (h e).mp he, g⟩
def wayB : MS := fSeq (fHPop 4 (fgTup 4 (fgCons (fgName 5) (fgCons (fgName 6) (fgCons (fgName 7) (fgCons (fgName 8) fgNil))))))
  (fSeq (fIfS (fLookT (fB (fOp oNotN (fOp oIxL (fOp oIxL (fVar 2) (fVar 6)) (fVar 7)) (ret .none))))
    fCont fNext)
  (fSeq (fStoLL 2 (fVar 6) (fVar 7) (fTup (fCons (fVar 5) (fCons (fVar 8) fNil))))
  (fFor (fItL (fOp oIxL (fVar 0) (fVar 6))) (fgTup 4 (fgCons (fgName 9) (fgCons (fgName 10) (fgCons (fgName 11) (fgCons (fgName 12) fgNil))))) pushB)))
def TD (T : List (List St4)) : Dt := .list (T.map fun ts => .list (ts.map stD))
end Sb

/-! Seamboard: ways_from, steps_of. -/
namespace Sb
open PySem PySem.Spec PyProof.Rows L2
/-! ### steps_of -/
def lkD (e : Lk) : Dt := ti [e.a, e.b, e.c, e.k]
structure StpTo (L : List Lk) (n i : Nat) (T : List (List St4)) : Prop where
  len : T.length = n
  st : ∀ x ts, T[x]? = some ts → ∀ y c k j, (y, c, k, j) ∈ ts ↔ j < i ∧ Stp1 L x y c k j
  sum : (T.map List.length).sum = 2 * i
def lks (T : List (List St4)) : List (List Dt) := T.map fun ts => ts.map stD
def sst (A : Dt) (n : Nat) (T : List (List St4)) (t4 t5 t6 t7 t8 : Option Wv) : Ss := [some (.d A), some (.d (.int n)), some (.o (.ll (lks T))), none, t4, t5, t6, t7, t8]
def stepB : MS := (fSeq (fAppLL 2 (fVar 5) (fTup (fCons (fVar 6) (fCons (fVar 7) (fCons (fVar 8) (fCons (fOp oShl (ret (.int 1)) (fVar 4)) fNil))))))
  (fAppLL 2 (fVar 6) (fTup (fCons (fVar 5) (fCons (fVar 7) (fCons (fVar 8) (fCons (fOp oShl (ret (.int 1)) (fVar 4)) fNil)))))))
end Sb

/-! Seamboard: the least of pairs; behind; least_rounds. -/
namespace Sb
open PySem PySem.Spec PyProof.Rows L2
abbrev NP := Nat × Nat
def pD (p : NP) : Dt := ti [p.1, p.2]
def ltP (p q : NP) : Bool := if p.1 = q.1 then decide (p.2 < q.2) else decide (p.1 < q.1)
def pm (x : NP) (xs : List NP) : NP := xs.foldl (fun a y => if ltP y a = true then y else a) x
def ip (p : NP) : Int × Int := (p.1, p.2)
/-! behind -/
def fourD (f : Nat → NP) : List Dt := (List.range 4).map fun k => pD (f k)
def bhE (f g : Nat → NP) (k l : Nat) : NP := ((f l).1 + (g (l ^^^ k)).1, (f l).2 ^^^ (g (l ^^^ k)).2)
def bh (f g : Nat → NP) (k : Nat) : NP := pm (bhE f g k 0) [bhE f g k 1, bhE f g k 2, bhE f g k 3]
def seamC : Dt := .tuple [.tuple [.int 0, .int 0], .tuple [.int 0, .int 1], .tuple [.int 1, .int 0], .tuple [.int 1, .int 1]]
def bst (f g : Nat → NP) (i : Nat) (x3 x4 x5 : Option Wv) : Ss := [some (.d (.list (fourD f))), some (.d (.list (fourD g))), some (.o (.l ((List.range i).map fun k => pD (bh f g k)))), x3, x4, x5, none, none]
def bpr (f g : Nat → NP) (i : Nat) : List Dt := (List.range 4).map fun l => .tuple [pD (f l), pD (g (l ^^^ i))]
end Sb

/-! Seamboard: least_rounds, least_pairing. -/
namespace Sb
open PySem PySem.Spec PyProof.Rows L2
def pmL : List NP → NP
  | [] => (0, 0)
  | x :: xs => pm x xs
def Rch (L : List Lk) (n : Nat) : Prop := ∀ s x k, s < n → x < n → k < 4 → ∃ c, Wk (In L) s x k c
def ww (S : Sm) (x k : Nat) : NP := (S x k).getD (0, 0)
def wL (S : Sm) (n : Nat) : Dt := .list ((waysD S n).map .list)
def nI (xs : List Nat) : List Dt := xs.map fun (x : Nat) => .int x
/-! ### pairings -/
def drop1 (l : List Nat) (p : Nat) : List Nat := l.take p ++ l.drop (p + 1)
def pst (kds : List (Key × Dt)) (Rd D : Dt) (x : Nat) (rest : List Nat) (fs : List Dt) (t6 t7 t8 : Option Wv) : Ss := [some (.m kds), some (.d Rd), some (.d D), di x, some (.d (.list (nI rest))), some (.o (.l fs)), t6, t7, t8, none, none]
def pairB (Fr : Fm) : MS := (fSeq (fAsg (fN (fOpN oCat (fN (fSlL (fVar 4) fNo (fSo (fVar 6)))) (fN (fSlL (fVar 4) (fSo (fOp oAdd (fVar 6) (ret (.int 1)))) fNo)))) (fgName 8))
  (fApp 5 (fCall F_behind (fCons (fOp oIxL (fDgetM 0 (fVar 3)) (fVar 7)) (fCons (fCallM Fr 0 (fCons (fVar 1) (fCons (fVar 8) fNil))) fNil)))))
end Sb

/-! Seamboard: least_joins. -/
namespace Sb
open PySem PySem.Spec PyProof.Rows L2
def rim (r c : Nat) : List Nat := (List.range (r * c)).filter fun s => decide (s < c) || decide (s % c = 0)
end Sb

/-! Seamboard: rounds over different seams meet. -/
namespace Sb
open PySem PySem.Spec PyProof.Rows L2
/-- the edge that an edge crosses, when the other ones are shifted half a site down and right; both end at x / 2 -/
def cx (r c x : Nat) : Nat := if x % 2 = 0 then 2 * upN r c (x / 2) + 1 else 2 * leftN c (x / 2)
def la (c : Nat) (e : Nat) : Bool := !decide (e % 2 = 1) && decide (e / 2 < c)
def lb (c : Nat) (e : Nat) : Bool := decide (e % 2 = 1) && decide (e / 2 % c = 0)
/-- how often two sets cross, mod 2 -/
def ix (r c : Nat) (f g : Nat → Bool) : Bool := px (2 * (r * c)) fun x => f x && g (cx r c x)
def chkCross : Bool := brds.all fun (r, c) => (List.range (2 * (r * c))).all fun x =>
  decide (cx r c x < 2 * (r * c)) && decide (x / 2 = cx r c x / 2 ∨ x / 2 = endN r c (cx r c x)) &&
  (la c (cx r c x) == (crBN r c x ^^ px (r * c) fun v => decide (c ≤ v) && (decide (v = x / 2) ^^ decide (v = endN r c x)))) &&
  (lb c (cx r c x) == (crAN c x ^^ px (r * c) fun v => !decide (v % c = 0) && (decide (v = x / 2) ^^ decide (v = endN r c x)))) &&
  (List.range (r * c)).all fun p => decide (belowN r c (rightN c p) < r * c) && (fb r c p (cx r c x) == (decide (belowN r c (rightN c p) = x / 2) ^^ decide (belowN r c (rightN c p) = endN r c x)))
variable {r c : Nat}
/-- what seams' loops have -/
def chkLoops : Bool := brds.all fun (r, c) => px (2 * (r * c)) (fun e => la c e && crAN c e) && !px (2 * (r * c)) (fun e => la c e && crBN r c e) && !px (2 * (r * c)) (fun e => lb c e && crAN c e) && px (2 * (r * c)) (fun e => lb c e && crBN r c e) &&
  (List.range (r * c)).all fun s => !px (2 * (r * c)) (fun e => la c e && (decide (s = e / 2) ^^ decide (s = endN r c e))) && !px (2 * (r * c)) (fun e => lb c e && (decide (s = e / 2) ^^ decide (s = endN r c e)))
end Sb

/-! Seamboard: the board's links (mathematics). -/
namespace Sb
open PySem PySem.Spec PyProof.Rows L2
def k2 (a b : Bool) : Nat := (if a then 2 else 0) + (if b then 1 else 0)
theorem k2_xor (a b a' b' : Bool) : k2 (a ^^ a') (b ^^ b') = k2 a b ^^^ k2 a' b' := by cases a <;> cases b <;> cases a' <;> cases b' <;> rfl
def lk (r c : Nat) (w : Nat → Nat) (e : Nat) : Lk := ⟨e / 2, endN r c e, w e, k2 (crAN c e) (crBN r c e)⟩
def bL (r c : Nat) (w : Nat → Nat) : List Lk := (List.range (2 * (r * c))).map (lk r c w)
def fl (r c : Nat) (w : Nat → Nat) (f : Nat → Bool) : List Lk := ((List.range (2 * (r * c))).filter f).map (lk r c w)
/-! lists of links behind one another -/
/-! what a set of edges has -/
section
variable (r c : Nat) (w : Nat → Nat) (f : Nat → Bool)
end
variable {r c : Nat} {w : Nat → Nat}
def cost (r c : Nat) (w : Nat → Nat) (f : Nat → Bool) : Nat := sm (2 * (r * c)) fun e => if f e then w e else 0
/-- a list of links as a set of edges -/
theorem fn_of (hB : Brd r c) : ∀ es : List Lk, (∀ e ∈ es, e ∈ bL r c w) → ∃ f : Nat → Bool, (∀ x, od es x = lit r c f x) ∧ kx es = k2 (sA r c f) (sB r c f) ∧ ∀ e, e < 2 * (r * c) → f e = true → lk r c w e ∈ es
  | [], _ => ⟨fun _ => false, fun x => by
      show false = _
      unfold lit
      rw [show (fun e => false && uu r c e x) = fun _ => false from funext fun _ => Bool.false_and _, px_ff], by
      unfold sA sB
      simp only [Bool.false_and, px_ff]
      rfl, fun e _ h => by cases h⟩
  | d :: es, h => by
    obtain ⟨f, h1, h2, h3⟩ := fn_of hB es fun e he => h e (List.mem_cons_of_mem _ he)
    obtain ⟨i, hi, rfl⟩ := List.mem_map.mp (h d List.mem_cons_self)
    rw [List.mem_range] at hi
    refine ⟨fun e => decide (e = i) ^^ f e, fun x => ?_, ?_, fun e he hf => ?_⟩
    · rw [od_cons, h1, lit_xor]
      congr 1
      unfold lit
      rw [px_one (fun e => uu r c e x) hi, uu_nat]
      rfl
    · show k2 (crAN c i) (crBN r c i) ^^^ kx es = _
      rw [h2, sA_xor, sB_xor, k2_xor]
      congr 2
      · unfold sA
        rw [px_one (fun e => crA r c (e : Int)) hi, crA_nat hB.2.2.1]
      · unfold sB
        rw [px_one (fun e => crB r c (e : Int)) hi, crB_nat hB.1]
    · by_cases e1 : e = i
      · subst e1; exact List.mem_cons_self
      · have hf' : (decide (e = i) ^^ f e) = true := hf
        rw [decide_eq_false e1, Bool.false_xor] at hf'
        exact List.mem_cons_of_mem _ (h3 e he hf')
/-! the sixteen boards, by trying -/
def chkEnds : Bool := brds.all fun (r, c) => (List.range (2 * (r * c))).all fun e => decide (e / 2 < r * c) && decide (endN r c e < r * c) && (!(crAN c e || crBN r c e) || decide (endN r c e < c) || decide (endN r c e % c = 0))
/-! what is reached from site 0 -/
def rsE (r c e k M : Nat) : Nat :=
  let i := 4 * (e / 2) + k
  let j := 4 * endN r c e + (k ^^^ k2 (crAN c e) (crBN r c e))
  if M.testBit i || M.testBit j then M ||| 2 ^ i ||| 2 ^ j else M
def rsAll (r c M : Nat) : Nat := (List.range (2 * (r * c))).foldl (fun M e => rsE r c e 3 (rsE r c e 2 (rsE r c e 1 (rsE r c e 0 M)))) M
def rsN (r c : Nat) : Nat → Nat
  | 0 => 1
  | n + 1 => rsAll r c (rsN r c n)
def chkR : Bool := brds.all fun (r, c) => let M := rsN r c 10; (List.range (4 * (r * c))).all fun i => M.testBit i
def Rd0 (r c : Nat) (w : Nat → Nat) (M : Nat) : Prop := ∀ x k, k < 4 → M.testBit (4 * x + k) = true → ∃ d, Wk (In (bL r c w)) 0 x k d
/-! rounds -/
end Sb

/-! Seamboard: least. -/
namespace Sb
open PySem PySem.Spec PyProof.Rows L2
variable {r c : Nat}
def wsD (n : Nat) (w : Nat → Nat) : List Dt := (List.range n).map fun e => .int (w e)
/-- what is handed in as costs -/
def CD (r c : Nat) : Option (Nat → Nat) → Dt
  | none => .none
  | some w => .tuple (wsD (2 * (r * c)) w)
def wO : Option (Nat → Nat) → Nat → Nat
  | none => fun _ => 1
  | some w => w
def okW (r c : Nat) : Option (Nat → Nat) → Prop
  | none => True
  | some w => ∀ e, e < 2 * (r * c) → 1 ≤ w e ∧ w e ≤ 99
/-! ### THE least flips -/
/-- of class k with just these sites lit, at this cost, none cheaper -/
structure Lst (r c : Nat) (w : Nat → Nat) (g : Nat → Bool) (k : Nat) (q : Nat) (f : Nat → Bool) : Prop where
  lit : ∀ x, x < r * c → lit r c f x = g x
  cls : k2 (sA r c f) (sB r c f) = k
  cost : cost r c w f = q
  least : ∀ h : Nat → Bool, (∀ x, x < r * c → Sb.lit r c h x = g x) → k2 (sA r c h) (sB r c h) = k → q ≤ Sb.cost r c w h
def leD (r c : Nat) (q : Nat → Nat) (f : Nat → Nat → Bool) : Dt := .list ((List.range 4).map fun k => .tuple [.int (q k), ti (sel (2 * (r * c)) (f k))])
end Sb

/-! Seamboard: unseen, mends. -/
namespace Sb
open PySem PySem.Spec PyProof.Rows L2
variable {r c : Nat}
/-! unseen -/
abbrev U3 := PySem.W.T3 Int (Int × Int) (PySem.W.Tup Int)
def sdI (k : Nat) : Int × Int := ((k / 2 : Nat), (k % 2 : Nat))
def uE (r c : Nat) (q : Nat → Nat) (f : Nat → Nat → Bool) (k : Nat) : U3 := ⟨q k, sdI k, ⟨sel (2 * (r * c)) (f k)⟩⟩
def bst3 (q : Nat → Nat) : Nat := if q 2 < q 1 then (if q 3 < q 2 then 3 else 2) else (if q 3 < q 1 then 3 else 1)
def unD (r c : Nat) (q : Nat → Nat) (f : Nat → Nat → Bool) (k : Nat) : Dt := .tuple [.int (q k), bd (sdI k).1 (sdI k).2, ti (sel (2 * (r * c)) (f k))]
/-! mends -/
/-- the least of the others -/
def mo (q : Nat → Nat) (o : Nat) : Nat := match ((List.range 4).filter fun k => !decide (k = o)).map q with
  | [] => 0
  | x :: xs => xs.foldl min x
def meD (q : Nat → Nat) (o : Nat) : Dt := if q o = mo q o then .none else .bool (decide (q o < mo q o))
end Sb

/-! Seamboard: what the laws of least flips have in common. -/
namespace Sb
open PySem PySem.Spec PyProof.Rows L2
variable {r c : Nat}
def wOf (vs : List Nat) : Nat → Nat := fun e => vs.getD e 1
/-! costs -/
/-- one edge dearer by one -/
def w1 (w : Nat → Nat) (i : Nat) : Nat → Nat := fun e => w e + (if e = i then 1 else 0)
/-! lists of four numbers -/
/-! the least loops by count -/
def chkRows : Bool := brds.all fun (r, c) => (List.range r).all fun i => (List.range (2 * (r * c))).all fun e => (decide (e % 2 = 1) && decide (e / 2 / c = i)) == (crBN r c e ^^ px (r * c) fun s => decide (i < s / c) && (decide (s = e / 2) ^^ decide (s = endN r c e)))
def chkCols : Bool := brds.all fun (r, c) => (List.range c).all fun i => (List.range (2 * (r * c))).all fun e => (!decide (e % 2 = 1) && decide (e / 2 % c = i)) == (crAN c e ^^ px (r * c) fun s => decide (i < s % c) && (decide (s = e / 2) ^^ decide (s = endN r c e)))
def chkLoopCost : Bool := brds.all fun (r, c) => decide (sm (2 * (r * c)) (fun e => if la c e then 1 else 0) = c) && decide (sm (2 * (r * c)) (fun e => if lb c e then 1 else 0) = r)
@[simp] theorem fSlT_e {s : Ss} {ρ : Ro} (a : ME Dt) (l h : ME (Option Int)) : fSlT a l h s ρ = (bnd a fun x => bnd l fun lo => bnd h fun hi => lft (match x with
  | .tuple ds => some (.tuple (cutD ds lo hi))
  | _ => none)) s ρ := (rfl)
@[simp] theorem fCallN_e {s : Ss} {ρ : Ro} (F : Fn) (n m : Nat) (g : List Dt → List Dt → List Dt) (t tk : ME (List Dt)) : fCallN F n m g t tk s ρ = (bnd t fun ds => bnd tk fun zs s ρ => if ds.length = n ∧ zs.length = m then match F (g ds zs) with
  | none => none
  | some r => some (r, ρ)
  else none) s ρ := (rfl)
end Sb

/-! Seamboard: more of what the laws of least flips have in common. -/
namespace Sb
open PySem PySem.Spec PyProof.Rows L2
variable {r c : Nat}
abbrev dd (x : Dt) : Option Wv := some (.d x)
abbrev W (r c : Nat) (w : Nat → Nat) : Dt := .tuple (wsD (2 * (r * c)) w)
abbrev fD (r c : Nat) (f : Nat → Bool) : Dt := ti (sel (2 * (r * c)) f)
abbrev gD (r c : Nat) (f : Nat → Bool) : Dt := ti (sel (r * c) (lit r c f))
abbrev xo (f g : Nat → Bool) : Nat → Bool := fun e => f e ^^ g e
/-! flips joined -/
/-- the seams of a class -/
def sdD (k : Nat) : Dt := bd ((k / 2 : Nat) : Int) ((k % 2 : Nat) : Int)
def sidesD : Dt := .list [.tuple [.int 0, .int 0], .tuple [.int 0, .int 1], .tuple [.int 1, .int 0], .tuple [.int 1, .int 1]]
@[simp] theorem fIndexL_e {s : Ss} {ρ : Ro} (a : ME Dt) (t : ME (List Dt)) : fIndexL a t s ρ = (bnd a fun x => match x with
  | .list ds => bnd t fun ys => lft (match ys with
    | [d] => oIdx ds d
    | _ => none)
  | _ => lft none) s ρ := (rfl)
@[simp] theorem fCallR_e {s : Ss} {ρ : Ro} (F : Fr) (i : Nat) (t : ME (List Dt)) : fCallR F i t s ρ = match s[i]? with
  | some (some .row) => bnd t (fun ds s ρ => match ρ with
    | none => none
    | some x => match F x ds with
      | none => none
      | some (r, x') => some (r, some x')) s ρ
  | _ => none := (rfl)
/-! max, min of lists of numbers -/
end Sb

/-! Seamboard: drawn loops; told least flips judged. -/
namespace Sb
open PySem PySem.Spec PyProof.Rows L2
variable {r c : Nat}
def rowL (c i : Nat) (e : Nat) : Bool := !decide (e % 2 = 1) && decide (e / 2 / c = i)
def colL (c i : Nat) (e : Nat) : Bool := decide (e % 2 = 1) && decide (e / 2 % c = i)
def chkLines : Bool := brds.all fun (r, c) => ((List.range r).all fun i => px (2 * (r * c)) (fun e => rowL c i e && crAN c e) && !px (2 * (r * c)) (fun e => rowL c i e && crBN r c e) && (List.range (r * c)).all fun s => !px (2 * (r * c)) (fun e => rowL c i e && (decide (s = e / 2) ^^ decide (s = endN r c e)))) &&
  ((List.range c).all fun i => !px (2 * (r * c)) (fun e => colL c i e && crAN c e) && px (2 * (r * c)) (fun e => colL c i e && crBN r c e) && (List.range (r * c)).all fun s => !px (2 * (r * c)) (fun e => colL c i e && (decide (s = e / 2) ^^ decide (s = endN r c e))))
/-- a loop by a row, a column, or both -/
def loopF (c i j : Nat) (a b : Bool) : Nat → Bool := xo (fun e => a && rowL c i e) fun e => b && colL c j e
end Sb

/-! Seamboard: drawn numbers beside given ones; the two least. -/
namespace Sb
open PySem PySem.Spec PyProof.Rows L2
variable {r c : Nat}
end Sb

/-! Seamboard: the links of stories (mathematics). -/
namespace Sb
open PySem PySem.Spec PyProof.Rows L2
variable {r c : Nat}
/-! walks carried over -/
/-! lists of links: parts -/
def shf (d : Nat) (e : Lk) : Lk := ⟨e.a + d, e.b + d, e.c, e.k⟩
section
variable (g : Nat → Lk) (f : Nat → Bool)
end
/-! the links of many beats -/
def vL (N li v : Nat) : Lk := ⟨v, v + N, li, 0⟩
def hzL (r c : Nat) (w : Nat → Nat) (n : Nat) : List Lk := (List.range n).flatMap fun b => (bL r c w).map (shf (b * (r * c)))
def vtL (N li m : Nat) : List Lk := (List.range m).map (vL N li)
def sL (r c : Nat) (w : Nat → Nat) (li n : Nat) : List Lk := hzL r c w n ++ vtL (r * c) li ((n - 1) * (r * c))
def hzS (r c : Nat) (w : Nat → Nat) (F : Nat → Nat → Bool) (n : Nat) : List Lk := (List.range n).flatMap fun b => (fl r c w (F b)).map (shf (b * (r * c)))
def vtS (N li : Nat) (h : Nat → Bool) (m : Nat) : List Lk := ((List.range m).filter h).map (vL N li)
variable {w : Nat → Nat}
/-- all flips of the beats ahead -/
def pre (B : Nat → Bt) (n : Nat) : Nat → Bool := fun e => px n fun j => (B j).1 e
end Sb

/-! Seamboard: least stories (mathematics). -/
namespace Sb
open PySem PySem.Spec PyProof.Rows L2
variable {r c : Nat}
def ahd (T : Nat → Nat → Bool) (b s : Nat) : Bool := T b s ^^ (decide (1 ≤ b) && T (b - 1) s)
/-- what a story costs -/
def scost (r c x y n : Nat) (B : Nat → Bt) : Nat := sm n fun b => x * (sel (2 * (r * c)) (B b).1).length + y * (sel (r * c) (B b).2).length
/-- THE least story: it tells just so, none lies at the last beat, it's of class k, it costs q, none is cheaper -/
structure Sto (r c x y : Nat) (T : Nat → Nat → Bool) (n k q : Nat) (B : Nat → Bt) : Prop where
  tells : ∀ b, b < n → ∀ s, s < r * c → (lit r c (pre B (b + 1)) s ^^ (B b).2 s) = T b s
  last : ∀ s, s < r * c → (B (n - 1)).2 s = false
  cls : k2 (sA r c (pre B n)) (sB r c (pre B n)) = k
  cost : scost r c x y n B = q
  least : ∀ B' : Nat → Bt, (∀ b, b < n → ∀ s, s < r * c → (lit r c (pre B' (b + 1)) s ^^ (B' b).2 s) = T b s) → (∀ s, s < r * c → (B' (n - 1)).2 s = false) → k2 (sA r c (pre B' n)) (sB r c (pre B' n)) = k → q ≤ scost r c x y n B'
/-! where sites tell otherwise -/
def chg (N : Nat) (T : Nat → Nat → Bool) (n : Nat) : List Nat := (List.range n).flatMap fun b => ((List.range N).filter (ahd T b)).map fun s => b * N + s
end Sb

/-! Seamboard: the program's stories. -/
namespace Sb
open PySem PySem.Spec PyProof.Rows L2
variable {r c : Nat}
theorem fN_lc {g : ME (List Dt)} {s : Ss} {ρ ρ1 : Ro} {ds : List Dt} (h : g s ρ = some (.ok ds, ρ1)) : fN g s ρ = some (.ok (.list ds), ρ1) := by rw [fN_e, bnd_to h]; rfl
def prv (T : Nat → Nat → Bool) (b : Nat) : Nat → Bool := fun s => decide (1 ≤ b) && T (b - 1) s
def chkRng : Bool := brds.all fun (r, c) => (List.range 6).all fun n => Builtin.Range.small 0 ((n : Int) * ((r : Int) * c)) ((r : Int) * c) && decide ((Builtin.Range.rangeSize 0 ((n : Int) * ((r : Int) * c)) ((r : Int) * c)).toNat = n)
def slS (r c n x y : Nat) (i : Nat) : Ss := [some (.d (bd r c)), di n, di x, di y, some (.d (.int ((r : Int) * c))), some (.d (.list ((bL r c fun _ => x).map lkD))), some (.o (.l ((hzL r c (fun _ => x) i).map lkD))), was (fun i => .int (0 + (i : Int) * ((r : Int) * c))) i, none, none, none, none, none]
def ofBits (r c n bits : Nat) (b : Nat) : Bt := (fun e => bits.testBit (b * (2 * (r * c)) + e), fun s => bits.testBit (n * (2 * (r * c)) + (b * (r * c) + s)))
/-! ### THE least stories -/
def stsD (r c n : Nat) (q : Nat → Nat) (B : Nat → Nat → Bt) : Dt := .list ((List.range 4).map fun k => .tuple [.int (q k), sto r c ((List.range n).map (B k))])
end Sb

/-! Seamboard: the laws' own stories. -/
namespace Sb
open PySem PySem.Spec PyProof.Rows L2
variable {r c : Nat}
/-! told by a story -/
def toldB : MS := (fSeq (fAsg (fCall F_after (fCons (fVar 0) (fCons (fVar 3) (fCons (fVar 4) fNil)))) (fgName 3))
  (fApp 2 (fCall F__law_apart (fCons (fCall F_checks (fCons (fVar 0) (fCons (fVar 3) fNil))) (fCons (fVar 5) fNil)))))
/-! how many changes -/
end Sb

/-! Seamboard: what least stories have to do with one another. -/
namespace Sb
open PySem PySem.Spec PyProof.Rows L2
variable {r c : Nat}
def tell (r c : Nat) (B : Nat → Bt) (b s : Nat) : Bool := lit r c (pre B (b + 1)) s ^^ (B b).2 s
/-! changes and the last beat -/
/-! weights -/
theorem Sto.by {x y : Nat} {T : Nat → Nat → Bool} {n k q : Nat} {B : Nat → Bt} (h : Sto r c x y T n k q B) {x' y' : Nat} {T' : Nat → Nat → Bool} {q' : Nat} {B' : Nat → Bt} (h' : Sto r c x' y' T' n k q' B') (e : ∀ b, b < n → ∀ s, s < r * c → T b s = T' b s) : q ≤ scost r c x y n B' :=
  h.least B' (fun b hb s hs => by rw [h'.tells b hb s hs, e b hb s hs]) h'.last h'.cls
/-! stories behind stories -/
def xB (B B' : Nat → Bt) (b : Nat) : Bt := (xo (B b).1 (B' b).1, fun s => (B b).2 s ^^ (B' b).2 s)
/-! a drawn story -/
/-- four costs as data -/
def qD (q : Nat → Nat) : Dt := .list [.int (q 0 : Nat), .int (q 1 : Nat), .int (q 2 : Nat), .int (q 3 : Nat)]
theorem fOp_to {o : Dt → Dt → Option Dt} {a b : ME Dt} {s : Ss} {ρ ρ1 ρ2 : Ro} {x y z : Dt} (h1 : a s ρ = some (.ok x, ρ1)) (h2 : b s ρ1 = some (.ok y, ρ2)) (h : o x y = some z) : fOp o a b s ρ = some (.ok z, ρ2) := by
  rw [fOp_e, bnd_to h1, bnd_to h2, h]; rfl
theorem fB_to {a : ME Dt} {s : Ss} {ρ ρ1 : Ro} {b : Bool} (h : a s ρ = some (.ok (.bool b), ρ1)) : fB a s ρ = some (.ok b, ρ1) := by
  rw [fB_e, bnd_to h]; rfl
theorem fIf_f {a : ME Bool} {x y : MS} {s : Ss} {ρ ρ1 : Ro} (h : a s ρ = some (.ok false, ρ1)) : fIfS a x y s ρ = y s ρ1 := by
  rw [fIfS_e, fOut_to h]; rfl
theorem fIf_t {a : ME Bool} {x y : MS} {s : Ss} {ρ ρ1 : Ro} (h : a s ρ = some (.ok true, ρ1)) : fIfS a x y s ρ = x s ρ1 := by
  rw [fIfS_e, fOut_to h]; rfl
end Sb

/-! Seamboard: told stories judged, by the law's own reader. -/
namespace Sb
open PySem PySem.Spec PyProof.Rows L2
variable {r c : Nat}
theorem deep_small : ∀ (m : Nat) (ds : List Dt), (∀ d ∈ ds, PyData.canLay0 d = true ∧ PyData.depth d ≤ m) → PyData.canLayAll0 ds = true ∧ PyData.depthAll ds ≤ m
  | _, [], _ => ⟨rfl, Nat.zero_le _⟩
  | m, d :: ds, h => by
    obtain ⟨a, b⟩ := deep_small m ds fun z hz => h z (List.mem_cons_of_mem _ hz)
    obtain ⟨a', b'⟩ := h d List.mem_cons_self
    refine ⟨?_, ?_⟩
    · show (PyData.canLay0 d && PyData.canLayAll0 ds) = true
      rw [a, a']; rfl
    · show max (PyData.depth d) (PyData.depthAll ds) ≤ m
      exact Nat.max_le.mpr ⟨b', b⟩
theorem shaped_tup {m : Nat} (hm : m < 64) {ds : List Dt} (h : ∀ d ∈ ds, PyData.canLay0 d = true ∧ PyData.depth d ≤ m) : SeqAt.shaped (.tuple ds) = true := by
  obtain ⟨a, b⟩ := deep_small m ds h
  show (PyData.canLayAll0 ds && decide (PyData.depthAll ds + 1 ≤ 64)) = true
  rw [a, decide_eq_true (by omega)]; rfl
theorem small_ti (l : List Int) : PyData.canLay0 (ti l) = true ∧ PyData.depth (ti l) ≤ 1 := by
  refine ⟨can_ints l, ?_⟩
  show PyData.depthAll (l.map PyData.int) + 1 ≤ 1
  rw [depth_ints]; exact Nat.le_refl 1
end Sb

/-! Seamboard: flips told one behind another; ends counted, at any places of the state. -/
namespace Sb
open PySem PySem.Spec PyProof.Rows L2
variable {r c : Nat}
/-- the parity of what crosses -/
def pl (g : Int → Bool) (l : List Int) : Bool := decide ((l.filter g).length % 2 = 1)
end Sb

/-! Seamboard, layer L1: defs that hand back a list of their own, or one of such lists. -/
namespace Sb
open PySem PySem.Spec PyProof.Rows L2
section
variable {K : PySem.W.Frag} {mg : Str → Option Value} {E : XK} {Lo : Option Addr} {H0 G H G1 H1 G2 H2 : Hp} {σ : L2.St} {s : Ss} {ρ ρ' : Ro} {A : Nat → List Addr} {D : Ends} {o : Ot} {v : V}
theorem EnS.low0 (e : EnS K Lo H0 G H σ s ρ A) {u : Addr} (hu : H u = none) : H0 u = none := by
  cases z : H0 u with
  | none => rfl
  | some v => exact absurd hu (e.low u (by rw [z]; simp))
theorem Sq.back {u : Addr} (q : Sq Lo G H G1 H1) (hu : H1 u = none) : H u = none := by
  cases z : H u with
  | none => rfl
  | some v => exact absurd hu (q.k u (by rw [z]; simp))
theorem EnS.noA (e : EnS K Lo H0 G H σ s ρ A) {u : Addr} (hu : H u = none) (j : Nat) : u ∉ A j := fun hj => (e.fp j u hj).2.2.1 hu
/-! ### what is returned: a new list -/
def PostL (K : PySem.W.Frag) (mg : Str → Option Value) (E : XK) (Lo : Option Addr) (D : Ends) (H0 G H : Hp) : Ot → Prop
  | .nx s ρ => ∀ σ A G2 H2, Sr Lo H0 G H G2 H2 → EnS K Lo H0 G2 H2 σ s ρ A → D.nx σ H2
  | .bk s ρ => ∀ σ A G2 H2, Sr Lo H0 G H G2 H2 → EnS K Lo H0 G2 H2 σ s ρ A → D.bk σ H2
  | .ct s ρ => ∀ σ A G2 H2, Sr Lo H0 G H G2 H2 → EnS K Lo H0 G2 H2 σ s ρ A → D.ct σ H2
  | .rt d ρ => ∀ es p us G2 H2, d = .list es → Sr Lo H0 G H G2 H2 → H0 p = none → G2 p = none → H2 p = some (.lst us) → DqAll K G2 us es → D.rt (.ref p) H2
  | .er x ρ => ∀ c da G2 H2, Sr Lo H0 G H G2 H2 → RwOk K Lo G2 H2 ρ → ExOk mg x c da H2 → E c da H2
/-- .. a new list of new lists -/
def PostLL (K : PySem.W.Frag) (mg : Str → Option Value) (E : XK) (Lo : Option Addr) (D : Ends) (H0 G H : Hp) : Ot → Prop
  | .nx s ρ => ∀ σ A G2 H2, Sr Lo H0 G H G2 H2 → EnS K Lo H0 G2 H2 σ s ρ A → D.nx σ H2
  | .bk s ρ => ∀ σ A G2 H2, Sr Lo H0 G H G2 H2 → EnS K Lo H0 G2 H2 σ s ρ A → D.bk σ H2
  | .ct s ρ => ∀ σ A G2 H2, Sr Lo H0 G H G2 H2 → EnS K Lo H0 G2 H2 σ s ρ A → D.ct σ H2
  | .rt d ρ => ∀ xss p ps G2 H2, d = .list (xss.map .list) → Sr Lo H0 G H G2 H2 → (p :: ps).Nodup → (∀ q ∈ p :: ps, H0 q = none ∧ G2 q = none) → H2 p = some (.lst (ps.map V.ref)) → LlOk K G2 H2 ps xss → D.rt (.ref p) H2
  | .er x ρ => ∀ c da G2 H2, Sr Lo H0 G H G2 H2 → RwOk K Lo G2 H2 ρ → ExOk mg x c da H2 → E c da H2
def XL (K : PySem.W.Frag) (mg : Str → Option Value) (E : XK) (t : TS) (h : MS) : Prop :=
  ∀ (Lo : Option Addr) (H0 : Hp) (D : Ends) (σ : L2.St) (G H : Hp) (s : Ss) (ρ : Ro) (A : Nat → List Addr) (o : Ot), h s ρ = some o → EnS K Lo H0 G H σ s ρ A → PostL K mg E Lo D H0 G H o → t D σ H
def XLL (K : PySem.W.Frag) (mg : Str → Option Value) (E : XK) (t : TS) (h : MS) : Prop :=
  ∀ (Lo : Option Addr) (H0 : Hp) (D : Ends) (σ : L2.St) (G H : Hp) (s : Ss) (ρ : Ro) (A : Nat → List Addr) (o : Ot), h s ρ = some o → EnS K Lo H0 G H σ s ρ A → PostLL K mg E Lo D H0 G H o → t D σ H
theorem PostL.step (p : PostL K mg E Lo D H0 G H o) (q : Sr Lo H0 G H G1 H1) : PostL K mg E Lo D H0 G1 H1 o := by
  cases o with
  | nx s ρ => exact fun σ A G2 H2 q2 => p σ A G2 H2 (q.trans q2)
  | bk s ρ => exact fun σ A G2 H2 q2 => p σ A G2 H2 (q.trans q2)
  | ct s ρ => exact fun σ A G2 H2 q2 => p σ A G2 H2 (q.trans q2)
  | rt d ρ => exact fun es p' us G2 H2 e q2 => p es p' us G2 H2 e (q.trans q2)
  | er x ρ => exact fun c da G2 H2 q2 => p c da G2 H2 (q.trans q2)
theorem PostLL.step (p : PostLL K mg E Lo D H0 G H o) (q : Sr Lo H0 G H G1 H1) : PostLL K mg E Lo D H0 G1 H1 o := by
  cases o with
  | nx s ρ => exact fun σ A G2 H2 q2 => p σ A G2 H2 (q.trans q2)
  | bk s ρ => exact fun σ A G2 H2 q2 => p σ A G2 H2 (q.trans q2)
  | ct s ρ => exact fun σ A G2 H2 q2 => p σ A G2 H2 (q.trans q2)
  | rt d ρ => exact fun es p' us G2 H2 e q2 => p es p' us G2 H2 e (q.trans q2)
  | er x ρ => exact fun c da G2 H2 q2 => p c da G2 H2 (q.trans q2)
/-- a statement that returns nothing -/
def NoRt (a : MS) : Prop := ∀ s ρ d ρ', a s ρ ≠ some (.rt d ρ')
/-! ### calls of such defs -/
def spL (K : PySem.W.Frag) (F : Fn) : Sp := fun vs H Q _ => ∃ G ds es, Gr G H ∧ DqAll K G vs ds ∧ F ds = some (.ok (.list es)) ∧ ∀ p us G2 H2, Stp G H G2 H2 → H p = none → G2 p = none → H2 p = some (.lst us) → DqAll K G2 us es → Q (.ref p) H2
def spLL (K : PySem.W.Frag) (F : Fn) : Sp := fun vs H Q _ => ∃ G ds xss, Gr G H ∧ DqAll K G vs ds ∧ F ds = some (.ok (.list (xss.map .list))) ∧ ∀ p ps G2 H2, Stp G H G2 H2 → (p :: ps).Nodup → (∀ q ∈ p :: ps, H q = none ∧ G2 q = none) → H2 p = some (.lst (ps.map V.ref)) → LlOk K G2 H2 ps xss → Q (.ref p) H2
def asL : Dt → Option (List Dt)
  | .list es => some es
  | _ => none
def okL : Option (Except Exn Dt) → Option (List Dt)
  | some (.ok d) => asL d
  | _ => none
def fCallL (F : Fn) (t : ME (List Dt)) : ME (List Dt) := bnd t fun ds => lft (okL (F ds))
def fCallLN (F : Fn) (n m : Nat) (g : List Dt → List Dt → List Dt) (t tk : ME (List Dt)) : ME (List Dt) := bnd t fun ds => bnd tk fun zs => lft (if ds.length = n ∧ zs.length = m then okL (F (g ds zs)) else none)
def unll : List Dt → Option (List (List Dt))
  | [] => some []
  | .list x :: r => (unll r).map (x :: ·)
  | _ => none
/-- x = f(..), a list of lists that is its own from now on -/
def fOwnC (F : Fn) (i : Nat) (t : ME (List Dt)) : MS := fOut t fun ds s ρ => match okL (F ds) with
  | some es => match unll es with
    | some xss => some (.nx (s.set i (some (.o (.ll xss)))) ρ)
    | none => none
  | none => none
/-! ### [[..], [..], [..]] -/
def fLitLL3 (i : Nat) (e1 e2 e3 : ME (List Dt)) : MS := fun s ρ => match e1 s ρ with
  | some (.ok x, ρ1) => match e2 s ρ1 with
    | some (.ok y, ρ2) => match e3 s ρ2 with
      | some (.ok z, ρ3) => some (.nx (s.set i (some (.o (.ll [x, y, z])))) ρ3)
      | _ => none
    | _ => none
  | _ => none
/-! ### x.append([..]) -/
theorem EnS.drop (e : EnS K Lo H0 G H σ s ρ A) (i : Nat) : EnS K Lo H0 G H σ (s.set i none) ρ (fun j => if j = i then [] else A j) where
  gr := e.gr
  row := e.row
  lo := e.lo
  low := e.low
  len := by rw [List.length_set, e.len]
  at_ := fun j w hj => by
    by_cases q : j = i
    · subst q
      by_cases hl : j < s.length
      · rw [List.getElem?_set_self hl] at hj; cases hj
      · rw [List.getElem?_eq_none (by rw [List.length_set]; omega)] at hj; cases hj
    · rw [List.getElem?_set_ne (Ne.symm q)] at hj
      rw [if_neg q]
      exact e.at_ j w hj
  fp := fun j p hp => by
    by_cases q : j = i
    · rw [if_pos q] at hp; cases hp
    · rw [if_neg q] at hp; exact e.fp j p hp
  dj := fun j k r h1 h2 => by
    by_cases q : j = i
    · rw [if_pos q] at h1; cases h1
    · rw [if_neg q] at h1
      by_cases q2 : k = i
      · rw [if_pos q2] at h2; cases h2
      · rw [if_neg q2] at h2; exact e.dj j k r h1 h2
  nd := fun j => by
    by_cases q : j = i
    · rw [if_pos q]; exact List.nodup_nil
    · rw [if_neg q]; exact e.nd j
def fAppLLn (i : Nat) (g : ME (List Dt)) : MS := fun s ρ => match s[i]? with
  | some (some (.o (.ll xss))) => match g s ρ with
    | some (.ok es, ρ1) => if xss.length < 100000 then some (.nx (s.set i (some (.o (.ll (xss ++ [es]))))) ρ1) else none
    | _ => none
  | _ => none
/-! ### return x + [[..]] -/
def fRetCat (i : Nat) (g : ME (List Dt)) : MS := fun s ρ => match s[i]? with
  | some (some (.o (.ll xss))) => match g s ρ with
    | some (.ok es, ρ1) => if xss.length < 100000 then some (.rt (.list ((xss ++ [es]).map .list)) ρ1) else none
    | _ => none
  | _ => none
/-! ### for y in x: y.append(5); y.reverse() -/
def fMut (i j : Nat) : MS := fun s ρ => match s[i]? with
  | some (some (.o (.ll xss))) => if i ≠ j ∧ j < s.length ∧ (∀ xs ∈ xss, xs.length < 100000) then some (.nx ((s.set i none).set j none) ρ) else none
  | _ => none
theorem EnS.any {j : Nat} (e : EnS K Lo H0 G H σ s ρ A) (h : s[j]? = some none) : EnS K Lo H0 G H (σ.set j (some v)) s ρ A where
  gr := e.gr
  row := e.row
  lo := e.lo
  low := e.low
  len := by rw [List.length_set, e.len]
  at_ := fun k w hk => by
    have : k ≠ j := fun z => by rw [z, h] at hk; cases hk
    obtain ⟨x, a, b⟩ := e.at_ k w hk
    exact ⟨x, by rw [List.getElem?_set_ne (Ne.symm this)]; exact a, b⟩
  fp := e.fp
  dj := e.dj
  nd := e.nd
end
section
variable {P : Program} {w : World} {K : PySem.W.Frag} {mg : Str → Option Value} {base : Heap} {x : Str} {st : Stmt} {N ps : List Str} {k : Nat}
end
end Sb

/-! Seamboard, layer W1: a watch: its fields, its points; bodies of methods. -/
namespace Sb
open PySem PySem.Spec PyProof.Rows L2
/-- what the text says of the class -/
structure WTxt (K : PySem.W.Frag) (C : Addr) : Prop where
  at_ : PySem.W.nsIn K mainGlobals "Watch" = some (some (.ref C))
  cl : Cls K C
  nb : NoAttr K C "board"
  nf : NoAttr K C "flip"
  nl : NoAttr K C "lie"
  nt : NoAttr K C "beats"
  np : NoAttr K C "points"
inductive Fd where
  | b | f | l | t
def Fd.nm : Fd → Str
  | .b => "board"
  | .f => "flip"
  | .l => "lie"
  | .t => "beats"
def Fd.get : Fd → Wt → Dt
  | .b, w => w.b
  | .f, w => w.f
  | .l, w => w.l
  | .t, w => w.t
def Fd.sel : Fd → V → V → V → V → V
  | .b, u, _, _, _ => u
  | .f, _, u, _, _ => u
  | .l, _, _, u, _ => u
  | .t, _, _, _, u => u
theorem n1 : (("flip" : Str) == "board") = false := by decide +kernel
theorem n2 : (("lie" : Str) == "board") = false := by decide +kernel
theorem n3 : (("beats" : Str) == "board") = false := by decide +kernel
theorem n4 : (("points" : Str) == "board") = false := by decide +kernel
theorem n5 : (("lie" : Str) == "flip") = false := by decide +kernel
theorem n6 : (("beats" : Str) == "flip") = false := by decide +kernel
theorem n7 : (("points" : Str) == "flip") = false := by decide +kernel
theorem n8 : (("beats" : Str) == "lie") = false := by decide +kernel
theorem n9 : (("points" : Str) == "lie") = false := by decide +kernel
theorem n10 : (("points" : Str) == "beats") = false := by decide +kernel
theorem fld_at (vb vf vl vt : V) (p : Addr) (k : Fd) : (wflds vb vf vl vt p).lookup k.nm = some (k.sel vb vf vl vt) := by
  unfold wflds
  cases k <;> simp [Fd.nm, Fd.sel, List.lookup, n1, n2, n3, n4, n5, n6, n7, n8, n9, n10]
theorem fld_pts (vb vf vl vt : V) (p : Addr) : (wflds vb vf vl vt p).lookup ("points" : Str) = some (.ref p) := by
  unfold wflds
  simp [List.lookup, n1, n2, n3, n4, n5, n6, n7, n8, n9, n10]
theorem fld_no (vb vf vl vt : V) (p : Addr) {m : Str} (h : (m == "board") = false ∧ (m == "flip") = false ∧ (m == "lie") = false ∧ (m == "beats") = false ∧ (m == "points") = false) : (wflds vb vf vl vt p).lookup m = none := by
  unfold wflds
  simp [List.lookup, h.1, h.2.1, h.2.2.1, h.2.2.2.1, h.2.2.2.2]
theorem fld_put (vb vf vl vt vt' : V) (p : Addr) : putF "beats" vt' (wflds vb vf vl vt p) = wflds vb vf vl vt' p := by
  have a1 : ¬ (("board" : Str) = "beats") := by decide +kernel
  have a2 : ¬ (("flip" : Str) = "beats") := by decide +kernel
  have a3 : ¬ (("lie" : Str) = "beats") := by decide +kernel
  simp [wflds, putF, a1, a2, a3]
theorem WTxt.no {K : PySem.W.Frag} {C : Addr} (T : WTxt K C) : ∀ k : Fd, NoAttr K C k.nm
  | .b => T.nb
  | .f => T.nf
  | .l => T.nl
  | .t => T.nt
section
variable {K : PySem.W.Frag} {mg : Str → Option Value} {E : XK} {Lo : Option Addr} {H0 G H G1 H1 G2 H2 : Hp} {σ σ' : L2.St} {s : Ss} {ρ ρ' : Ro} {A : Nat → List Addr} {D : Ends} {v : V} {C x p : Addr} {t : Wt} {fp : List Addr}
theorem WTxt.same (T : WTxt K C) {C' : Addr} (h : PySem.W.nsIn K mainGlobals "Watch" = some (some (.ref C'))) : C' = C := by
  have := T.at_.symm.trans h
  cases this; rfl
/-- a watch, told -/
structure WAt (K : PySem.W.Frag) (G H : Hp) (C x p : Addr) (t : Wt) : Prop where
  ex : ∃ dx vb vf vl vt kvs, H x = some (.ins C dx (wflds vb vf vl vt p)) ∧ Dq K G vb t.b ∧ Dq K G vf t.f ∧ Dq K G vl t.l ∧ Dq K G vt t.t ∧ H p = some (.dK kvs) ∧ KqOk K G kvs (ptsK t.ps)
theorem oc_w (T : WTxt K C) (o : OcOk K G H v fp (.w t)) : ∃ x p, v = .ref x ∧ fp = [x, p] ∧ WAt K G H C x p t := by
  obtain ⟨C', x, dx, p, vb, vf, vl, vt, kvs, e0, e1, e2, e3⟩ := o
  cases T.same e0
  exact ⟨x, p, e1, e2, ⟨dx, vb, vf, vl, vt, kvs, e3⟩⟩
theorem w_oc (T : WTxt K C) (o : WAt K G H C x p t) : OcOk K G H (.ref x) [x, p] (.w t) := by
  obtain ⟨dx, vb, vf, vl, vt, kvs, e3⟩ := o.ex
  exact ⟨C, x, dx, p, vb, vf, vl, vt, kvs, T.at_, rfl, rfl, e3⟩
theorem EnS.wat {i : Nat} (T : WTxt K C) (e : EnS K Lo H0 G H σ s ρ A) (hi : s[i]? = some (some (.o (.w t)))) : ∃ x p, σ[i]? = some (some (.ref x)) ∧ A i = [x, p] ∧ WAt K G H C x p t := by
  obtain ⟨v, hv, ok⟩ := e.at_ i _ hi
  obtain ⟨x, p, e1, e2, w⟩ := oc_w T ok
  subst e1
  exact ⟨x, p, hv, e2, w⟩
/-! ### fields -/
def fFld (i : Nat) (k : Fd) : ME Dt := fun s ρ => match s[i]? with
  | some (some (.o (.w t))) => some (.ok (k.get t), ρ)
  | _ => none
theorem fld_dq {k : Fd} {vb vf vl vt : V} (h1 : Dq K G vb t.b) (h2 : Dq K G vf t.f) (h3 : Dq K G vl t.l) (h4 : Dq K G vt t.t) : Dq K G (k.sel vb vf vl vt) (k.get t) := by
  cases k
  · exact h1
  · exact h2
  · exact h3
  · exact h4
theorem xe_fld (T : WTxt K C) {i : Nat} (k : Fd) : XE K mg E (tFld K (tVar i) k.nm) (fFld i k) := fun Lo H0 σ G H s ρ A r ρ' Q hg e q => by
  unfold fFld at hg
  split at hg
  · rename_i t hi
    cases hg
    obtain ⟨x, p, hv, hA, w⟩ := e.wat T hi
    obtain ⟨dx, vb, vf, vl, vt, kvs, h0, h1, h2, h3, h4, _⟩ := w.ex
    exact ⟨_, hv, x, C, dx, _, _, rfl, h0, T.cl, T.no k, fld_at _ _ _ _ _ k, q.ok e (.refl e.gr) (fld_dq h1 h2 h3 h4)⟩
  · cases hg
/-! ### points -/
def fPget (i : Nat) (a : ME Dt) : ME Dt := fun s ρ => match s[i]? with
  | some (some (.o (.w t))) => bnd a (fun y => lft (match y with
    | .str z => getK (ptsK t.ps) (.inr z)
    | _ => none)) s ρ
  | _ => none
theorem xe_pget (T : WTxt K C) {i : Nat} {tk : TE} {a : ME Dt} (ha : XE K mg E tk a) : XE K mg E (tDGet (tFld K (tVar i) "points") tk) (fPget i a) := fun Lo H0 σ G H s ρ A r ρ' Q hg e q => by
  unfold fPget at hg
  split at hg
  · rename_i t hi
    obtain ⟨x, p, hv, hA, w⟩ := e.wat T hi
    obtain ⟨dx, vb, vf, vl, vt, kvs, h0, _⟩ := w.ex
    refine ⟨_, hv, x, C, dx, _, _, rfl, h0, T.cl, T.np, fld_pts _ _ _ _ _, ?_⟩
    refine xj_at ha hg e q fun y d G1 H1 ρ1 s1 dv hg e q => ?_
    obtain ⟨z, hz, rfl, rfl⟩ := lft_some hg
    obtain ⟨x', p', hv', hA', w'⟩ := e.wat T hi
    rw [hv] at hv'; cases hv'
    rw [hA] at hA'; cases hA'
    obtain ⟨_, _, _, _, _, kvs, _, _, _, _, _, hp, hk⟩ := w'.ex
    split at hz
    · rename_i z'
      cases dv
      rcases kq_get (k := .inr z') hk with ⟨_, h⟩ | ⟨u, d', k1, k2, k3⟩
      · rw [hz] at h; cases h
      · rw [hz] at k2
        cases k2
        exact ⟨p, u, rfl, .inl ⟨kvs, .inr z', .inl hp, rfl, k1.symm⟩, q.ok e (.refl e.gr) k3⟩
    · cases hz
  · cases hg
def fPni (i : Nat) (a : ME Dt) : ME Dt := fun s ρ => match s[i]? with
  | some (some (.o (.w t))) => bnd a (fun y => lft (match y with
    | .str z => some (.bool (!(getK (ptsK t.ps) (.inr z)).isSome))
    | _ => none)) s ρ
  | _ => none
theorem xe_pni (T : WTxt K C) {i : Nat} {tk : TE} {a : ME Dt} (ha : XE K mg E tk a) : XE K mg E (tDNotIn tk (tFld K (tVar i) "points")) (fPni i a) := fun Lo H0 σ G H s ρ A r ρ' Q hg e q => by
  unfold fPni at hg
  split at hg
  · rename_i t hi
    show tk σ H _
    refine xj_at ha hg e q fun y d G1 H1 ρ1 s1 dv hg e q => ?_
    obtain ⟨z, hz, rfl, rfl⟩ := lft_some hg
    obtain ⟨x, p, hv, hA, w⟩ := e.wat T hi
    obtain ⟨dx, vb, vf, vl, vt, kvs, h0, _, _, _, _, hp, hk⟩ := w.ex
    split at hz
    · rename_i z'
      cases dv
      cases hz
      refine ⟨_, hv, x, C, dx, _, _, rfl, h0, T.cl, T.np, fld_pts _ _ _ _ _, p, valV kvs (.inr z'), rfl, .inl ⟨kvs, .inr z', .inl hp, rfl, rfl⟩, ?_⟩
      rcases kq_get (k := .inr z') hk with ⟨k1, k2⟩ | ⟨u, d', k1, k2, k3⟩
      · rw [k2] at q; rw [k1]; exact q.ok e (.refl e.gr) (.bl _)
      · rw [k2] at q; rw [k1]; exact q.ok e (.refl e.gr) (.bl _)
    · cases hz
  · cases hg
/-- sorted(self.points) -/
def rSortDS : List V → Hp → VK → Prop := fun xs H Q => ∃ (a : Addr) (kvs : List (Key × V)) (ks : List Str), xs = [.ref a] ∧ Rd H a (.dK kvs) ∧ kvs.map (·.1) = ks.map Sum.inr ∧ ks.length < 64 ∧
    ∀ ys p, ys.Perm ks → sortedS ys = true → H p = none → Q (.ref p) (upd H p (.lst (ys.map V.str)))
theorem kc_sortDS {X : Cx} (hcalm : X.calm = true) : CallR X (.builtin "sorted") rSortDS := call_sortedD hcalm
/-- strictly rising -/
def ltS : List Str → Bool
  | [] => true
  | [_] => true
  | x :: y :: r => decide (x.cps.toList < y.cps.toList) && ltS (y :: r)
def fPsorted (i : Nat) : ME (List Dt) := fun s ρ => match s[i]? with
  | some (some (.o (.w t))) => if (t.ps.map (·.1)).length < 64 ∧ ltS (t.ps.map (·.1)) = true then some (.ok ((t.ps.map (·.1)).map .str), ρ) else none
  | _ => none
theorem kq_keys : ∀ {kvs : List (Key × V)} {kds : List (Key × Dt)}, KqOk K G kvs kds → kvs.map (·.1) = kds.map (·.1)
  | _, _, .nil => rfl
  | _, _, .cons _ b => by rw [List.map_cons, List.map_cons, kq_keys b]
theorem ltS_pair : ∀ {l : List Str}, ltS l = true → l.Pairwise fun a b => a.cps.toList < b.cps.toList
  | [], _ => .nil
  | [_], _ => List.pairwise_singleton _ _
  | x :: y :: r, h => by
    unfold ltS at h
    rw [Bool.and_eq_true, decide_eq_true_eq] at h
    have ih := ltS_pair h.2
    refine List.pairwise_cons.mpr ⟨fun z hz => ?_, ih⟩
    rcases List.mem_cons.mp hz with e | e
    · subst e; exact h.1
    · exact List.lt_trans h.1 ((List.pairwise_cons.mp ih).1 z e)
theorem risS_pair : ∀ {l : List Str}, sortedS l = true → l.Pairwise fun a b => ¬ b.cps.toList < a.cps.toList
  | [], _ => .nil
  | [_], _ => List.pairwise_singleton _ _
  | x :: y :: r, h => by
    have h : (!ltCps y.cps.toList x.cps.toList && risingS y r) = true := h
    rw [Bool.and_eq_true, Bool.not_eq_true'] at h
    have ih := risS_pair (l := y :: r) h.2
    have h1 : ¬ y.cps.toList < x.cps.toList := by
      have := h.1
      rw [ltCps_eq, decide_eq_false_iff_not] at this
      exact this
    refine List.pairwise_cons.mpr ⟨fun z hz => ?_, ih⟩
    rcases List.mem_cons.mp hz with e | e
    · subst e; exact h1
    · have h2 := (List.pairwise_cons.mp ih).1 z e
      exact List.not_lt.mpr (List.le_trans (List.not_lt.mp h1) (List.not_lt.mp h2))
theorem sort_uniq {ys ks : List Str} (hp : ys.Perm ks) (hs : sortedS ys = true) (hk : ltS ks = true) : ys = ks := by
  have p1 := risS_pair hs
  have p2 := ltS_pair hk
  induction ks generalizing ys with
  | nil => exact hp.eq_nil
  | cons k ks ih =>
    cases ys with
    | nil => exact absurd hp.length_eq (by simp)
    | cons y ys =>
      have e : y = k := by
        have hy : y ∈ k :: ks := hp.mem_iff.mp List.mem_cons_self
        have hk' : k ∈ y :: ys := hp.mem_iff.mpr List.mem_cons_self
        rcases List.mem_cons.mp hy with e | e
        · exact e
        · rcases List.mem_cons.mp hk' with e2 | e2
          · exact e2.symm
          · exact absurd ((List.pairwise_cons.mp p2).1 y e) ((List.pairwise_cons.mp p1).1 k e2)
      subst e
      have hp' : ys.Perm ks := hp.cons_inv
      have s' : sortedS ys = true := by
        cases ys with
        | nil => rfl
        | cons a b =>
          have hs : (!ltCps a.cps.toList y.cps.toList && risingS a b) = true := hs
          rw [Bool.and_eq_true] at hs
          exact hs.2
      have k' : ltS ks = true := by
        cases ks with
        | nil => rfl
        | cons a b =>
          unfold ltS at hk
          rw [Bool.and_eq_true] at hk
          exact hk.2
      rw [ih hp' s' k' (List.pairwise_cons.mp p1).2 (List.pairwise_cons.mp p2).2]
/-! ### bodies of methods: self stands in slot 0 -/
inductive OtY where
  | nx (s : Ss) (ρ : Ro) | rt (d : Dt) (s : Ss) (ρ : Ro) | er (x : Exn) (s : Ss) (ρ : Ro)
abbrev MY := Ss → Ro → Option OtY
/-- all stands but the watch at x, its points at p -/
structure SwR (x p : Addr) (G H G2 H2 : Hp) : Prop where
  g : Gr G G2
  s : Gr G2 H2
  h : ∀ a o, a ≠ x → a ≠ p → H a = some o → H2 a = some o
  k : ∀ a, H a ≠ none → H2 a ≠ none
  f : ∀ a, H a ≠ none → G a = none → G2 a = none
def SyR (pr : Bool) (x p : Addr) (G H G2 H2 : Hp) : Prop := if pr = true then Stp G H G2 H2 else SwR x p G H G2 H2
theorem SwR.of (q : Stp G H G2 H2) : SwR x p G H G2 H2 := ⟨q.g, q.s, fun a o _ _ => q.h a o, q.sq.k (Lo := none), q.f⟩
theorem SyR.of {pr : Bool} (q : Stp G H G2 H2) : SyR pr x p G H G2 H2 := by
  cases pr
  · exact SwR.of q
  · exact q
theorem SwR.trans (a : SwR x p G H G1 H1) (b : SwR x p G1 H1 G2 H2) : SwR x p G H G2 H2 := ⟨a.g.trans b.g, b.s, fun u o n m z => b.h u o n m (a.h u o n m z), fun u z => b.k u (a.k u z), fun u z1 z2 => b.f u (a.k u z1) (a.f u z1 z2)⟩
theorem SyR.trans {pr : Bool} (a : SyR pr x p G H G1 H1) (b : SyR pr x p G1 H1 G2 H2) : SyR pr x p G H G2 H2 := by
  cases pr
  · exact SwR.trans a b
  · exact (Stp.trans a b : Stp G H G2 H2)
def PostY (K : PySem.W.Frag) (mg : Str → Option Value) (E : XK) (pr : Bool) (x p : Addr) (D : Ends) (H0 : Hp) (σ : L2.St) (A : Nat → List Addr) (G H : Hp) : OtY → Prop
  | .nx s ρ => ∀ σ' G2 H2, SyR pr x p G H G2 H2 → EnS K none H0 G2 H2 σ' s ρ A → σ'[0]? = σ[0]? → D.nx σ' H2
  | .rt d s ρ => ∀ σ' v G2 H2, SyR pr x p G H G2 H2 → EnS K none H0 G2 H2 σ' s ρ A → σ'[0]? = σ[0]? → Dq K G2 v d → D.rt v H2
  | .er e s ρ => ∀ σ' c da G2 H2, SyR pr x p G H G2 H2 → EnS K none H0 G2 H2 σ' s ρ A → σ'[0]? = σ[0]? → ExOk mg e c da H2 → E c da H2
def YS (K : PySem.W.Frag) (mg : Str → Option Value) (E : XK) (pr : Bool) (t : TS) (h : MY) : Prop :=
  ∀ (x p : Addr) (H0 : Hp) (D : Ends) (σ : L2.St) (G H : Hp) (s : Ss) (ρ : Ro) (A : Nat → List Addr) (o : OtY), h s ρ = some o → EnS K none H0 G H σ s ρ A → A 0 = [x, p] → PostY K mg E pr x p D H0 σ A G H o → t D σ H
variable {pr : Bool} {o : OtY}
theorem PostY.step (q : PostY K mg E pr x p D H0 σ A G H o) (r : SyR pr x p G H G1 H1) (hσ : σ'[0]? = σ[0]?) : PostY K mg E pr x p D H0 σ' A G1 H1 o := by
  cases o with
  | nx s ρ => exact fun τ G2 H2 r2 e z => q τ G2 H2 (r.trans r2) e (z.trans hσ)
  | rt d s ρ => exact fun τ v G2 H2 r2 e z => q τ v G2 H2 (r.trans r2) e (z.trans hσ)
  | er e s ρ => exact fun τ c da G2 H2 r2 e z => q τ c da G2 H2 (r.trans r2) e (z.trans hσ)
def yOut {α : Type} (e : ME α) (k : α → MY) : MY := fun s ρ => match e s ρ with
  | none => none
  | some (.error x, ρ1) => some (.er x s ρ1)
  | some (.ok a, ρ1) => k a s ρ1
theorem ys_at {α γ : Type} {P1 : Hp → α → γ → Prop} {t1 : L2.St → Hp → (α → Hp → Prop) → Prop} {g : ME γ} {k : γ → MY} {S : α → Hp → Prop}
    (h1 : XJ K mg E P1 t1 g) (hg : yOut g k s ρ = some o) (e : EnS K none H0 G H σ s ρ A) (q : PostY K mg E pr x p D H0 σ A G H o)
    (c : ∀ v d G1 H1 ρ1, Stp G H G1 H1 → P1 G1 v d → k d s ρ1 = some o → EnS K none H0 G1 H1 σ s ρ1 A → PostY K mg E pr x p D H0 σ A G1 H1 o → S v H1) : t1 σ H S := by
  unfold yOut at hg
  cases h : g s ρ with
  | none => rw [h] at hg; cases hg
  | some z =>
    obtain ⟨r1, ρ1⟩ := z
    rw [h] at hg
    cases r1 with
    | error x => cases hg; exact h1 none H0 σ G H s ρ A _ _ _ h e fun c da G2 H2 s2 r2 hx => q σ c da G2 H2 (.of s2.stp) (e.step s2 r2) rfl hx
    | ok d => exact h1 none H0 σ G H s ρ A _ _ _ h e fun v G1 H1 s1 r1 p1 => c v d G1 H1 ρ1 s1.stp p1 hg (e.step s1 r1) (q.step (.of s1.stp) rfl)
def yNext : MY := fun s ρ => some (.nx s ρ)
theorem ys_next : YS K mg E pr tNext yNext := fun x p H0 D σ G H s ρ A o h e hA q => by
  cases h
  exact q σ G H (.of (.refl e.gr)) e rfl
def ySeq (a b : MY) : MY := fun s ρ => match a s ρ with
  | some (.nx s1 ρ1) => b s1 ρ1
  | o => o
theorem ys_seq {t u : TS} {a b : MY} (ha : YS K mg E pr t a) (hb : YS K mg E pr u b) : YS K mg E pr (tSeq t u) (ySeq a b) := fun x p H0 D σ G H s ρ A o h e hA q => by
  unfold ySeq at h
  cases h1 : a s ρ with
  | none => rw [h1] at h; cases h
  | some o1 =>
    rw [h1] at h
    refine ha x p H0 { D with nx := u D } σ G H s ρ A o1 h1 e hA ?_
    cases o1 with
    | nx s1 ρ1 => exact fun σ2 G2 H2 q2 e2 z => hb x p H0 D σ2 G2 H2 s1 ρ1 A o h e2 hA (q.step q2 z)
    | rt d s ρ => cases h; exact q
    | er x s ρ => cases h; exact q
def yDrop (a : ME Dt) : MY := yOut a fun _ s ρ => some (.nx s ρ)
theorem ys_drop {ta : TE} {a : ME Dt} (ha : XE K mg E ta a) : YS K mg E pr (tDrop ta) (yDrop a) := fun x p H0 D σ G H s ρ A o h e hA q => by
  show ta σ H _
  refine ys_at ha h e q fun v d G1 H1 ρ1 s1 dv h e q => ?_
  cases h
  exact q σ G1 H1 (.of (.refl e.gr)) e rfl
def yRet (a : ME Dt) : MY := yOut a fun d s ρ => some (.rt d s ρ)
theorem ys_ret {ta : TE} {a : ME Dt} (ha : XE K mg E ta a) : YS K mg E pr (tRet ta) (yRet a) := fun x p H0 D σ G H s ρ A o h e hA q => by
  show ta σ H _
  refine ys_at ha h e q fun v d G1 H1 ρ1 s1 dv h e q => ?_
  cases h
  exact q σ v G1 H1 (.of (.refl e.gr)) e rfl dv
def yIf (c : ME Bool) (a b : MY) : MY := yOut c fun x => if x = true then a else b
theorem ys_if {tc : TT} {t u : TS} {c : ME Bool} {a b : MY} (hc : XT K mg E tc c) (ha : YS K mg E pr t a) (hb : YS K mg E pr u b) : YS K mg E pr (tIfS tc t u) (yIf c a b) := fun x p H0 D σ G H s ρ A o h e hA q => by
  show tc σ H _
  refine ys_at hc h e q fun v d G1 H1 ρ1 s1 dv h e q => ?_
  subst dv
  cases v with
  | true => exact iteT (ha x p H0 D σ G1 H1 s ρ1 A o h e hA q)
  | false => exact iteF (hb x p H0 D σ G1 H1 s ρ1 A o h e hA q)
def yNever : MY := fun _ _ => none
theorem ys_never {t : TS} : YS K mg E pr t yNever := fun x p H0 D σ G H s ρ A o h e hA q => by cases h
def yAsg (a : ME Dt) (tg : FG) : MY := yOut a fun d s ρ => match tg d s with
  | some s1 => some (.nx s1 ρ)
  | none => none
theorem SwR.wr (w : EnS K none H0 G H σ s ρ A) (hA : A 0 = [x, p]) (hd : ∀ a, a ≠ x → a ≠ p → H2 a = H a) (hk : ∀ a, H a ≠ none → H2 a ≠ none) (g2 : Gr G H2) : SwR x p G H G H2 := ⟨.refl _, g2, fun a o n m h => by rw [hd a n m]; exact h, hk, fun _ _ h => h⟩
/-- self.beats = e -/
def ySetT (a : ME Dt) : MY := yOut a fun d s ρ => match (s[0]? : Option (Option Wv)) with
  | some (some (.o (.w t))) => some (.nx (s.set 0 (some (.o (.w { t with t := d })))) ρ)
  | _ => none
theorem ys_setT (T : WTxt K C) {ta : TE} {a : ME Dt} (ha : XE K mg E ta a) : YS K mg E false (sFld K (tVar 0) ta "beats") (ySetT a) := fun x p H0 D σ G H s ρ A o h e hA q => by
  show ta σ H _
  refine ys_at ha h e q fun v d G1 H1 ρ1 s1 dv h e q => ?_
  split at h
  · rename_i t hi
    cases h
    obtain ⟨x', p', hv, hA', w⟩ := e.wat T hi
    rw [hA] at hA'; cases hA'
    obtain ⟨dx, vb, vf, vl, vt, kvs, h0, h1, h2, h3, h4, hp, hk⟩ := w.ex
    have hxp : x ≠ p := fun z => by rw [z, hp] at h0; cases h0
    refine ⟨_, hv, x, C, dx, _, rfl, h0, T.cl, T.nt, by show 5 < 1000; decide, ?_⟩
    rw [fld_put]
    have W := e.write (H2 := upd H1 x (.ins C dx (wflds vb vf vl v p))) (c' := .w { t with t := d }) hi hv (fun a ha => upd_ne fun z => ha (by rw [hA, z]; exact List.mem_cons_self)) (fun a ha => by
      by_cases z : a = x
      · rw [z, upd_same]; simp
      · rw [upd_ne z]; exact (e.fp 0 a ha).2.2.1) (by
        rw [hA]
        exact w_oc T ⟨dx, vb, vf, vl, v, kvs, upd_same, h1, h2, h3, dv, by rw [upd_ne hxp.symm]; exact hp, hk⟩)
    exact q σ G1 _ (SwR.wr e hA (fun a n _ => upd_ne n) W.1.k W.1.s) W.2 rfl
  · cases h
/-- self.points[name] = self.beats -/
def yMark (j : Nat) : MY := fun s ρ => match (s[0]? : Option (Option Wv)), (s[j]? : Option (Option Wv)) with
  | some (some (.o (.w t))), some (some (.d (.str z))) => if t.ps.length < 100000 then some (.nx (s.set 0 (some (.o (.w { t with ps := if (t.ps.any fun q => decide (q.1 = z)) = true then t.ps.map (fun q => if q.1 = z then (q.1, t.t) else q) else t.ps ++ [(z, t.t)] })))) ρ) else none
  | _, _ => none
theorem pts_any (z : Str) : ∀ ps : List (Str × Dt), ((ptsK ps).any fun kd => decide (kd.1 = Sum.inr z)) = (ps.any fun q => decide (q.1 = z))
  | [] => rfl
  | q :: ps => by
    show (decide (Sum.inr q.1 = Sum.inr z) || (ptsK ps).any _) = _
    rw [pts_any z ps, List.any_cons]
    congr 1
    by_cases h : q.1 = z
    · rw [decide_eq_true h, decide_eq_true (congrArg Sum.inr h)]
    · rw [decide_eq_false h, decide_eq_false fun e => h (Sum.inr.inj e)]
theorem pts_put (z : Str) (d : Dt) (ps : List (Str × Dt)) : putD (ptsK ps) (.inr z) d = ptsK (if (ps.any fun q => decide (q.1 = z)) = true then ps.map (fun q => if q.1 = z then (q.1, d) else q) else ps ++ [(z, d)]) := by
  unfold putD
  rw [pts_any]
  split
  · unfold ptsK
    rw [List.map_map, List.map_map]
    refine List.map_congr_left fun q _ => ?_
    show (if Sum.inr q.1 = Sum.inr z then _ else _) = _
    by_cases h : q.1 = z
    · simp [h]
    · have : ¬ (Sum.inr q.1 : Key) = Sum.inr z := fun e => h (Sum.inr.inj e)
      simp [h, this]
  · unfold ptsK
    rw [List.map_append]
    rfl
theorem ys_mark (T : WTxt K C) {j : Nat} : YS K mg E false (sDPut (tFld K (tVar 0) "points") (tVar j) (tFld K (tVar 0) "beats")) (yMark j) := fun x p H0 D σ G H s ρ A o h e hA q => by
  unfold yMark at h
  split at h
  · rename_i t z hi hj
    split at h
    · rename_i hl
      cases h
      obtain ⟨x', p', hv, hA', w⟩ := e.wat T hi
      rw [hA] at hA'; cases hA'
      obtain ⟨dx, vb, vf, vl, vt, kvs, h0, h1, h2, h3, h4, hp, hk⟩ := w.ex
      obtain ⟨u, hu, du⟩ := e.at_ j _ hj
      have du : Dq K G u (.str z) := du
      cases du
      have hxp : x ≠ p := fun z => by rw [z, hp] at h0; cases h0
      have hlen : kvs.length = t.ps.length := by
        have := congrArg List.length (kq_keys hk)
        unfold ptsK at this
        rw [List.length_map, List.length_map, List.length_map] at this
        exact this
      refine ⟨_, hv, x, C, dx, _, _, rfl, h0, T.cl, T.nt, fld_at vb vf vl vt p .t, ?_⟩
      refine ⟨_, hv, x, C, dx, _, _, rfl, h0, T.cl, T.np, fld_pts _ _ _ _ _, ?_⟩
      refine ⟨_, hu, p, _, rfl, DPut.k (k := .inr z) hp (by rw [hlen]; exact Evl.sz_lt hl), ?_⟩
      have W := e.write (H2 := upd H p (.dK (putK kvs (.inr z) vt))) (c' := .w { t with ps := if (t.ps.any fun q => decide (q.1 = z)) = true then t.ps.map (fun q => if q.1 = z then (q.1, t.t) else q) else t.ps ++ [(z, t.t)] }) hi hv (fun a ha => upd_ne fun z => ha (by rw [hA, z]; exact List.mem_cons_of_mem _ List.mem_cons_self)) (fun a ha => by
        by_cases z : a = p
        · rw [z, upd_same]; simp
        · rw [upd_ne z]; exact (e.fp 0 a ha).2.2.1) (by
          rw [hA]
          exact w_oc T ⟨dx, vb, vf, vl, vt, _, by rw [upd_ne hxp]; exact h0, h1, h2, h3, h4, upd_same, by
            show KqOk K G _ (ptsK _)
            rw [← pts_put]
            exact kq_put h4 hk⟩)
      exact q σ G _ (SwR.wr e hA (fun a _ m => upd_ne m) W.1.k W.1.s) W.2 rfl
    · cases h
  · cases h
end
/-! ### methods -/
abbrev Fy := Wt → List Dt → Option (Except Exn Dt × Wt)
/-- what a method promises -/
def spY (K : PySem.W.Frag) (mg : Str → Option Value) (C : Addr) (pr : Bool) (F : Fy) : Sp := fun vs H Q E => ∃ G x p us t ds r, vs = .ref x :: us ∧ Gr G H ∧ WAt K G H C x p t ∧ G x = none ∧ G p = none ∧ DqAll K G us ds ∧ F t ds = some r ∧ match r with
  | (.ok d, t') => ∀ v G2 H2, SyR pr x p G H G2 H2 → WAt K G2 H2 C x p t' → G2 x = none → G2 p = none → Dq K G2 v d → Q v H2
  | (.error e, t') => ∀ c da G2 H2, SyR pr x p G H G2 H2 → WAt K G2 H2 C x p t' → G2 x = none → G2 p = none → ExOk mg e c da H2 → E c da H2
def outY : Option OtY → Option (Except Exn Dt × Wt)
  | some (.rt d s _) => match (s[0]? : Option (Option Wv)) with
    | some (some (.o (.w t))) => some (.ok d, t)
    | _ => none
  | some (.nx s _) => match (s[0]? : Option (Option Wv)) with
    | some (some (.o (.w t))) => some (.ok .none, t)
    | _ => none
  | some (.er x s _) => match (s[0]? : Option (Option Wv)) with
    | some (some (.o (.w t))) => some (.error x, t)
    | _ => none
  | none => none
def argY (n : Nat) (t : Wt) (ds : List Dt) : Ss := some (.o (.w t)) :: argS (n - 1) ds
def runY (np n : Nat) (b : MY) : Fy := fun t ds => if ds.length + 1 = np then outY (b (argY n t ds) none) else none
end Sb

/-! Seamboard, layer W2: methods by their functions; calls that change a watch. -/
namespace Sb
open PySem PySem.Spec PyProof.Rows L2
def outYn : Option OtY → Option (Except Exn Dt × Wt)
  | some (.rt d s _) => match (s[0]? : Option (Option Wv)) with
    | some (some (.o (.w t))) => some (.ok d, t)
    | _ => none
  | some (.nx s _) => match (s[0]? : Option (Option Wv)) with
    | some (some (.o (.w t))) => some (.ok .none, t)
    | _ => none
  | _ => none
/-- a method that lets nothing out -/
def runYn (np n : Nat) (b : MY) : Fy := fun t ds => if ds.length + 1 = np then outYn (b (argY n t ds) none) else none
section
variable {P : Program} {w : World} {K : PySem.W.Frag} {mg : Str → Option Value} {base : Heap} {m qual : Str} {st : Stmt} {N ps : List Str} {k : Nat} {C : Addr}
open Classical in
noncomputable def hidW (H : Hp) (x p : Addr) : Hp := fun a => if a = x ∨ a = p then none else H a
theorem hidW_x {H : Hp} {x p : Addr} : hidW H x p x = none := if_pos (.inl rfl)
theorem hidW_p {H : Hp} {x p : Addr} : hidW H x p p = none := if_pos (.inr rfl)
theorem hidW_in {H : Hp} {x p a : Addr} (h : hidW H x p a ≠ none) : H a ≠ none := fun z => h (by
  unfold hidW
  split
  · rfl
  · exact z)
theorem start_ensY {G H : Hp} {vs : List V} {ds : List Dt} {x p : Addr} {t : Wt} (N : List Str) (hN : 0 < N.length) (T : WTxt K C) (g : Gr G H) (w : WAt K G H C x p t) (gx : G x = none) (gp : G p = none) (h : DqAll K G vs ds) :
    EnS K none (hidW H x p) G H (L2.start N (.ref x :: vs)) (argY N.length t ds) none (fun i => if i = 0 then [x, p] else []) := by
  have hl := dqs_len h
  have wx : H x ≠ none := by obtain ⟨_, _, _, _, _, _, h, _⟩ := w.ex; rw [h]; simp
  have wp : H p ≠ none := by obtain ⟨_, _, _, _, _, _, _, _, _, _, _, h, _⟩ := w.ex; rw [h]; simp
  have xp : x ≠ p := fun z => by
    obtain ⟨_, _, _, _, _, _, h1, _, _, _, _, h2, _⟩ := w.ex
    rw [z, h2] at h1; cases h1
  refine ⟨g, fun z hz => (nomatch hz), fun L h => (nomatch h), fun a h => hidW_in h, ?_, fun i u hi => ?_, fun i q hq => ?_, fun i j q h1 h2 => ?_, fun i => ?_⟩
  · unfold L2.start argY argS; simp [hl]; omega
  · cases i with
    | zero =>
      have e : u = .o (.w t) := by
        have := Option.some.inj hi
        exact (Option.some.inj this).symm
      subst e
      exact ⟨.ref x, rfl, w_oc T w⟩
    | succ i =>
      have hi' : (argS (N.length - 1) ds)[i]? = some (some u) := by simpa [argY] using hi
      show ∃ v, ((some (V.ref x) :: vs.map some) ++ List.replicate (N.length - (vs.length + 1)) none)[i + 1]? = some (some v) ∧ _
      rw [List.cons_append, List.getElem?_cons_succ]
      unfold argS at hi'
      by_cases h1 : i < ds.length
      · rw [List.getElem?_append_left (by simpa using h1), List.getElem?_map, List.getElem?_eq_getElem h1] at hi'
        have e : u = .d ds[i] := by
          have := Option.some.inj hi'
          exact (Option.some.inj this).symm
        subst e
        obtain ⟨v, e1, e2⟩ := dqs_get h (List.getElem?_eq_getElem h1)
        exact ⟨v, by rw [List.getElem?_append_left (by simpa [hl] using h1), List.getElem?_map, e1]; rfl, e2⟩
      · rw [List.getElem?_append_right (by simpa using h1), List.getElem?_replicate] at hi'
        split at hi' <;> cases hi'
  · by_cases z : i = 0
    · rw [if_pos z] at hq
      rcases List.mem_cons.mp hq with e | e
      · subst e; exact ⟨gx, hidW_x, wx, by simp⟩
      · rw [List.mem_singleton.mp e]; exact ⟨gp, hidW_p, wp, by simp⟩
    · rw [if_neg z] at hq; cases hq
  · by_cases z : i = 0
    · by_cases z2 : j = 0
      · rw [z, z2]
      · rw [if_neg z2] at h2; cases h2
    · rw [if_neg z] at h1; cases h1
  · by_cases z : i = 0
    · rw [if_pos z]
      exact List.nodup_cons.mpr ⟨fun h => xp (List.mem_singleton.mp h), List.nodup_cons.mpr ⟨List.not_mem_nil, List.nodup_nil⟩⟩
    · rw [if_neg z]; exact List.nodup_nil
/-- THE RULE for a method -/
theorem hasY {pr : Bool} {b : MY} {f : Addr} {fd : FuncData} (hF : Fun K m qual st f fd) (T : WTxt K C) (S : FnScope N ps (defScope st)) (hN : 0 < N.length)
    (hb : ∀ (cdv : Value) (A : Around) (outer : List Env) (s : Shared) (H : Hp) (E : XK), Room k (A.deeper (envOfC qual (defScope st) s.heap.objs.size f cdv)) →
      ∃ t, PSs (cxOf CX0 P w K mg base N qual (defScope st) f cdv A outer s H E).nox (defBody st) t ∧ YS K mg E0 pr t b) : FnOk P w K mg base CX0 (k + 1) f fd ps (spY K mg C pr (runYn ps.length N.length b)) := by
  refine hF.ok S (fun vs H Q E h => ?_) (fun cdv A outer s H vs Q E hr h => ?_)
  · obtain ⟨G, x, p, us, t, ds, r, rfl, _, _, _, _, dv, f, _⟩ := h
    unfold runYn at f
    split at f
    · rename_i e; rw [List.length_cons, dqs_len dv, e]
    · cases f
  · obtain ⟨G, x, p, us, t, ds, r, rfl, g, wa, gx, gp, dv, hf, q⟩ := h
    unfold runYn at hf
    split at hf
    · obtain ⟨tt, ht, hy⟩ := hb cdv A outer s H E hr
      refine ⟨tt, ht, ?_⟩
      have e0 := start_ensY N hN T g wa gx gp dv
      cases ho : b (argY N.length t ds) none with
      | none => rw [ho] at hf; cases hf
      | some o =>
        rw [ho] at hf
        refine hy x p (hidW H x p) _ _ G H _ none _ o ho e0 rfl ?_
        have fin : ∀ {σ' : L2.St} {G2 H2 : Hp} {s' : Ss} {ρ' : Ro} {t' : Wt}, EnS K none (hidW H x p) G2 H2 σ' s' ρ' (fun i => if i = 0 then [x, p] else []) → s'[0]? = some (some (.o (.w t'))) → WAt K G2 H2 C x p t' ∧ G2 x = none ∧ G2 p = none := fun {σ' G2 H2 s' ρ' t'} e hs => by
          obtain ⟨x', p', _, hA, w'⟩ := e.wat T hs
          have hA : [x, p] = [x', p'] := hA
          cases hA
          exact ⟨w', (e.fp 0 x List.mem_cons_self).1, (e.fp 0 p (List.mem_cons_of_mem _ List.mem_cons_self)).1⟩
        cases o with
        | rt d s' ρ' =>
          unfold outYn at hf
          simp only [] at hf
          split at hf
          · rename_i t' hs
            cases hf
            intro σ' v G2 H2 r2 e2 _ d2
            obtain ⟨a1, a2, a3⟩ := fin e2 hs
            exact q v G2 H2 r2 a1 a2 a3 d2
          · cases hf
        | nx s' ρ' =>
          unfold outYn at hf
          simp only [] at hf
          split at hf
          · rename_i t' hs
            cases hf
            intro σ' G2 H2 r2 e2 _
            obtain ⟨a1, a2, a3⟩ := fin e2 hs
            exact q .non G2 H2 r2 a1 a2 a3 .non
          · cases hf
        | er x s' ρ' => cases hf
    · cases hf
structure HasM (P : Program) (w : World) (K : PySem.W.Frag) (mg : Str → Option Value) (base : Heap) (C : Addr) (m : Str) (k : Nat) (ps : List Str) (sp : Sp) : Prop where
  ex : ∃ f fd, FnOk P w K mg base CX0 k f fd ps sp ∧ Meth K C m f ∧ Binds K fd ps []
end
section
variable {X : Cx} {m : Str} {k : Nat} {ps : List Str} {sp : Sp} {p pos apos : Pos} {o e : Expr} {es : List Expr} {ta : TE} {t : TA} {C : Addr} {pl : Sem Bool}
theorem cm (h : HasM X.prog X.w X.K X.mg X.base C m k ps sp) (c : Cls X.K C) (hr : Room k X.A) (he : PE X o ta) (ha : PA X (e :: es) t)
    (hst : starEach (e :: es) X.env = (false, eval e X.env) :: starEach es X.env := by rfl) (hpl : (backTo pos (starEach es X.env)).any (·.1) = false := by rfl)
    (ht : eval (.Call (.Attribute o m apos) (e :: es) [] pos) X.env = (do
      let ov ← eval o X.env
      standAt apos.atName
      let (f, first) ← holding [ov] (getMethod ov m pl)
      callWith pos f first (backTo pos (starEach (e :: es) X.env)) (backToKw pos (keywordEach [] X.env))) := by rfl) :
    PE X (.Call (.Attribute o m apos) (e :: es) [] pos) (tMeth C m sp [] E0 ta t) := by
  obtain ⟨f, fd, F, hm, hb⟩ := h.ex
  exact pe_meth he c hm F hr hb .nil pass0 ha hst hpl ht
theorem cm0 (h : HasM X.prog X.w X.K X.mg X.base C m k ps sp) (c : Cls X.K C) (hr : Room k X.A) (he : PE X o ta)
    (ht : eval (.Call (.Attribute o m apos) [] [] pos) X.env = (do
      let ov ← eval o X.env
      standAt apos.atName
      let (f, first) ← holding [ov] (getMethod ov m pl)
      callWith pos f first (backTo pos (starEach [] X.env)) (backToKw pos (keywordEach [] X.env))) := by rfl) :
    PE X (.Call (.Attribute o m apos) [] [] pos) (tMeth C m sp [] E0 ta tNil) := by
  obtain ⟨f, fd, F, hm, hb⟩ := h.ex
  exact pe_meth0 he c hm F hr hb .nil pass0 ht
end
def notF (m : Str) : Bool := !(m == ("board" : Str)) && !(m == ("flip" : Str)) && !(m == ("lie" : Str)) && !(m == ("beats" : Str)) && !(m == ("points" : Str))
section
variable {K : PySem.W.Frag} {mg : Str → Option Value} {E : XK} {Lo : Option Addr} {H0 G H G1 H1 G2 H2 : Hp} {σ σ' : L2.St} {s : Ss} {ρ ρ' : Ro} {A : Nat → List Addr} {D : Ends} {v : V} {C x p : Addr} {t : Wt} {m : Str}
theorem not_fld (h : notF m = true) (vb vf vl vt : V) (p : Addr) : (wflds vb vf vl vt p).lookup m = none := by
  unfold notF at h
  simp only [Bool.and_eq_true, Bool.not_eq_true'] at h
  exact fld_no _ _ _ _ _ ⟨h.1.1.1.1, h.1.1.1.2, h.1.1.2, h.1.2, h.2⟩
/-! a method that changes nothing -/
def fMethR (F : Fy) (i : Nat) (a : ME (List Dt)) : ME Dt := fun s ρ => match s[i]? with
  | some (some (.o (.w w))) => bnd a (fun ds s ρ => match F w ds with
    | some (.ok d, _) => some (.ok d, ρ)
    | some (.error x, _) => some (.error x, ρ)
    | none => none) s ρ
  | _ => none
/-! ### expressions that change things -/
abbrev MV (α : Type) := Ss → Ro → Option (Except Exn α × Ss × Ro)
def KtV {β γ : Type} (K : PySem.W.Frag) (mg : Str → Option Value) (E : XK) (P : Hp → β → γ → Prop) (Lo : Option Addr) (H0 : Hp) (σ : L2.St) (G H : Hp) (Q : β → Hp → Prop) (s' : Ss) (ρ' : Ro) : Except Exn γ → Prop
  | .ok d => ∀ v A2 G2 H2, Sr Lo H0 G H G2 H2 → EnS K Lo H0 G2 H2 σ s' ρ' A2 → P G2 v d → Q v H2
  | .error x => ∀ c da G2 H2, Sr Lo H0 G H G2 H2 → RwOk K Lo G2 H2 ρ' → ExOk mg x c da H2 → E c da H2
def XVJ {β γ : Type} (K : PySem.W.Frag) (mg : Str → Option Value) (E : XK) (P : Hp → β → γ → Prop) (t : L2.St → Hp → (β → Hp → Prop) → Prop) (g : MV γ) : Prop :=
  ∀ (Lo : Option Addr) (H0 : Hp) (σ : L2.St) (G H : Hp) (s : Ss) (ρ : Ro) (A : Nat → List Addr) (r : Except Exn γ) (s' : Ss) (ρ' : Ro) (Q : β → Hp → Prop), g s ρ = some (r, s', ρ') → EnS K Lo H0 G H σ s ρ A → KtV K mg E P Lo H0 σ G H Q s' ρ' r → t σ H Q
abbrev XV (K : PySem.W.Frag) (mg : Str → Option Value) (E : XK) (t : TE) (g : MV Dt) : Prop := XVJ K mg E (Dq K) t g
abbrev XVT (K : PySem.W.Frag) (mg : Str → Option Value) (E : XK) (t : TT) (g : MV Bool) : Prop := XVJ K mg E (fun _ b c => b = c) t g
theorem KtV.step {β γ : Type} {P : Hp → β → γ → Prop} {Q : β → Hp → Prop} {s' : Ss} {r : Except Exn γ} (k : KtV K mg E P Lo H0 σ G H Q s' ρ' r) (q : Sr Lo H0 G H G1 H1) : KtV K mg E P Lo H0 σ G1 H1 Q s' ρ' r := by
  cases r with
  | ok d => exact fun v A2 G2 H2 s2 => k v A2 G2 H2 (q.trans s2)
  | error x => exact fun c da G2 H2 s2 => k c da G2 H2 (q.trans s2)
def vOf {α : Type} (g : ME α) : MV α := fun s ρ => match g s ρ with
  | some (r, ρ') => some (r, s, ρ')
  | none => none
theorem xv_of {β γ : Type} {P : Hp → β → γ → Prop} {t : L2.St → Hp → (β → Hp → Prop) → Prop} {g : ME γ} (h : XJ K mg E P t g) : XVJ K mg E P t (vOf g) := fun Lo H0 σ G H s ρ A r s' ρ' Q hg e q => by
  unfold vOf at hg
  split at hg
  · rename_i r1 ρ1 hq
    cases hg
    refine h Lo H0 σ G H s ρ A r _ Q hq e ?_
    cases r with
    | ok d => exact fun v G2 H2 s2 r2 p2 => q v A G2 H2 (s2.sr e.low) (e.step s2 r2) p2
    | error x => exact fun c da G2 H2 s2 r2 hx => q c da G2 H2 (s2.sr e.low) r2 hx
  · cases hg
def vBnd {α β : Type} (g : MV α) (k : α → MV β) : MV β := fun s ρ => match g s ρ with
  | none => none
  | some (.error x, s1, ρ1) => some (.error x, s1, ρ1)
  | some (.ok a, s1, ρ1) => k a s1 ρ1
def vLft {α : Type} (o : Option α) : MV α := fun s ρ => match o with
  | none => none
  | some a => some (.ok a, s, ρ)
theorem vLft_some {α : Type} {o : Option α} {s s' : Ss} {ρ ρ' : Ro} {r : Except Exn α} (h : vLft o s ρ = some (r, s', ρ')) : ∃ a, o = some a ∧ r = .ok a ∧ s' = s ∧ ρ' = ρ := by
  unfold vLft at h
  cases o with
  | none => cases h
  | some a => cases h; exact ⟨a, rfl, rfl, rfl, rfl⟩
theorem xv_at {α β γ δ : Type} {P1 : Hp → α → γ → Prop} {P2 : Hp → β → δ → Prop} {t1 : L2.St → Hp → (α → Hp → Prop) → Prop} {g : MV γ} {k : γ → MV δ} {r : Except Exn δ} {s' : Ss} {Q : β → Hp → Prop} {S : α → Hp → Prop}
    (h1 : XVJ K mg E P1 t1 g) (hg : vBnd g k s ρ = some (r, s', ρ')) (e : EnS K Lo H0 G H σ s ρ A) (q : KtV K mg E P2 Lo H0 σ G H Q s' ρ' r)
    (c : ∀ v d A1 G1 H1 s1 ρ1, Sr Lo H0 G H G1 H1 → P1 G1 v d → k d s1 ρ1 = some (r, s', ρ') → EnS K Lo H0 G1 H1 σ s1 ρ1 A1 → KtV K mg E P2 Lo H0 σ G1 H1 Q s' ρ' r → S v H1) : t1 σ H S := by
  unfold vBnd at hg
  split at hg
  · cases hg
  · rename_i x s1 ρ1 hq
    cases hg
    exact h1 Lo H0 σ G H s ρ A _ _ _ _ hq e q
  · rename_i d s1 ρ1 hq
    exact h1 Lo H0 σ G H s ρ A _ _ _ _ hq e fun v A1 G1 H1 sr e1 p1 => c v d A1 G1 H1 s1 ρ1 sr p1 hg e1 (q.step sr)
def vOp (o : Dt → Dt → Option Dt) (a b : MV Dt) : MV Dt := vBnd a fun x => vBnd b fun y => vLft (o x y)
theorem xv_op {r : R2} {o : Dt → Dt → Option Dt} {ta tb : TE} {a b : MV Dt} (hr : RVo K r o) (ha : XV K mg E ta a) (hb : XV K mg E tb b) : XV K mg E (tOp r ta tb) (vOp o a b) := fun Lo H0 σ G H s ρ A r' s' ρ' Q hg e q => by
  show ta σ H _
  refine xv_at ha hg e q fun v x A1 G1 H1 s1 ρ1 sr1 dv hg e q => ?_
  show tb σ H1 _
  refine xv_at hb hg e q fun u y A2 G2 H2 s2 ρ2 sr2 du hg e q => ?_
  obtain ⟨z, hz, rfl, rfl, rfl⟩ := vLft_some hg
  exact hr x y z hz G2 H2 v u Q e.gr (Dqu dv sr2.g) du fun w G3 H3 s3 dw => q w A2 G3 H3 (s3.sq.sr e.low) (e.stp s3) dw
def vB (a : MV Dt) : MV Bool := vBnd a fun x => vLft (asB x)
theorem xvt_test {ta : TE} {a : MV Dt} (ha : XV K mg E ta a) : XVT K mg E (tTest ta) (vB a) := fun Lo H0 σ G H s ρ A r s' ρ' Q hg e q => by
  show ta σ H _
  refine xv_at ha hg e q fun v x A1 G1 H1 s1 ρ1 sr1 dv hg e q => ?_
  obtain ⟨b, hb, rfl, rfl, rfl⟩ := vLft_some hg
  have := asB_some hb
  subst this
  cases dv
  exact ⟨b, rfl, q b A1 G1 H1 (.refl e.gr) e rfl⟩
theorem xvt_B {ta : TE} {a : MV Dt} (ha : XV K mg E ta a) : XVT K mg E (tB ta) (vB a) := xvt_test ha
def vNot (a : MV Bool) : MV Bool := vBnd a fun b => vLft (some (!b))
theorem xvt_not {ta : TT} {a : MV Bool} (ha : XVT K mg E ta a) : XVT K mg E (tNot ta) (vNot a) := fun Lo H0 σ G H s ρ A r s' ρ' Q hg e q => by
  show ta σ H _
  refine xv_at ha hg e q fun v x A1 G1 H1 s1 ρ1 sr1 dv hg e q => ?_
  obtain ⟨b, hb, rfl, rfl, rfl⟩ := vLft_some hg
  cases hb
  subst dv
  exact q _ A1 G1 H1 (.refl e.gr) e rfl
def vAnd (a b : MV Bool) : MV Bool := vBnd a fun x => if x = true then b else vLft (some false)
def vOr (a b : MV Bool) : MV Bool := vBnd a fun x => if x = true then vLft (some true) else b
theorem xvt_and {ta tb : TT} {a b : MV Bool} (ha : XVT K mg E ta a) (hb : XVT K mg E tb b) : XVT K mg E (tAnd ta tb) (vAnd a b) := fun Lo H0 σ G H s ρ A r s' ρ' Q hg e q => by
  show ta σ H _
  refine xv_at ha hg e q fun v x A1 G1 H1 s1 ρ1 sr1 dv hg e q => ?_
  subst dv
  cases v with
  | true => exact iteT (hb Lo H0 σ G1 H1 s1 ρ1 A1 r s' ρ' Q hg e q)
  | false =>
    rw [if_neg (by decide)] at hg
    obtain ⟨b, hb, rfl, rfl, rfl⟩ := vLft_some hg
    cases hb
    exact iteF (q _ A1 G1 H1 (.refl e.gr) e rfl)
/-! a method that changes its watch -/
theorem EnS.wM (T : WTxt K C) {i : Nat} {t t' : Wt} (e : EnS K Lo H0 G H σ s ρ A) (hi : s[i]? = some (some (.o (.w t)))) (hv : σ[i]? = some (some (.ref x))) (hA : A i = [x, p]) (r : SwR x p G H G2 H2) (w : WAt K G2 H2 C x p t') :
    Sr Lo H0 G H G2 H2 ∧ EnS K Lo H0 G2 H2 σ (s.set i (some (.o (.w t')))) ρ A := by
  have ix : x ∈ A i := by rw [hA]; exact List.mem_cons_self
  have ip : p ∈ A i := by rw [hA]; exact List.mem_cons_of_mem _ List.mem_cons_self
  obtain ⟨x1, x2, x3, x4⟩ := e.fp i x ix
  obtain ⟨p1, p2, p3, p4⟩ := e.fp i p ip
  refine ⟨⟨r.g, r.s, fun a o _ m h => r.h a o (fun z => m (by rw [z]; exact x2)) (fun z => m (by rw [z]; exact p2)) h, r.k, fun a h1 h2 => r.f a (e.low a h1) h2⟩, r.s, fun y hy => ?_, fun L h => r.k L (e.lo L h), fun a h => r.k a (e.low a h), by rw [List.length_set]; exact e.len, fun j u hu => ?_, fun j q hq => ?_, e.dj, e.nd⟩
  · obtain ⟨L, e1, hr⟩ := e.row y hy
    obtain ⟨a, ea, h2⟩ := hr.at_
    have lx : L ≠ x := fun z => x4 (by rw [← z]; exact e1.symm)
    have lp : L ≠ p := fun z => p4 (by rw [← z]; exact e1.symm)
    exact ⟨L, e1, r.f L (ne_of_some ea) hr.g, a, r.h _ _ lx lp ea, gr_l r.g h2⟩
  · by_cases z : j = i
    · subst z
      have hl : j < s.length := (List.getElem?_eq_some_iff.mp hi).1
      rw [List.getElem?_set_self hl] at hu
      cases hu
      refine ⟨.ref x, hv, ?_⟩
      rw [hA]
      exact w_oc T w
    · rw [List.getElem?_set_ne (Ne.symm z)] at hu
      obtain ⟨v, a, b⟩ := e.at_ j u hu
      refine ⟨v, a, wvOk_step b r.g fun q hq o ho => r.h q o (fun y => z (e.dj j i q hq (by rw [y]; exact ix))) (fun y => z (e.dj j i q hq (by rw [y]; exact ip))) ho⟩
  · obtain ⟨a1, a2, a3, a4⟩ := e.fp j q hq
    exact ⟨r.f q a3 a1, a2, r.k q a3, a4⟩
def vMeth (F : Fy) (i : Nat) (a : ME (List Dt)) : MV Dt := fun s ρ => match s[i]? with
  | some (some (.o (.w w))) => match a s ρ with
    | some (.ok ds, ρ1) => match F w ds with
      | some (.ok d, w') => some (.ok d, s.set i (some (.o (.w w'))), ρ1)
      | some (.error x, w') => some (.error x, s.set i (some (.o (.w w'))), ρ1)
      | none => none
    | some (.error x, ρ1) => some (.error x, s, ρ1)
    | none => none
  | _ => none
theorem xv_meth (T : WTxt K C) {F : Fy} {i : Nat} {tt : TA} {a : ME (List Dt)} (hm : notF m = true) (ha : XA K mg E tt a) : XV K mg E (tMeth C m (spY K mg C false F) [] E (tVar i) tt) (vMeth F i a) := fun Lo H0 σ G H s ρ A r s' ρ' Q hg e q => by
  unfold vMeth at hg
  split at hg
  · rename_i w hi
    obtain ⟨x, p, hv, hA, wa⟩ := e.wat T hi
    obtain ⟨dx, vb, vf, vl, vt, kvs, h0, _⟩ := wa.ex
    refine ⟨_, hv, x, dx, _, rfl, h0, not_fld hm _ _ _ _ _, ?_⟩
    split at hg
    · rename_i ds ρ1 hq
      refine ha Lo H0 σ G H s ρ A _ _ _ hq e fun vs G1 H1 s1 r1 dv => ?_
      have e1 := e.step s1 r1
      obtain ⟨x', p', hv', hA', wa'⟩ := e1.wat T hi
      rw [hv] at hv'; cases hv'
      rw [hA] at hA'; cases hA'
      have gx := (e1.fp i x (by rw [hA]; exact List.mem_cons_self)).1
      have gp := (e1.fp i p (by rw [hA]; exact List.mem_cons_of_mem _ List.mem_cons_self)).1
      split at hg
      · rename_i d t' hF
        cases hg
        refine ⟨G1, x, p, vs, w, ds, _, by rw [List.append_nil], e1.gr, wa', gx, gp, dv, hF, fun v G2 H2 st w2 _ _ d2 => ?_⟩
        obtain ⟨a1, a2⟩ := e1.wM T hi hv hA (show SwR _ _ _ _ _ _ from st) w2
        exact q v A G2 H2 ((s1.sr e.low).trans a1) a2 d2
      · rename_i y t' hF
        cases hg
        refine ⟨G1, x, p, vs, w, ds, _, by rw [List.append_nil], e1.gr, wa', gx, gp, dv, hF, fun c da G2 H2 st w2 _ _ hx => ?_⟩
        obtain ⟨a1, a2⟩ := e1.wM T hi hv hA (show SwR _ _ _ _ _ _ from st) w2
        exact q c da G2 H2 ((s1.sr e.low).trans a1) a2.row hx
      · cases hg
    · rename_i y ρ1 hq
      cases hg
      exact ha Lo H0 σ G H _ ρ A _ _ _ hq e fun c da G2 H2 s2 r2 hx => q c da G2 H2 (s2.sr e.low) r2 hx
    · cases hg
  · cases hg
/-! statements -/
def fIfV (c : MV Bool) (a b : MS) : MS := fun s ρ => match c s ρ with
  | none => none
  | some (.error x, _, ρ1) => some (.er x ρ1)
  | some (.ok y, s1, ρ1) => (if y = true then a else b) s1 ρ1
theorem xs_ifV {tc : TT} {t u : TS} {c : MV Bool} {a b : MS} (hc : XVT K mg E tc c) (ha : XS K mg E t a) (hb : XS K mg E u b) : XS K mg E (tIfS tc t u) (fIfV c a b) := fun Lo H0 D σ G H s ρ A o h e q => by
  unfold fIfV at h
  show tc σ H _
  split at h
  · cases h
  · rename_i x s1 ρ1 hq
    cases h
    exact hc Lo H0 σ G H s ρ A _ _ _ _ hq e fun c da G2 H2 s2 r2 hx => q c da G2 H2 s2 r2 hx
  · rename_i y s1 ρ1 hq
    refine hc Lo H0 σ G H s ρ A _ _ _ _ hq e fun v A2 G2 H2 s2 e2 p2 => ?_
    subst p2
    cases v with
    | true => exact iteT (ha Lo H0 D σ G2 H2 s1 ρ1 A2 o h e2 (q.step s2))
    | false => exact iteF (hb Lo H0 D σ G2 H2 s1 ρ1 A2 o h e2 (q.step s2))
def fDropV (a : MV Dt) : MS := fun s ρ => match a s ρ with
  | none => none
  | some (.error x, _, ρ1) => some (.er x ρ1)
  | some (.ok _, s1, ρ1) => some (.nx s1 ρ1)
theorem xs_dropV {ta : TE} {a : MV Dt} (ha : XV K mg E ta a) : XS K mg E (tDrop ta) (fDropV a) := fun Lo H0 D σ G H s ρ A o h e q => by
  unfold fDropV at h
  show ta σ H _
  split at h
  · cases h
  · rename_i x s1 ρ1 hq
    cases h
    exact ha Lo H0 σ G H s ρ A _ _ _ _ hq e fun c da G2 H2 s2 r2 hx => q c da G2 H2 s2 r2 hx
  · rename_i y s1 ρ1 hq
    cases h
    exact ha Lo H0 σ G H s ρ A _ _ _ _ hq e fun v A2 G2 H2 s2 e2 p2 => q σ A2 G2 H2 s2 e2
end
end Sb

/-! Seamboard, layer W3: tuples, sorted. -/
namespace Sb
open PySem PySem.Spec PyProof.Rows L2
def sortIx (ds : List Dt) : List Nat := (List.range ds.length).mergeSort (PySem.W.dataLe false fun i => ds.getD i .none)
def tupsB (ds : List Dt) : Bool := ds.all fun d => match d with
  | .tuple (_ :: _) => true
  | _ => false
def rSortData (K : PySem.W.Frag) : List V → Hp → VK → Prop := fun zs H Q => ∃ (a : Addr) (us : List V) (ds : List Dt), zs = [.ref a] ∧ SqL K H a us ∧ DpAll K H us ds ∧ PySem.W.AlikeAll ds ∧ tupsB ds = true ∧ PyData.depthAll ds ≤ 60 ∧ ds.length ≤ 1000 ∧
  ∀ p, H p = none → Q (.ref p) (upd H p (.lst ((sortIx ds).map fun i => us.getD i .non)))
section
variable {X : Cx}
end
def oSortData : List Dt → Option (List Dt)
  | [.list ds] => if (alk ds && tupsB ds && decide (PyData.depthAll ds ≤ 60) && decide (ds.length ≤ 1000)) = true then some ((sortIx ds).map fun i => ds.getD i .none) else none
  | _ => none
end Sb

/-! Seamboard, layer W4: a watch is made. -/
namespace Sb
open PySem PySem.Spec PyProof.Rows L2
/-- what __init__ promises -/
def spInit (K : PySem.W.Frag) (C : Addr) (Fb Fc : Fn) : Sp := fun vs H Q _ => ∃ G x dx vb vf vl b f l, vs = [.ref x, vb, vf, vl] ∧ Gr G H ∧ H x = some (.ins C dx []) ∧ G x = none ∧ Dq K G vb b ∧ Dq K G vf f ∧ Dq K G vl l ∧ Fb [b] = some (.ok .none) ∧ Fc [f] = some (.ok .none) ∧ Fc [l] = some (.ok .none) ∧
  ∀ p G2 H2, Gr G G2 → Gr G2 H2 → (∀ a o, a ≠ x → H a = some o → H2 a = some o) → (∀ a, H a ≠ none → H2 a ≠ none) → (∀ a, H a ≠ none → G a = none → G2 a = none) → H p = none → G2 p = none → G2 x = none → WAt K G2 H2 C x p ⟨b, f, l, .tuple [], []⟩ → Q .non H2
section
variable {K : PySem.W.Frag} {mg : Str → Option Value} {C : Addr} {Fb Fc : Fn}
theorem init_go (T : WTxt K C) {vs : List V} {H : Hp} {Q : VK} {E : XK} (h : spInit K C Fb Fc vs H Q E) :
    (tSeq (tDrop (tCall (spF K mg Fb) [] E0 (tCons (tVar 1) tNil))) (tSeq (tDrop (tCall (spF K mg Fc) [] E0 (tCons (tVar 2) tNil))) (tSeq (tDrop (tCall (spF K mg Fc) [] E0 (tCons (tVar 3) tNil))) (tSeq (sFld K (tVar 0) (tVar 1) "board") (tSeq (sFld K (tVar 0) (tVar 2) "flip") (tSeq (sFld K (tVar 0) (tVar 3) "lie") (tSeq (sFld K (tVar 0) (tTup tNil) "beats") (sFld K (tVar 0) tDNewK "points"))))))))
      { nx := fun _ H' => Q .non H', rt := Q } (L2.start ["self", "board", "flip", "lie"] vs) H := by
  obtain ⟨G, x, dx, vb, vf, vl, b, f, l, rfl, g, hx, gx, db, df, dl, h1, h2, h3, q⟩ := h
  have step : ∀ {G1 H1 G2 H2 : Hp}, Stp G1 H1 G2 H2 → H1 x = some (.ins C dx []) → G1 x = none → H2 x = some (.ins C dx []) ∧ G2 x = none := fun s hx gx => ⟨s.h _ _ hx, s.f x (ne_of_some hx) gx⟩
  refine ⟨vb, rfl, G, [b], .ok .none, g, .cons db .nil, h1, fun _ G1 H1 s1 _ => ?_⟩
  obtain ⟨hx1, gx1⟩ := step s1 hx gx
  refine ⟨vf, rfl, G1, [f], .ok .none, s1.s, .cons (Dqu df s1.g) .nil, h2, fun _ G2 H2 s2 _ => ?_⟩
  obtain ⟨hx2, gx2⟩ := step s2 hx1 gx1
  have s12 := s1.trans s2
  refine ⟨vl, rfl, G2, [l], .ok .none, s2.s, .cons (Dqu dl s12.g) .nil, h3, fun _ G3 H3 s3 _ => ?_⟩
  obtain ⟨hx3, gx3⟩ := step s3 hx2 gx2
  have s13 := s12.trans s3
  have len : ∀ n : Nat, n < 10 → n < 1000 := fun n h => by omega
  -- board, flip, lie
  refine ⟨vb, rfl, _, rfl, x, C, dx, [], rfl, hx3, T.cl, T.nb, len 0 (by decide), ?_⟩
  refine ⟨vf, rfl, _, rfl, x, C, dx, _, rfl, upd_same, T.cl, T.nf, by show 1 < 1000; decide, ?_⟩
  refine ⟨vl, rfl, _, rfl, x, C, dx, _, rfl, upd_same, T.cl, T.nl, ?_, ?_⟩
  · have e2 : putF "flip" vf (putF "board" vb []) = ([("board", vb), ("flip", vf)] : List (Str × V)) := by
      have a1 : ¬ (("board" : Str) = "flip") := by decide +kernel
      simp [putF, a1]
    rw [e2]
    show 2 < 1000
    decide
  have e3 : putF "lie" vl (putF "flip" vf (putF "board" vb [])) = ([("board", vb), ("flip", vf), ("lie", vl)] : List (Str × V)) := by
    have a1 : ¬ (("board" : Str) = "flip") := by decide +kernel
    have a2 : ¬ (("board" : Str) = "lie") := by decide +kernel
    have a3 : ¬ (("flip" : Str) = "lie") := by decide +kernel
    simp [putF, a1, a2, a3]
  rw [e3]
  -- beats
  refine ⟨by rw [sizeLine_eq]; exact Nat.zero_le _, fun t ht => ?_⟩
  have xt : x ≠ t := fun z => by rw [← z, upd_same] at ht; cases ht
  refine ⟨_, rfl, x, C, dx, _, rfl, by rw [upd_ne xt]; exact upd_same, T.cl, T.nt, by show 3 < 1000; decide, ?_⟩
  have e4 : putF "beats" (V.ref t) ([("board", vb), ("flip", vf), ("lie", vl)] : List (Str × V)) = ([("board", vb), ("flip", vf), ("lie", vl), ("beats", .ref t)] : List (Str × V)) := by
    have a1 : ¬ (("board" : Str) = "beats") := by decide +kernel
    have a2 : ¬ (("flip" : Str) = "beats") := by decide +kernel
    have a3 : ¬ (("lie" : Str) = "beats") := by decide +kernel
    simp [putF, a1, a2, a3]
  rw [e4]
  -- points
  intro p hp
  have xp : x ≠ p := fun z => by rw [← z, upd_same] at hp; cases hp
  refine ⟨_, rfl, x, C, dx, _, rfl, by rw [upd_ne xp]; exact upd_same, T.cl, T.np, by show 4 < 1000; decide, ?_⟩
  have e5 : putF "points" (V.ref p) ([("board", vb), ("flip", vf), ("lie", vl), ("beats", V.ref t)] : List (Str × V)) = wflds vb vf vl (.ref t) p := by
    have a1 : ¬ (("board" : Str) = "points") := by decide +kernel
    have a2 : ¬ (("flip" : Str) = "points") := by decide +kernel
    have a3 : ¬ (("lie" : Str) = "points") := by decide +kernel
    have a4 : ¬ (("beats" : Str) = "points") := by decide +kernel
    simp [putF, wflds, a1, a2, a3, a4]
  rw [e5]
  -- where all lies now
  have ht3 : H3 t = none := by rw [upd_ne xt.symm, upd_ne xt.symm, upd_ne xt.symm] at ht; exact ht
  have tp : t ≠ p := fun z => by rw [← z, upd_ne xt.symm, upd_same] at hp; cases hp
  have hp3 : H3 p = none := by rw [upd_ne xp.symm, upd_ne tp.symm, upd_ne xp.symm, upd_ne xp.symm, upd_ne xp.symm] at hp; exact hp
  obtain ⟨n1, n2⟩ := newq_t (K := K) (vs := []) (ds := []) s3.s ht3 .nil
  have back : ∀ {a}, H3 a = none → H a = none := fun {a} h => by
    cases z : H a with
    | none => rfl
    | some o => rw [s13.h _ _ z] at h; cases h
  have key : ∀ a, a ≠ x → a ≠ t → a ≠ p → upd (upd (upd (upd (upd (upd (upd H3 x (.ins C dx (putF "board" vb []))) x (.ins C dx (putF "flip" vf (putF "board" vb [])))) x (.ins C dx [("board", vb), ("flip", vf), ("lie", vl)])) t (.tup [])) x (.ins C dx [("board", vb), ("flip", vf), ("lie", vl), ("beats", .ref t)])) p (.dK [])) x (.ins C dx (wflds vb vf vl (.ref t) p)) a = H3 a := fun a h1 h2 h3 => by
    rw [upd_ne h1, upd_ne h3, upd_ne h1, upd_ne h2, upd_ne h1, upd_ne h1, upd_ne h1]
  have kt : upd (upd (upd (upd (upd (upd (upd H3 x (.ins C dx (putF "board" vb []))) x (.ins C dx (putF "flip" vf (putF "board" vb [])))) x (.ins C dx [("board", vb), ("flip", vf), ("lie", vl)])) t (.tup [])) x (.ins C dx [("board", vb), ("flip", vf), ("lie", vl), ("beats", .ref t)])) p (.dK [])) x (.ins C dx (wflds vb vf vl (.ref t) p)) t = some (.tup []) := by
    rw [upd_ne xt.symm, upd_ne tp, upd_ne xt.symm, upd_same]
  have kp : upd (upd (upd (upd (upd (upd (upd H3 x (.ins C dx (putF "board" vb []))) x (.ins C dx (putF "flip" vf (putF "board" vb [])))) x (.ins C dx [("board", vb), ("flip", vf), ("lie", vl)])) t (.tup [])) x (.ins C dx [("board", vb), ("flip", vf), ("lie", vl), ("beats", .ref t)])) p (.dK [])) x (.ins C dx (wflds vb vf vl (.ref t) p)) p = some (.dK []) := by
    rw [upd_ne xp.symm, upd_same]
  have kx : upd (upd (upd (upd (upd (upd (upd H3 x (.ins C dx (putF "board" vb []))) x (.ins C dx (putF "flip" vf (putF "board" vb [])))) x (.ins C dx [("board", vb), ("flip", vf), ("lie", vl)])) t (.tup [])) x (.ins C dx [("board", vb), ("flip", vf), ("lie", vl), ("beats", .ref t)])) p (.dK [])) x (.ins C dx (wflds vb vf vl (.ref t) p)) x = some (.ins C dx (wflds vb vf vl (.ref t) p)) := upd_same
  generalize upd (upd (upd (upd (upd (upd (upd H3 x (.ins C dx (putF "board" vb []))) x (.ins C dx (putF "flip" vf (putF "board" vb [])))) x (.ins C dx [("board", vb), ("flip", vf), ("lie", vl)])) t (.tup [])) x (.ins C dx [("board", vb), ("flip", vf), ("lie", vl), ("beats", .ref t)])) p (.dK [])) x (.ins C dx (wflds vb vf vl (.ref t) p)) = H9 at key kt kp kx
  have g4x : upd G3 t (.tup []) x = none := by rw [upd_ne xt]; exact gx3
  have g4p : upd G3 t (.tup []) p = none := by rw [upd_ne tp.symm]; exact s3.s.back hp3
  refine q p (upd G3 t (.tup [])) H9 (s13.g.trans n1.g) (fun a o ha => ?_) (fun a o ax ha => ?_) (fun a ha => ?_) (fun a h1 h2 => ?_) (back hp3) g4p g4x ⟨dx, vb, vf, vl, .ref t, [], kx, Dqu db (s13.g.trans n1.g), Dqu df (s13.g.trans n1.g), Dqu dl (s13.g.trans n1.g), n2, kp, .nil⟩
  · by_cases z : a = t
    · rw [z, upd_same] at ha; rw [z, kt]; exact ha
    · rw [upd_ne z] at ha
      have ax : a ≠ x := fun y => by rw [y, gx3] at ha; cases ha
      have ap : a ≠ p := fun y => by rw [y, s3.s.back hp3] at ha; cases ha
      rw [key a ax z ap]
      exact s3.s _ _ ha
  · have at' : a ≠ t := fun y => by rw [y, back ht3] at ha; cases ha
    have ap : a ≠ p := fun y => by rw [y, back hp3] at ha; cases ha
    rw [key a ax at' ap]
    exact s13.h _ _ ha
  · by_cases ax : a = x
    · rw [ax, kx]; simp
    · have at' : a ≠ t := fun y => ha (by rw [y]; exact back ht3)
      have ap : a ≠ p := fun y => ha (by rw [y]; exact back hp3)
      rw [key a ax at' ap]
      obtain ⟨o, ho⟩ := some_of_ne ha
      rw [s13.h _ _ ho]; simp
  · have at' : a ≠ t := fun y => h1 (by rw [y]; exact back ht3)
    rw [upd_ne at']
    exact s13.f a h1 h2
end
section
variable {K : PySem.W.Frag} {mg : Str → Option Value} {E : XK} {Lo : Option Addr} {H0 G H G1 H1 G2 H2 : Hp} {σ : L2.St} {s : Ss} {ρ ρ' : Ro} {A : Nat → List Addr} {D : Ends} {C : Addr} {Fb Fc : Fn}
def isOkN : Option (Except Exn Dt) → Bool
  | some (.ok .none) => true
  | _ => false
theorem isOkN_t {r : Option (Except Exn Dt)} (h : isOkN r = true) : r = some (.ok .none) := by
  cases r with
  | none => cases h
  | some r =>
    cases r with
    | error x => cases h
    | ok d => cases d <;> first | rfl | cases h
/-- x, y = e, Watch(b, flip=f, lie=l) -/
def fParDW (Fb Fc : Fn) (i j : Nat) (a b f l : ME Dt) : MS := fOut a fun d => fOut b fun vb => fOut f fun vf => fOut l fun vl s ρ => if (isOkN (Fb [vb]) && isOkN (Fc [vf]) && isOkN (Fc [vl])) = true then some (.nx ((s.set i (some (.d d))).set j (some (.o (.w ⟨vb, vf, vl, .tuple [], []⟩)))) ρ) else none
end
end Sb

/-! Seamboard, layer W5: the class in the text. -/
namespace Sb
open PySem PySem.Spec PyProof.Rows L2
theorem wtxt_mk {K : PySem.W.Frag} {C : Addr} (a : PySem.W.nsIn K mainGlobals "Watch" = some (some (.ref C))) (p1 : PySem.W.plainGet K C Str.empty = true) (p2 : PySem.W.hasDictIn K C = true) (p3 : PySem.W.plainOver K C = true)
    (p4 : PySem.W.findIn K (.ref C) "__setattr__" = some (some (.builtin "object.__setattr__"))) (n1 : PySem.W.findIn K (.ref C) "board" = some none) (n2 : PySem.W.findIn K (.ref C) "flip" = some none) (n3 : PySem.W.findIn K (.ref C) "lie" = some none)
    (n4 : PySem.W.findIn K (.ref C) "beats" = some none) (n5 : PySem.W.findIn K (.ref C) "points" = some none) : WTxt K C := ⟨a, ⟨p1, p2, p3, p4⟩, n1, n2, n3, n4, n5⟩
structure TextM (K : PySem.W.Frag) (C : Addr) (m qual : Str) (st : Stmt) : Prop where
  ex : ∃ (f : Addr) (oc : Value) (od : Option Addr) (osl : Array (Option Value)) (kV dc pm : Value) (an : Option Addr) (cd ct : Value), PySem.W.findIn K (.ref C) m = some (some (.ref f)) ∧ PySem.W.isFn K (.ref f) = true ∧
    K.lookup f = some ⟨oc, od, .func (PySem.W.fnOf m qual (defArgs st) (defBody st) (defScope st) .none kV dc pm an cd ct), osl⟩ ∧ PySem.W.codeIn K cd qual = true ∧ PySem.W.keepIn K (.ref f) = true
section
variable {K : PySem.W.Frag} {C : Addr} {m qual : Str} {st : Stmt}
theorem textM_mk {f : Addr} {oc : Value} {od : Option Addr} {osl : Array (Option Value)} {kV dc pm : Value} {an : Option Addr} {cd ct : Value} (a : PySem.W.findIn K (.ref C) m = some (some (.ref f))) (i : PySem.W.isFn K (.ref f) = true)
    (l : K.lookup f = some ⟨oc, od, .func (PySem.W.fnOf m qual (defArgs st) (defBody st) (defScope st) .none kV dc pm an cd ct), osl⟩) (c : PySem.W.codeIn K cd qual = true) (k : PySem.W.keepIn K (.ref f) = true) : TextM K C m qual st :=
  ⟨f, oc, od, osl, kV, dc, pm, an, cd, ct, a, i, l, c, k⟩
theorem TextM.at_ (t : TextM K C m qual st) : ∃ f fd, Fun K m qual st f fd ∧ Meth K C m f := by
  obtain ⟨f, oc, od, osl, kV, dc, pm, an, cd, ct, a, i, l, c, k⟩ := t.ex
  exact ⟨f, _, fun_mk (st := st) l c k, ⟨a, i, k⟩⟩
/-- __init__, its named arguments with what they are -/
structure TextI (K : PySem.W.Frag) (C : Addr) (st : Stmt) : Prop where
  ex : ∃ (f D : Addr) (oc : Value) (od : Option Addr) (osl : Array (Option Value)) (dc pm : Value) (an : Option Addr) (cd ct : Value), PySem.W.makesIn K C = true ∧ PySem.W.findIn K (.ref C) "__init__" = some (some (.ref f)) ∧ PySem.W.isFn K (.ref f) = true ∧ PySem.W.keepIn K (.ref C) = true ∧
    K.lookup f = some ⟨oc, od, .func (PySem.W.fnOf "__init__" "Watch.__init__" (defArgs st) (defBody st) (defScope st) .none (.ref D) dc pm an cd ct), osl⟩ ∧ PySem.W.codeIn K cd "Watch.__init__" = true ∧ PySem.W.keepIn K (.ref f) = true ∧
    ∀ q ∈ ([("flip", V.int 1), ("lie", V.int 1)] : List (Str × V)), ∃ v, PySem.W.nsIn K D q.1 = some (some v) ∧ RelV q.2 v
theorem textI_mk {f D : Addr} {oc : Value} {od : Option Addr} {osl : Array (Option Value)} {dc pm : Value} {an : Option Addr} {cd ct : Value} {t u : Tok} (mk : PySem.W.makesIn K C = true) (a : PySem.W.findIn K (.ref C) "__init__" = some (some (.ref f))) (i : PySem.W.isFn K (.ref f) = true) (kc : PySem.W.keepIn K (.ref C) = true)
    (l : K.lookup f = some ⟨oc, od, .func (PySem.W.fnOf "__init__" "Watch.__init__" (defArgs st) (defBody st) (defScope st) .none (.ref D) dc pm an cd ct), osl⟩) (c : PySem.W.codeIn K cd "Watch.__init__" = true) (k : PySem.W.keepIn K (.ref f) = true)
    (d : PySem.W.nsIn K D "flip" = some (some (.int 1 t))) (e : PySem.W.nsIn K D "lie" = some (some (.int 1 u))) : TextI K C st :=
  ⟨f, D, oc, od, osl, dc, pm, an, cd, ct, mk, a, i, kc, l, c, k, fun q hq => by
    rcases List.mem_cons.mp hq with h | h
    · subst h; exact ⟨_, d, t, rfl⟩
    · rw [List.mem_singleton] at h; subst h; exact ⟨_, e, u, rfl⟩⟩
theorem TextI.at_ (t : TextI K C st) : ∃ f fd, FunD K "__init__" "Watch.__init__" (defArgs st) (defBody st) (defScope st) [] [("flip", .int 1), ("lie", .int 1)] f fd ∧ Fun K "__init__" "Watch.__init__" st f fd ∧ Mk K C f := by
  obtain ⟨f, D, oc, od, osl, dc, pm, an, cd, ct, mk, a, i, kc, l, c, k, h⟩ := t.ex
  exact ⟨f, _, ⟨⟨oc, od, .none, .ref D, dc, pm, an, cd, ct, osl, rfl, l, c, .inl ⟨rfl, rfl⟩, .inr ⟨D, rfl, h⟩⟩, k⟩, fun_mk (st := st) l c k, ⟨mk, a, i, kc⟩⟩
end
structure HasI (P : Program) (w : World) (K : PySem.W.Frag) (mg : Str → Option Value) (base : Heap) (C : Addr) (st : Stmt) (k : Nat) (sp : Sp) : Prop where
  ex : ∃ f fd, FnOk P w K mg base CX0 k f fd ["self", "board", "flip", "lie"] sp ∧ Mk K C f ∧ mg "Watch" = some (.ref C) ∧ FunD K "__init__" "Watch.__init__" (defArgs st) (defBody st) (defScope st) [] [("flip", .int 1), ("lie", .int 1)] f fd
section
variable {X : Cx} {k : Nat} {sp : Sp} {p pos : Pos} {e : Expr} {es : List Expr} {t tk : TA} {st : Stmt} {kwe : List Keyword} {C : Addr}
end
/-- xs, ys = [..], [..], both of their own -/
def fParNN (i j : Nat) (g h : ME (List Dt)) : MS := fOut g fun ds s ρ => match h s ρ with
  | some (.ok es, ρ1) => some (.nx ((s.set i (some (.o (.l ds)))).set j (some (.o (.l es)))) ρ1)
  | _ => none
section
variable {K : PySem.W.Frag} {mg : Str → Option Value} {E : XK}
end
section
variable {X : Cx} {e : Expr} {f : Str} {pos : Pos} {ta : TE}
theorem pe_fldK {K : PySem.W.Frag} (q : X.K = K) (he : PE X e ta) (hb : attributeBase e f X.env (eval e X.env) = eval e X.env) : PE X (.Attribute e f pos) (tFld K ta f) := q ▸ pe_fld he hb
end
end Sb

namespace Sb
open PySem PySem.Spec PyProof.Rows L2
def y_back : MY := (ySeq (yIf (fB (fOp oEq (fFld 0 .t) (fTup fNil))) (yRet (ret (.bool false))) yNext)
  (ySeq (ySetT (fSlT (fFld 0 .t) fNo (fSo (fUn oNeg (ret (.int 1))))))
  (yRet (ret (.bool true)))))
def Y_back : Fy := runYn 1 1 y_back
def y_marks : MY := (yRet (fN (fLc (fItL (fN (fPsorted 0))) (fgName 1) (ret true) (fTup (fCons (fVar 1) (fCons (fCB oLen (fCons (fPget 0 (fVar 1)) fNil)) fNil))) [1])))
def Y_marks : Fy := runYn 1 2 y_marks
def y_go : MY := (ySeq (yIf (fOr (fNot (fB (fIsi "str" (fVar 1)))) (fB (fPni 0 (fVar 1)))) yNever yNext)
  (ySetT (fPget 0 (fVar 1))))
def Y_go : Fy := runYn 2 2 y_go
def y_guess : MY := (ySeq (yIf (fB (fOp oEq (fFld 0 .t) (fTup fNil))) (yRet (fTup (fCons (fTup (fCons (ret (.int 0)) (fCons (ret (.int 0)) fNil))) (fCons (ret .none) fNil)))) yNext)
  (ySeq (yAsg (fCallN F_stories 2 2 (fun ds zs => ds ++ zs) (fCons (fFld 0 .b) (fCons (fFld 0 .t) fNil)) (fCons (fFld 0 .f) (fCons (fFld 0 .l) fNil))) (fgName 1))
  (ySeq (yAsg (fN (fCBN oSortData (fCons (fN (fLc (fZipTL (ret (.tuple [.tuple [.int 0, .int 0], .tuple [.int 0, .int 1], .tuple [.int 1, .int 0], .tuple [.int 1, .int 1]])) (fVar 1)) (fgTup 2 (fgCons (fgName 3) (fgCons (fgName 4) fgNil))) (ret true) (fTup (fCons (fOp oIxT (fVar 4) (ret (.int 0))) (fCons (fVar 3) fNil))) [3, 4])) fNil))) (fgName 2))
  (ySeq (yAsg (fOp oIxL (fVar 2) (ret (.int 0))) (fgTup 2 (fgCons (fgName 5) (fgCons (fgName 3) fgNil))))
  (yRet (fTup (fCons (fVar 3) (fCons (fOp oSub (fOp oIxT (fOp oIxL (fVar 2) (ret (.int 1))) (ret (.int 0))) (fVar 5)) fNil))))))))
def Y_guess : Fy := runYn 1 6 y_guess
def y_told : MY := (yRet (fN (fCBN oListOf (fCons (fFld 0 .t) fNil))))
def Y_told : Fy := runYn 1 1 y_told
def y_mark : MY := (ySeq (yIf (fNot (fB (fCall F_is_name (fCons (fVar 1) fNil)))) yNever yNext)
  (yMark 1))
def Y_mark : Fy := runYn 2 2 y_mark
def y_beat : MY := (ySeq (yDrop (fCall F_require_lit (fCons (fFld 0 .b) (fCons (fVar 1) fNil))))
  (ySeq (yIf (fB (fOp oEq (fCB oLen (fCons (fFld 0 .t) fNil)) (ret (.int 5)))) yNever yNext)
  (ySeq (ySetT (fTup (fStar (fFld 0 .t) (fCons (fVar 1) fNil))))
  (yRet (fCB oLen (fCons (fFld 0 .t) fNil))))))
def Y_beat : Fy := runYn 2 2 y_beat
end Sb

/-! Seamboard: what a watch does (k27). -/
namespace Sb
open PySem PySem.Spec PyProof.Rows L2
variable {r c : Nat}
@[simp] theorem yOut_at {α : Type} (e : ME α) (k : α → MY) (s : Ss) (ρ : Ro) : yOut e k s ρ = match e s ρ with
  | none => none
  | some (.error x, ρ1) => some (.er x s ρ1)
  | some (.ok a, ρ1) => k a s ρ1 := (rfl)
@[simp] theorem fFld_at (k : Fd) (t : Wt) (s : Ss) (ρ : Ro) : fFld 0 k (some (.o (.w t)) :: s) ρ = some (.ok (k.get t), ρ) := (rfl)
theorem yOut_to {α : Type} {e : ME α} {k : α → MY} {s : Ss} {ρ ρ1 : Ro} {a : α} (h : e s ρ = some (.ok a, ρ1)) : yOut e k s ρ = k a s ρ1 := by unfold yOut; rw [h]
theorem ySeq_to {a b : MY} {s s1 : Ss} {ρ ρ1 : Ro} (h : a s ρ = some (.nx s1 ρ1)) : ySeq a b s ρ = b s1 ρ1 := by unfold ySeq; rw [h]
theorem ySeq_rt {a b : MY} {s s1 : Ss} {ρ ρ1 : Ro} {d : Dt} (h : a s ρ = some (.rt d s1 ρ1)) : ySeq a b s ρ = some (.rt d s1 ρ1) := by unfold ySeq; rw [h]
theorem yIf_f {g : ME Bool} {a b : MY} {s : Ss} {ρ ρ1 : Ro} (h : g s ρ = some (.ok false, ρ1)) : yIf g a b s ρ = b s ρ1 := yOut_to h
theorem yIf_t {g : ME Bool} {a b : MY} {s : Ss} {ρ ρ1 : Ro} (h : g s ρ = some (.ok true, ρ1)) : yIf g a b s ρ = a s ρ1 := yOut_to h
theorem runYn_at {np n : Nat} {b : MY} {t : Wt} {ds : List Dt} (h : ds.length + 1 = np) : runYn np n b t ds = outYn (b (argY n t ds) none) := if_pos h
theorem runYn_rt {np n : Nat} {b : MY} {t t' : Wt} {ds : List Dt} {d : Dt} {s : Ss} {ρ : Ro} (h : ds.length + 1 = np) (e : b (argY n t ds) none = some (.rt d (some (.o (.w t')) :: s) ρ)) : runYn np n b t ds = some (.ok d, t') := by rw [runYn_at h, e]; rfl
theorem runYn_nx {np n : Nat} {b : MY} {t t' : Wt} {ds : List Dt} {s : Ss} {ρ : Ro} (h : ds.length + 1 = np) (e : b (argY n t ds) none = some (.nx (some (.o (.w t')) :: s) ρ)) : runYn np n b t ds = some (.ok .none, t') := by rw [runYn_at h, e]; rfl
/-- beats told -/
def tl (r c : Nat) (T : Nat → Nat → Bool) (n : Nat) : List Dt := (List.range n).map fun b => ti (sel (r * c) (T b))
theorem w_back0 (b f l : Dt) (ps : List (Str × Dt)) : Y_back ⟨b, f, l, .tuple [], ps⟩ [] = some (.ok (.bool false), ⟨b, f, l, .tuple [], ps⟩) := by
  have h : fB (fOp oEq (fFld 0 .t) (fTup fNil)) [some (.o (.w ⟨b, f, l, .tuple [], ps⟩))] none = some (.ok true, none) := rfl
  refine runYn_rt (s := []) (ρ := none) rfl ?_
  show y_back [some (.o (.w ⟨b, f, l, .tuple [], ps⟩))] none = _
  unfold y_back
  exact ySeq_rt ((yIf_t h).trans rfl)
/-! points -/
def nm (k : Nat) : Str := sg (97 + k)
def pts (r c : Nat) (T : Nat → Nat → Bool) (ms : List Nat) : List (Str × Dt) := ms.map fun m => (nm m, .tuple (tl r c T (m + 1)))
def mkD (ms : List Nat) : List Dt := ms.map fun m => .tuple [.str (nm m), .int ((m : Int) + 1)]
end Sb

/-! Seamboard: small things, apart from the mathematics that k01 doesn't need. -/
namespace Sb
open PySem PySem.Spec PyProof.Rows L2
end Sb

/-! Seamboard, layer E0: min(i, j) while an error is handled. -/
namespace Sb
open PySem PySem.Spec PyProof.Rows HotX
section
variable {prog : Program} {w : World} {A : Around} {E : Value → Shared → Prop} {s : Shared}
theorem tup_end_hot {it t x1 : Addr} {i : Nat} {items : Array Value} {Q : Option Value → Shared → Prop} (hot : HotAt A x1 s.heap) (nx : x1 ≠ it) (hit : s.heap.IsTupleIter it t i) (ht : s.heap.IsTuple t items) (hx : items[i]? = none)
    (hQ : ∀ h', Heap.ExtBut it s.heap h' → Q none { s with heap := h' }) : wpAny (model prog w) A (pyNext (.ref it)) Q E s := by
  obtain ⟨hh, o1, vs1, h1, d1, c1⟩ := hot
  obtain ⟨o, ho, hc, hd⟩ := id hit
  obtain ⟨ol, hol, _, nl, hdl⟩ := ht
  unfold pyNext
  refine wpAny_bind (wpAny_attempt (wpAny_callSpecial?_slot (name := Str.ofString "__next__") hit.typeIs F.slot_tuple_iterator_next
    (wpAny_call_entry F.slot_tuple_iterator_next hit.typeIs F.entry_tuple_iterator_next ?_ (F.args_tuple_iterator_next_1 _))))
  show wpAny _ _ (field (.ref it) 0 >>= _) _ _ s
  refine wpAny_bind (wpAny_field ho hd (x := .ref t) rfl ?_)
  show wpAny _ _ (if (Value.ref t == Value.none) = true then _ else _) _ _ s
  rw [if_neg (show ¬ ((Value.ref t == Value.none) = true) from Bool.false_ne_true)]
  show wpAny _ _ (field (.ref it) 1 >>= _) _ _ s
  refine wpAny_bind (wpAny_field ho hd (x := .int i 0) rfl ?_)
  show wpAny _ _ (seqItems? (.ref t) >>= _) _ _ s
  refine wpAny_bind (wpAny_seqItems hol hdl ?_)
  simp only [Int.toNat_natCast, hx]
  refine wpAny_bind (wpAny_rule (wpAny_bind (wpAny_setField ho hd (by simp) ?_)))
  show wpAny _ _ (newExc (.type "StopIteration") [] >>= _) _ _ _
  refine wpAny_bind ?_
  simp only [newExc, newTuple]
  refine wpAny_bind (wpAny_newObj_type ?_ (by size_fits))
  refine wpAny_bind (m := firstArgMember _ _) (wpAny_of_eq (a := Value.none) (by first | rfl | (simp only [firstArgMember]; rfl)) ?_)
  refine wpAny_newObj_type ?_ (by size_fits)
  have eb : Heap.ExtBut it s.heap (s.heap.update it (Obj.mapFields fun x => x.setIfInBounds 0 Value.none)) := (Heap.SameBut.update ..).extBut
  have u0 := eb x1 o1 nx h1
  refine raiseNew_hot (x1 := x1) ⟨hh, o1, vs1, Heap.get?_push_of_some _ (Heap.get?_push_of_some _ u0), d1, c1⟩ (Nat.ne_of_lt (Heap.lt_size (Heap.get?_push_of_some _ u0))) (Heap.get?_push_size _ rfl) rfl (by first | (simp; done) | (simp; omega) | (simp only [Array.size_append]; simp; omega)) ?_
  refine wpAny_bind (wpAny_isInstance (T := "StopIteration") (b := true) ⟨_, Heap.get?_update_self _ (Heap.get?_push_size _ rfl) rfl, rfl⟩ isSubtype_stop ?_)
  refine wpAny_pure (hQ _ fun b u n e => ?_)
  have v0 := eb b u n e
  rw [Heap.get?_update_other _ _ (Nat.ne_of_gt (Heap.lt_size (Heap.get?_push_of_some _ v0)))]
  exact Heap.get?_push_of_some _ (Heap.get?_push_of_some _ v0)
/-- a tuple walked while an error is handled -/
theorem walks_tupH {I ax x1 : Addr} {o1 : Obj} {vs1 : Array Value} (hh : A.handled = some (.ref x1)) (d1 : o1.data = .fields vs1) (c1 : vs1[2]? = some .none) (n1 : x1 ≠ I) (hne : ax ≠ I) (items : Array Value) :
    Walks prog w A I [I, ax, x1] [I] items.size (fun i v => items[i]? = some v) (fun i h => h.IsTupleIter I ax i ∧ h.IsTuple ax items ∧ h.get? x1 = some o1) where
  sub := fun b hb => by simp at hb; simp [hb]
  frame := fun _ _ _ st hk => ⟨st.1.at fun o e => hk I (by simp) o e, st.2.1.at fun o e => hk ax (by simp) o e, hk x1 (by simp) _ st.2.2⟩
  item := fun i s Q E hi st hQ => by
    refine wpAny_pyNext_tuple_item st.1 st.2.1 (x := items[i]) (by simp [hi]) fun h' hit' hs' => ?_
    exact hQ _ h' s.toks (by simp [hi]) ⟨hit', st.2.1.extBut hs'.extBut hne, hs'.extBut x1 _ n1 st.2.2⟩ fun b o hb e => hs'.extBut b o (fun h => hb (by simp [h])) e
  done := fun s Q E st hQ => tup_end_hot ⟨hh, o1, vs1, st.2.2, d1, c1⟩ n1 st.1 st.2.1 (by simp) fun h' he' => hQ h' s.toks fun b o hb e => he' b o (fun h => hb (by simp [h])) e
  self := fun _ _ _ _ st hQ => wpAny_pyIter_tupleiter st.1 hQ
theorem min_two_hot {x1 : Addr} {a b : Int} {t u : Tok} {Q : Value → Shared → Prop} (hot : HotAt A x1 s.heap)
    (h : ∀ h' tk, (∀ c o, s.heap.get? c = some o → h'.get? c = some o) → Q (if b < a then .int b u else .int a t) { s with heap := h', toks := tk }) :
    wpAny (model prog w) A (call (.builtin "min") [.int a t, .int b u]) Q E s := by
  obtain ⟨hh, o1, vs1, h1, d1, c1⟩ := hot
  have hT : (s.heap.push { cls := .type "tuple", data := .seq #[.int a t, .int b u] }).IsTuple s.heap.objs.size (intItems #[(a, t), (b, u)]) := ⟨_, Heap.get?_push_size _ rfl, rfl, 0, by simp [intItems]⟩
  refine call_min_two (wpAny_pyIter_tuple hT ?_)
  have hsz : (s.heap.push { cls := .type "tuple", data := .seq #[.int a t, .int b u] }).objs.size = s.heap.objs.size + 1 := Heap.size_push ..
  have l1 : x1 < s.heap.objs.size := Heap.lt_size h1
  refine ⟨_, [_, s.heap.objs.size, x1], [_], _, _, _, _, rfl, walks_tupH (A := A.in1) hh d1 c1 (by rw [hsz]; exact Nat.ne_of_lt (Nat.lt_succ_of_lt l1)) (by rw [hsz]; exact Nat.ne_of_lt (Nat.lt_succ_self _)) (intItems #[(a, t), (b, u)]),
    ⟨⟨_, Heap.get?_push_size _ rfl, rfl, rfl⟩, hT.push _, Heap.get?_push_of_some _ (Heap.get?_push_of_some _ h1)⟩, fun c hc => ?_, by simp [intItems], CmpOf.ints_lt (numAt #[(a, t), (b, u)]) (fun _ _ => intItems_at), fun v h' tk hP hk => ?_⟩
  · show c < ((s.heap.push _).push _).objs.size
    rw [Heap.size_push, hsz]
    simp only [List.mem_cons, List.not_mem_nil, or_false] at hc
    rcases hc with rfl | rfl | rfl
    · rw [hsz]; exact Nat.lt_succ_self _
    · exact Nat.lt_succ_of_lt (Nat.lt_succ_self _)
    · exact Nat.lt_succ_of_lt (Nat.lt_succ_of_lt l1)
  · have old : ∀ c o, s.heap.get? c = some o → h'.get? c = some o := fun c o e => by
      refine hk c o (fun hm => ?_) (Heap.get?_push_of_some _ (Heap.get?_push_of_some _ e))
      rw [List.mem_singleton] at hm
      have := Heap.lt_size e
      rw [hm, hsz] at this
      exact absurd this (Nat.not_lt.mpr (Nat.le_succ _))
    have key : v = if b < a then Value.int b u else Value.int a t := by
      have e2 : (intItems #[(a, t), (b, u)]).size - 1 = 1 := by simp [intItems]
      have hP' : (intItems #[(a, t), (b, u)])[argBest (fun i j => decide (numAt #[(a, t), (b, u)] i < numAt #[(a, t), (b, u)] j)) 1]? = some v := by rw [← e2]; exact hP
      have e3 : argBest (fun i j => decide (numAt #[(a, t), (b, u)] i < numAt #[(a, t), (b, u)] j)) 1 = if b < a then 1 else 0 := by
        by_cases z : b < a <;> simp [argBest, numAt, z]
      rw [e3] at hP'
      by_cases z : b < a
      · rw [if_pos z] at hP' ⊢
        simpa [intItems] using hP'.symm
      · rw [if_neg z] at hP' ⊢
        simpa [intItems] using hP'.symm
    rw [key]
    exact h h' tk old
end
end Sb
namespace Sb
open PySem PySem.Spec PyProof.Rows L2 HotX
theorem call_min2H {X : Cx} {a : Addr} {oe : Obj} {cls : Value} {d : Option Addr} {pn : List (Addr × Obj)} (hz : L2N.Zn cls d oe) (hf : ∃ vs, oe.data = .fields vs) : CallR (X.suite a ((a, oe) :: pn)) (.builtin "min") (fun xs H Q => ∃ i j, xs = [.int i, .int j] ∧ Q (.int (if j < i then j else i)) H) := by
  intro pins s σ H xs us Q I r h
  obtain ⟨i, j, rfl, q⟩ := h
  obtain ⟨u, w', rfl, ⟨t, rfl⟩, ⟨t', rfl⟩⟩ := vals2 r
  obtain ⟨vs, hv⟩ := hf
  obtain ⟨hget, _⟩ := I.pin (a, oe) (List.mem_append_left _ List.mem_cons_self)
  refine min_two_hot (x1 := a) ⟨rfl, oe, vs, hget, hv, hz.2.2 vs hv⟩ fun h' tk k => ⟨_, H, I.kept k, ?_, q⟩
  by_cases hj : j < i
  · rw [if_pos hj, if_pos hj]; exact ⟨_, rfl⟩
  · rw [if_neg hj, if_neg hj]; exact ⟨_, rfl⟩
end Sb

/-! Seamboard, layer E1: a lambda is made and handed to a def; the table of its code is a thing of the state. -/
namespace Sb
open PySem PySem.Spec PyProof.Rows L2 LamX
section
variable {X : Cx} {pins : List (Addr × Obj)} {σ : L2.St} {H : Hp} {s : Shared}
/-- how a heap may look when a lambda was made: its code was known, or it is new and the table tells it too -/
inductive Made (H : Hp) (P : Addr) (q : Str) (KN : Addr → Prop) (c' : Addr) : Hp → Prop where
  | hit (h : KN c') : Made H P q KN c' H
  | new (ps : Array Value) (n : H c' = none) (t : TriplesOk ps.toList) (k : ∀ (pos : Pos) (cv : Value), codeAmong pos ps.toList = some cv → ∃ c, cv = .ref c ∧ (KN c ∨ c = c')) : Made H P q KN c' (upd (upd H P (.tbl ps)) c' (CodeO c' q))
/-- what is known of a table -/
structure TabK (H : Hp) (P : Addr) (q : Str) (KN : Addr → Prop) : Prop where
  tab : ∃ ps : Array Value, H P = some (.tbl ps) ∧ TriplesOk ps.toList ∧ ∀ (pos : Pos) (cv : Value), codeAmong pos ps.toList = some cv → ∃ c, cv = .ref c ∧ KN c
  code : ∀ c, KN c → H c = some (CodeO c q)
theorem lam_mk {c P : Addr} {KN : Addr → Prop} {params : Arguments} {body : Expr} {scope : Scope} {pos : Pos} {E : Value → Shared → Prop} {Q : Value → Shared → Prop} (I : Inv X pins σ H s) (TB : TabB X.base X.mg c P) (hcode : X.env.code = .ref c)
    (T : TabK H P (X.env.qual ++ "<lambda>") KN) (hdef : defaultsOf params X.env = ([], [])) (hfree : ∀ y ∈ scope.names, y.2 = .free → ∃ c, X.env.cells.lookup y.1 = some c)
    (h : ∀ (f c' : Addr) (pm ctv : Value) (H1 : Hp) (s' : Shared), Inv X pins σ H1 s' → Made H P (X.env.qual ++ "<lambda>") KN c' H1 →
      s'.heap.get? f = some (PySem.W.kla_obj "<lambda>" (X.env.qual ++ "<lambda>") params body scope (cloFrom X.env.cells scope.names []) pm c' ctv) → H1 f = none → f ∉ frs X.stack → H1 c' = some (CodeO c' (X.env.qual ++ "<lambda>")) → Q (.ref f) s') :
    wpAny (model X.prog X.w) X.A (eval (.Lambda params body scope pos) X.env) Q E s := by
  obtain ⟨ps, hP, ht, ha⟩ := T.tab
  have hsP : s.heap.get? P = some { cls := .none, data := .fields ps } := I.hok P _ hP
  have out : ∀ f, s.heap.objs.size ≤ f → f ∉ frs X.stack := fun f hf z => by
    rcases List.mem_cons.mp (I.stkSub _ z) with e | e
    · rw [e] at hf
      exact Nat.lt_irrefl _ (Nat.lt_of_lt_of_le I.lt hf)
    · exact I.nofs hf e
  refine PySem.W.kla_eval hdef ?_
  by_cases hc : ∃ cv, codeAmong pos ps.toList = some cv
  · obtain ⟨cv, hc⟩ := hc
    obtain ⟨c', rfl, hk⟩ := ha pos cv hc
    refine PySem.W.kla_makeFunctionHit (P := P) (ps := ps) (closure_ok hfree) I.ok.glob (I.mod.glob.keeps I.bk) hcode (TB.code.keeps I.bk) hsP ht hc (TB.bm.keeps I.bk) fun ctv h' tk keep big => ?_
    refine h h'.objs.size c' _ ctv H _ (I.kept fun b o e => Heap.get?_push_of_some _ (keep b o e)) (.hit hk) (Heap.get?_push_size _ rfl) (I.hok.fresh big) (out _ big) (T.code c' hk)
  · have hc0 : codeAmong pos ps.toList = none := by
      cases e : codeAmong pos ps.toList with
      | none => rfl
      | some cv => exact absurd ⟨cv, e⟩ hc
    refine PySem.W.kla_makeFunction (P := P) (ps := ps) (closure_ok hfree) I.ok.glob (I.mod.glob.keeps I.bk) hcode (TB.code.keeps I.bk) hsP ht hc0 TB.gP (TB.bm.keeps I.bk) fun c' ctv h' tk ext lo hi rec_ tab => ?_
    obtain ⟨_, oc, vs, t, e1, e2, e3, e4⟩ := rec_
    cases e1
    have nC : H c' = none := I.hok.fresh lo
    have big : s.heap.objs.size ≤ h'.objs.size := Nat.le_trans lo (Nat.le_of_lt hi)
    have eL : (ps ++ #[rawInt pos.line, rawInt pos.col, .ref c']).toList = ps.toList ++ [rawInt pos.line, rawInt pos.col, .ref c'] := by simp
    have J := inv_table (t' := tk) (more := #[rawInt pos.line, rawInt pos.col, .ref c']) (q := X.env.qual ++ "<lambda>") (h' := h'.push (PySem.W.kla_obj "<lambda>" (X.env.qual ++ "<lambda>") params body scope (cloFrom X.env.cells scope.names []) ((X.mg "__name__").getD .none) c' ctv)) I hP
      (fun b o hb e => Heap.get?_push_of_some _ (ext b o hb e)) (Heap.get?_push_of_some _ tab) lo ⟨oc, vs, t, Heap.get?_push_of_some _ e2, e3, e4⟩
    have fP : h'.objs.size ≠ P := Nat.ne_of_gt (Nat.lt_of_lt_of_le (Heap.lt_size hsP) big)
    have fC : h'.objs.size ≠ c' := Nat.ne_of_gt hi
    refine h h'.objs.size c' _ ctv _ _ J (.new _ nC ?_ fun p' cv e => ?_) (Heap.get?_push_size _ rfl) ?_ (out _ big) upd_same
    · rw [eL]
      exact PySem.TriplesOk_snoc _ _ _ _ ht
    · rw [eL] at e
      rcases among_app _ ht e with z | z
      · obtain ⟨c0, a, b⟩ := ha p' cv z
        exact ⟨c0, a, .inl b⟩
      · exact ⟨c', z, .inr rfl⟩
    · rw [upd_ne fC, upd_ne fP]
      exact I.hok.fresh big
/-- the body of a lambda: its context, errors told with no context of their own -/
def lamN (X : Cx) (A : Around) (outer : List Env) (s : Shared) (H : Hp) (E : XK) (scope : Scope) (f c' : Addr) : Cx :=
  (lamCx X A outer s H E scope f c').tr [] fun e s' => wpAny (model X.prog X.w) (A.deeper (lamEnv X scope s.heap.objs.size f c')) (leaving (lamEnv X scope s.heap.objs.size f c') e) (fun _ s'' => L2N.CX X.prog X.w outer H s E e s'') (fun e' s'' => L2N.CX X.prog X.w outer H s E e' s'') s'
/-- a(), in the def that got the lambda -/
theorem pe_actN {CXg : CXT} {Eg : XK} {Ng : List Str} {qg : Str} {sg : Scope} {g f c' : Addr} {cdg pm ctv : Value} {params : Arguments} {body : Expr} {scope : Scope} {k i : Nat} {a : Str} {pn : List (Addr × Obj)} {xe : Value → Shared → Prop} {W : WX} {E : XK} {tb : TE} {p1 p2 : Pos}
    (I : Inv X pins σ H s) (L : LamS X.env.scope scope) (hf : s.heap.get? f = some (PySem.W.kla_obj "<lambda>" (X.env.qual ++ "<lambda>") params body scope (cloFrom X.env.cells scope.names []) pm c' ctv)) (hfn : H f = none) (hfr : f ∉ frs X.stack)
    (hbind : bindArgs (PySem.W.kla_fn "<lambda>" (X.env.qual ++ "<lambda>") params body scope (cloFrom X.env.cells scope.names []) pm (.ref c') ctv) ⟨[], []⟩ = pure [])
    (tk : L2N.Takes ((cxOf CXg X.prog X.w X.K X.mg X.base Ng qg sg g cdg X.A X.stack s H Eg).tr pn xe) W) (hW : ∀ cls d σ' H', E cls d H' → W cls d σ' H') (hr : Room (k + 1) (X.A.deeper (envOfC qg sg s.heap.objs.size g cdg)))
    (hbody : ∀ (A : Around) (outer : List Env) (s : Shared) (H : Hp), Room k (A.deeper (lamEnv X scope s.heap.objs.size f c')) → PE (lamN X A outer s H E scope f c') body tb)
    (hN : Ng[i]? = some a) (hv : Vis sg a) (hd : (a == ("__debug__" : Str)) = false := by decide) (hcd : (a == ("__classdict__" : Str)) = false := by decide) :
    PE ((cxOf CXg X.prog X.w X.K X.mg X.base Ng qg sg g cdg X.A X.stack s H Eg).tr pn xe) (.Call (.Name a p1) [] [] p2) (fun σZ HZ Q => σZ[i]? = some (some (.ref f)) ∧ HZ c' = some (CodeO c' (X.env.qual ++ "<lambda>")) ∧ tb σ HZ Q) := by
  refine ⟨fun pz sz σZ HZ Q IZ ⟨hs, hc, ht⟩ => wpAny_Call_Name_kw (thn ((pe_var (pos := p1) (i := i) hN hv hd hcd).run pz sz σZ HZ (fun v H1 => v = .ref f ∧ H1 = HZ) IZ ⟨.ref f, hs, rfl, rfl⟩) ?_)⟩
  rintro u s1 ⟨v, H1, I1, r1, rfl, rfl⟩
  obtain rfl : u = Value.ref f := r1
  have un : Un (frs X.stack) [] H H1 s.heap s1.heap := I1.base
  have of1 := un.keep f _ hf hfn hfr (fun z => nomatch (show f ∈ ([] : List Addr) from z))
  refine PySem.W.callWith_F0 ⟨_, _, _, _, of1⟩ ?_
  obtain ⟨⟨oc, vs, t, hoc, hdc, hvc⟩, _, _⟩ := I1.hok c' _ hc
  have run_ : codeAny (model X.prog X.w) (X.A.deeper (envOfC qg sg s.heap.objs.size g cdg)) (.call (.ref f) ⟨[], []⟩) (CR (L2N.CX X.prog X.w) (envOfC qg sg s.heap.objs.size g cdg :: X.stack) X.prog X.w H1 s1 Q E) s1 := by
    refine PySem.W.kla_callFunE hr.depth of1 rfl L.co L.gen rfl ⟨c', oc, vs, t, rfl, hoc, hdc, hvc⟩ ?_
    rw [hbind]
    refine wpAny_pure (wpAny_newFunctionEnv (fun y hy => (L.own y hy).2) (fun y hy => absurd hy (by simp)) (fun h₁ hns hsb => ⟨I1.nolimit.fresh _ hsb, ?_⟩) L.kind)
    have kp : ∀ b o, s1.heap.get? b = some o → h₁.get? b = some o := fun b o e => hsb.extBut b o (Nat.ne_of_lt (Heap.lt_size e)) (Heap.get?_push_of_some _ e)
    have J0 := lam_start2 (E := E) (c' := c') (f := f) (h₁ := h₁) (tk := s1.toks + ([] : List (Str × Value)).length) I L I1.env0 hr.hd un hns kp
    have J : Inv (lamN X (X.A.deeper (envOfC qg sg s.heap.objs.size g cdg)) (envOfC qg sg s.heap.objs.size g cdg :: X.stack) s1 H1 E scope f c') [] σ H1 { s1 with heap := h₁, toks := s1.toks + ([] : List (Str × Value)).length } := J0.toTry _
    show codeAny _ _ (.expr body (lamEnv X scope s1.heap.objs.size f c')) _ _
    refine PySem.W.kla_codeExpr (wpAny_mono ((hbody _ _ s1 H1 (hr.deeper _)).run [] _ _ H1 Q J ht) (fun v s' ⟨w', H', J', rv, q⟩ => ⟨w', H', J'.os, J'.bare, J'.base, J'.hok, rv, q⟩) fun e s' hq => hq)
  refine wpAny_call (codeAny_mono run_ fun r s' hq => ?_)
  rcases r with e | fl
  · exact L2N.passes_call tk hW pz σZ H1 s1 e s' I1 hq
  · cases fl with
    | ret u => exact I1.after hq
    | next => exact hq.elim
    | brk => exact hq.elim
    | cont => exact hq.elim
/-- the def that calls what it got -/
def GivesN (X : Cx) (Ng : List Str) (x : Str) (sg : Scope) (g : Addr) (cdg : Value) (bg : List Stmt) (a : Str) (q : Str) (TT : (XK → Hp → VK → Prop) → Hp → VK → Prop) : Prop :=
  ∀ (f c' : Addr) (s : Shared) (H : Hp) (Q : VK) (tl : XK → Hp → VK → Prop),
    (∀ (W : WX) (pn : List (Addr × Obj)) (xe : Value → Shared → Prop) (E : XK) (p1 p2 : Pos), L2N.Takes ((cxOf C8.CX0 X.prog X.w X.K X.mg X.base Ng x sg g cdg X.A X.stack s H C8.E0).tr pn xe) W → (∀ cls d σ' H', E cls d H' → W cls d σ' H') →
      PE ((cxOf C8.CX0 X.prog X.w X.K X.mg X.base Ng x sg g cdg X.A X.stack s H C8.E0).tr pn xe) (.Call (.Name a p1) [] [] p2) (fun σZ HZ Q => σZ[0]? = some (some (.ref f)) ∧ HZ c' = some (CodeO c' q) ∧ tl E HZ Q)) →
    H c' = some (CodeO c' q) → TT tl H Q →
    ∃ t, PSs (cxOf C8.CX0 X.prog X.w X.K X.mg X.base Ng x sg g cdg X.A X.stack s H C8.E0).nox bg t ∧ t { nx := fun _ H' => Q .non H', rt := Q } (L2.start Ng [.ref f]) H
/-- x(lambda: body), x a def that calls what it gets -/
def tLamW (P : Addr) (q : Str) (TT : (XK → Hp → VK → Prop) → Hp → VK → Prop) (t : XK → TE) : TE := fun σ H Q => ∃ KN, TabK H P q KN ∧ ∀ c' H1, Made H P q KN c' H1 → TT (fun E H' Q' => t E σ H' Q') H1 Q
theorem pe_lamW {TT : (XK → Hp → VK → Prop) → Hp → VK → Prop} {x a : Str} {g c P : Addr} {k : Nat} {pg : Arguments} {bg : List Stmt} {sg : Scope} {dV kV doc pm cdv ct oc : Value} {an od : Option Addr} {osl : Array (Option Value)} {Ng : List Str}
    {params : Arguments} {body : Expr} {scope : Scope} {t : XK → TE} {p lpos pos : Pos} (hg : Gl X x) (hm : X.mg x = some (.ref g)) (hk : PySem.W.keepIn X.K (.ref g) = true)
    (lk : X.K.lookup g = some ⟨oc, od, .func (PySem.W.fnOf x x pg bg sg dV kV doc pm an cdv ct), osl⟩) (hcg : PySem.W.codeIn X.K cdv x = true) (hb : L2.Binds X.K (PySem.W.fnOf x x pg bg sg dV kV doc pm an cdv ct) [a] []) (Sg : FnScope Ng [a] sg) (hNg : Ng[0]? = some a) (hva : Vis sg a)
    (hG : GivesN X Ng x sg g cdv bg a (X.env.qual ++ "<lambda>") TT) (TB : TabB X.base X.mg c P) (hcode : X.env.code = .ref c) (hr : Room (k + 2) X.A) (L : LamS X.env.scope scope) (hdef : defaultsOf params X.env = ([], []))
    (hbind : ∀ (q : Str) (cl : List (Str × Addr)) (pm cv ctv : Value), bindArgs (PySem.W.kla_fn "<lambda>" q params body scope cl pm cv ctv) ⟨[], []⟩ = pure [])
    (hbody : ∀ (A : Around) (outer : List Env) (s : Shared) (H : Hp) (E : XK) (f c' : Addr), Room k (A.deeper (lamEnv X scope s.heap.objs.size f c')) → PE (lamN X A outer s H E scope f c') body (t E))
    (hdb : (x == ("__debug__" : Str)) = false := by decide) (hd : (a == ("__debug__" : Str)) = false := by decide) (hcd : (a == ("__classdict__" : Str)) = false := by decide) :
    PE X (.Call (.Name x p) [.Lambda params body scope lpos] [] pos) (tLamW P (X.env.qual ++ "<lambda>") TT t) := by
  refine ⟨fun pins s σ H Q I ⟨KN, T, h⟩ => wpAny_Call_Name_kw (ld_glob I hg hm ?_ hdb)⟩
  refine PySem.W.callWith_K (h₀ := X.base) I.ok.mod.kin hk (?_ : wpAny _ _ (spliced ((false, eval (.Lambda params body scope lpos) X.env) :: backTo pos (starEach [] X.env))) _ _ s) (by rfl) (by rfl)
  refine Calls.spliced_cons (lam_mk I TB hcode T hdef (L.has I.ok) fun f c' pm' ctv H1 s1 J made hf fn fr hco => Calls.spliced_nil ⟨J.kIn, ?_⟩)
  have call_ : codeAny (model X.prog X.w) X.A (.call (.ref g) ⟨[.ref f], []⟩) (CR C8.CX0 X.stack X.prog X.w H1 s1 Q C8.E0) s1 := by
    refine run_ofS (N := Ng) (ps := [a]) (us := [.ref f]) (vs := [.ref f]) lk hcg Sg hr J.env0 (hb s1 [.ref f] J.kIn rfl) (.cons rfl .nil) rfl fun room => ?_
    obtain ⟨tg, h1, h2⟩ := hG f c' s1 H1 Q (fun E H' Q' => t E σ H' Q') (fun W pn xe E p1 p2 tk hW => pe_actN (i := 0) J L hf fn fr (hbind _ _ _ _ _) tk hW room (fun A outer s H hr2 => hbody A outer s H E f c' hr2) hNg hva hd hcd) hco (h c' H1 made)
    exact ⟨tg, h1.nox, h2⟩
  refine wpAny_call (codeAny_mono call_ fun r s2 hq => ?_)
  rcases r with e | fl
  · exact (show False from hq).elim
  · cases fl with
    | ret u => exact J.after hq
    | next => exact hq.elim
    | brk => exact hq.elim
    | cont => exact hq.elim
end
/-! ### by functions -/
section
variable {K : PySem.W.Frag} {mg : Str → Option Value} {E : XK} {Lo : Option Addr} {H0 G H G1 H1 G2 H2 : Hp} {σ σ' : L2.St} {s : Ss} {ρ ρ' : Ro} {A : Nat → List Addr} {v : V} {P : Addr} {q : Str}
theorem gr_tab {c : Addr} (e : EnS K Lo H0 G H σ s ρ A) {i : Nat} (hi : s[i]? = some (some (.o (.t P q)))) : TabK H P q (fun c => G c = some (CodeO c q)) ∧ G P = none ∧ H0 P = none ∧ (∃ v, σ[i]? = some (some v)) ∧ A i = [P] := by
  obtain ⟨v, hv, hf, ps, h1, h2, h3⟩ := e.at_ i _ hi
  have hm : P ∈ A i := by rw [hf]; exact List.mem_cons_self
  obtain ⟨a, b, _, _⟩ := e.fp i P hm
  exact ⟨⟨⟨ps, h1, h2, h3⟩, fun c h => e.gr _ _ h⟩, a, b, ⟨v, hv⟩, hf⟩
/-- the state when a lambda was made -/
theorem made_en {c' : Addr} (e : EnS K Lo H0 G H σ s ρ A) {i : Nat} (hi : s[i]? = some (some (.o (.t P q)))) (m : Made H P q (fun c => G c = some (CodeO c q)) c' H1) : ∃ G1, Sr Lo H0 G H G1 H1 ∧ EnS K Lo H0 G1 H1 σ s ρ A := by
  cases m with
  | hit h => exact ⟨G, .refl e.gr, e⟩
  | new ps n t k =>
    obtain ⟨T, gP, h0P, ⟨v, hv⟩, hA⟩ := gr_tab (c := 0) e hi
    obtain ⟨ps0, hP, _⟩ := T.tab
    have nPc : P ≠ c' := fun z => by rw [z, n] at hP; cases hP
    have st : Stp G H (upd G c' (CodeO c' q)) (upd H c' (CodeO c' q)) := .new e.gr n
    have e1 := e.stp st
    have W := e1.write (c' := .t P q) (H2 := upd (upd H P (.tbl ps)) c' (CodeO c' q)) hi hv (fun a ha => by
      rw [hA] at ha
      have : a ≠ P := fun z => ha (by rw [z]; exact List.mem_cons_self)
      by_cases z : a = c'
      · rw [z, upd_same, upd_same]
      · rw [upd_ne z, upd_ne z, upd_ne this]) (fun a ha => by
      rw [hA] at ha
      rw [List.mem_singleton.mp ha, upd_ne nPc, upd_same]; simp) (by
      rw [hA]
      refine ⟨rfl, ps, by rw [upd_ne nPc, upd_same], t, fun pos cv hc => ?_⟩
      obtain ⟨c, a, b⟩ := k pos cv hc
      refine ⟨c, a, ?_⟩
      rcases b with b | b
      · have : c ≠ c' := fun z => by
          have := e.gr _ _ b
          rw [z, n] at this; cases this
        rw [upd_ne this]; exact b
      · rw [b, upd_same])
    have es : s.set i (some (.o (.t P q))) = s := by
      apply List.ext_getElem?
      intro j
      by_cases z : j = i
      · subst z
        rw [List.getElem?_set_self (List.getElem?_eq_some_iff.mp hi).1, hi]
      · rw [List.getElem?_set_ne (Ne.symm z)]
    refine ⟨_, (st.sq.sr e.low).trans W.1, ?_⟩
    rw [← es]
    exact W.2
/-- the word of what a lambda's body does: nothing, or what its error tells -/
def vWord (P : Addr) (q : Str) (i : Nat) (w : Exn → Option Dt) (a : ME Dt) : MV Dt := fun s ρ => match s[i]? with
  | some (some (.o (.t P' q'))) => if P' = P ∧ q' = q then (match a s ρ with
    | some (.ok _, ρ1) => some (.ok .none, s, ρ1)
    | some (.error x, ρ1) => (match w x with
      | some d => some (.ok d, s, ρ1)
      | none => none)
    | none => none) else none
  | _ => none
def TTw (K : PySem.W.Frag) (mg : Str → Option Value) (w : Exn → Option Dt) : (XK → Hp → VK → Prop) → Hp → VK → Prop := fun tl H Q =>
  tl (fun cls d H' => ∃ G x dd, Gr G H' ∧ ExOk mg x cls d H' ∧ w x = some dd ∧ ∀ v G2 H2, Stp G H' G2 H2 → Dq K G2 v dd → Q v H2) H (fun _ H' => Q .non H')
end
end Sb

/-! Seamboard, layer E2: a caught error: isinstance, its field. -/
namespace Sb
open PySem PySem.Spec PyProof.Rows L2
section
variable {X : Cx} {a : Addr} {oe : Obj} {cls : Value} {d : Option Addr} {pn : List (Addr × Obj)} {K : PySem.W.Frag}
/-- isinstance(e, c), e the caught error at a, of the class cls, its dict at d -/
def rIsX (K : PySem.W.Frag) (cls : Value) (d : Option Addr) (a : Addr) : List V → Hp → VK → Prop := fun xs H Q => ∃ (D : Addr) (c : V) (cv : Value) (b : Bool), cls = .ref D ∧ ExcC K D ∧ (d = none ∨ ∃ dd fs, d = some dd ∧ H dd = some (.xd fs)) ∧ xs = [.ref a, c] ∧ (∀ u, RelV c u → u = cv) ∧
  PySem.W.kitOne K (.ref D) cv = some b ∧ Q (.bl b) H
theorem call_isX (hz : Zc cls d oe) (hf : ∃ vs, oe.data = .fields vs) : CallR (X.suite a ((a, oe) :: pn)) (.builtin "isinstance") (rIsX X.K cls d a) := by
  intro pins s σ H xs us Q I r h
  obtain ⟨D, c, cv, b, rfl, C, hd, rfl, hcv, e, q⟩ := h
  match us, r with
  | [u0, u1], .cons r0 (.cons r1 .nil) =>
    obtain rfl : u0 = Value.ref a := r0
    obtain rfl := hcv _ r1
    obtain ⟨hget, _⟩ := I.pin (a, oe) (List.mem_append_left _ List.mem_cons_self)
    obtain ⟨vs, hv⟩ := hf
    have nc : PySem.W.notCls oe := by unfold PySem.W.notCls; rw [hv] <;> rfl
    obtain ⟨od, J⟩ : ∃ od, PySem.W.InstAt s.heap a oe D od := by
      rcases hd with hd | ⟨dd, fs, hd, hx⟩
      · exact ⟨none, hget, hz.1, nc, by rw [hz.2, hd]; trivial⟩
      · have ho : ObjOk X.prog X.w H s.heap dd (.xd fs) := I.hok dd _ hx
        obtain ⟨mA, hns, _⟩ := ho
        obtain ⟨od, g, _⟩ := lookIn_ns hns
        exact ⟨some od, hget, hz.1, nc, by rw [hz.2, hd]; exact g⟩
    exact PySem.W.kia_one (PySem.W.kitx_exc (Option.isSome_iff_exists.mpr (by obtain ⟨cd, hc, _⟩ := PySem.W.any_some C.hd; exact ⟨cd, hc⟩)) C.hg C.hk C.hs C.ha C.hn C.ht C.hm) I.kIn J e (fun z => nomatch z) fun tk => ⟨.bl b, H, I.kept (t' := tk) fun _ _ z => z, rfl, q⟩
theorem kc_isX (q : X.K = K) (hz : Zc cls d oe) (hf : ∃ vs, oe.data = .fields vs) : CallR (X.suite a ((a, oe) :: pn)) (.builtin "isinstance") (rIsX K cls d a) := q ▸ call_isX hz hf
/-- e.f -/
def tXfX (K : PySem.W.Frag) (a : Addr) (cls : Value) (d : Option Addr) (f : Str) (te : TE) : TE := fun σ H Q => ∃ C, cls = .ref C ∧ XfC K C ∧ PySem.W.findIn K (.ref C) f = some none ∧ tXf a cls d C f te σ H Q
theorem pe_xfX {e : Expr} {te : TE} {pos : Pos} {f : Str} (q : X.K = K) (hz : Zc cls d oe) (hf : ∃ vs, oe.data = .fields vs) (he : PE (X.suite a ((a, oe) :: pn)) e te) (hb : attributeBase e f X.env (eval e X.env) = eval e X.env := by rfl) :
    PE (X.suite a ((a, oe) :: pn)) (.Attribute e f pos) (tXfX K a cls d f te) := by
  subst q
  refine ⟨fun pins s σ H Q I h => ?_⟩
  obtain ⟨C, ec, T, hno, h⟩ := h
  exact (pe_xf T hno hz hf he hb).run pins s σ H Q I h
end
/-- what the text says of the errors: ns all their names, kn those that are raised -/
structure WordK (K : PySem.W.Frag) (mg : Str → Option Value) (cl : Str → Addr) (kn ns : List Str) : Prop where
  m : ∀ n ∈ ns, mg n = some (.ref (cl n))
  s : ∀ n ∈ kn, n ∈ ns
  e : ∀ n ∈ kn, ExcC K (cl n) ∧ XfC K (cl n)
  k : ∀ n ∈ kn, ∀ m ∈ ns, PySem.W.kitOne K (.ref (cl n)) (.ref (cl m)) = some (decide (n = m))
  v : ∀ n ∈ kn, PySem.W.kitOne K (.ref (cl n)) (.type "ValueError") = some true
  x : ∀ n ∈ kn, ∃ S, mg "SeamError" = some (.ref S) ∧ PySem.W.exmOne K (.ref (cl n)) (.ref S) = some true
  f : ∀ n ∈ kn, ∀ g ∈ (["place", "number", "row"] : List Str), PySem.W.findIn K (.ref (cl n)) g = some none
section
variable {K : PySem.W.Frag} {mg : Str → Option Value} {E : XK} {cl : Str → Addr} {kn ns : List Str} {a : Addr} {cls : Value} {d : Option Addr} {x : Exn}
def fIsE (a : Addr) (d : Option Addr) (x : Exn) (i : Nat) (m : Str) : ME Dt := fun s ρ => match s[i]? with
  | some (some (.o (.e a' d' _))) => if a' = a ∧ d' = d then some (.ok (.bool (decide (x.c = m))), ρ) else none
  | _ => none
def fIsV (a : Addr) (d : Option Addr) (i : Nat) : ME Dt := fun s ρ => match s[i]? with
  | some (some (.o (.e a' d' _))) => if a' = a ∧ d' = d then some (.ok (.bool true), ρ) else none
  | _ => none
def fExA (a : Addr) (d : Option Addr) (i : Nat) (f : Str) : ME Dt := fun s ρ => match s[i]? with
  | some (some (.o (.e a' d' (some (g, n))))) => if a' = a ∧ d' = d ∧ g = f then some (.ok (.int n), ρ) else none
  | _ => none
theorem dict_of {G H : Hp} {p : Option (Str × Int)} (g : Gr G H) (h : match p with
    | none => d = none
    | some (f, i) => ∃ dd, d = some dd ∧ G dd = some (.xd [(f, .int i)])) : d = none ∨ ∃ dd fs, d = some dd ∧ H dd = some (.xd fs) := by
  cases p with
  | none => exact .inl h
  | some p =>
    obtain ⟨dd, a, b⟩ := h
    exact .inr ⟨dd, _, a, g _ _ b⟩
theorem xe_isE (W : WordK K mg cl kn ns) (hc : mg x.c = some cls) (hk : x.c ∈ kn) {i : Nat} {m : Str} (hm : m ∈ ns) : XE K mg E (tCB (rIsX K cls d a) (tCons (tVar i) (tCons (tC (.ref (cl m))) tNil))) (fIsE a d x i m) := fun Lo H0 σ G H s ρ A r ρ' Q hg e q => by
  unfold fIsE at hg
  split at hg
  · rename_i a' d' p hi
    split at hg
    · rename_i he
      obtain ⟨rfl, rfl⟩ := he
      cases hg
      obtain ⟨v, hv, ev, _, hd⟩ := e.at_ i _ hi
      have ec : cls = .ref (cl x.c) := by
        have := (W.m _ (W.s _ hk)).symm.trans hc
        exact (Option.some.inj this).symm
      exact ⟨v, hv, cl x.c, .ref (cl m), .ref (cl m), _, ec, (W.e _ hk).1, dict_of e.gr hd, by rw [ev], fun u hu => hu, W.k _ hk _ hm, q.ok e (.refl e.gr) (.bl _)⟩
    · cases hg
  · cases hg
theorem xe_isV (W : WordK K mg cl kn ns) (hc : mg x.c = some cls) (hk : x.c ∈ kn) {i : Nat} : XE K mg E (tCB (rIsX K cls d a) (tCons (tVar i) (tCons (tC (.ty "ValueError")) tNil))) (fIsV a d i) := fun Lo H0 σ G H s ρ A r ρ' Q hg e q => by
  unfold fIsV at hg
  split at hg
  · rename_i a' d' p hi
    split at hg
    · rename_i he
      obtain ⟨rfl, rfl⟩ := he
      cases hg
      obtain ⟨v, hv, ev, _, hd⟩ := e.at_ i _ hi
      have ec : cls = .ref (cl x.c) := by
        have := (W.m _ (W.s _ hk)).symm.trans hc
        exact (Option.some.inj this).symm
      exact ⟨v, hv, cl x.c, .ty "ValueError", .type "ValueError", _, ec, (W.e _ hk).1, dict_of e.gr hd, by rw [ev], fun u hu => hu, W.v _ hk, q.ok e (.refl e.gr) (.bl _)⟩
    · cases hg
  · cases hg
theorem xe_exA (W : WordK K mg cl kn ns) (hc : mg x.c = some cls) (hk : x.c ∈ kn) {i : Nat} {f : Str} (hf : f ∈ (["place", "number", "row"] : List Str)) : XE K mg E (tXfX K a cls d f (tVar i)) (fExA a d i f) := fun Lo H0 σ G H s ρ A r ρ' Q hg e q => by
  unfold fExA at hg
  split at hg
  · rename_i a' d' g n hi
    split at hg
    · rename_i he
      obtain ⟨rfl, rfl, rfl⟩ := he
      cases hg
      obtain ⟨v, hv, ev, _, dd, e1, e2⟩ := e.at_ i _ hi
      have ec : cls = .ref (cl x.c) := by
        have := (W.m _ (W.s _ hk)).symm.trans hc
        exact (Option.some.inj this).symm
      refine ⟨cl x.c, ec, (W.e _ hk).2, W.f _ hk _ hf, v, hv, ev, ec, dd, _, .int n, e1, e.gr _ _ e2, ?_, q.ok e (.refl e.gr) (.int _)⟩
      simp [List.lookup]
    · cases hg
  · cases hg
end
end Sb

/-! Seamboard, layer E3: the suite of a clause, by its function; the def that tells a word of an error. -/
namespace Sb
open PySem PySem.Spec PyProof.Rows L2 LamX
mutual
theorem dq_but {K : PySem.W.Frag} {G G' : Hp} (e : ∀ a o, G a = some o → (∀ fs, o ≠ .xd fs) → G' a = some o) : ∀ (d : Dt) (v : V), Dq K G v d → Dq K G' v d
  | .none, _, h => by cases h; exact .non
  | .bool b, _, h => by cases h; exact .bl b
  | .int i, _, h => by cases h; exact .int i
  | .str x, _, h => by cases h; exact .str x
  | .list ds, _, h => by cases h with | lst a b => exact .lst (e _ _ a fun fs z => by cases z) (dqs_but e ds _ b)
  | .tuple ds, _, h => by
    cases h with
    | tup a b =>
      refine .tup ?_ (dqs_but e ds _ b)
      rcases a with (h | ⟨o, h⟩) | h
      · exact .inl (.inl (e _ _ h fun fs z => by cases z))
      · exact .inl (.inr ⟨o, e _ _ h fun fs z => by cases z⟩)
      · exact .inr h
  | .dict _, _, h => by cases h
theorem dqs_but {K : PySem.W.Frag} {G G' : Hp} (e : ∀ a o, G a = some o → (∀ fs, o ≠ .xd fs) → G' a = some o) : ∀ (ds : List Dt) (vs : List V), DqAll K G vs ds → DqAll K G' vs ds
  | [], _, h => by cases h; exact .nil
  | d :: ds, _, h => by cases h with | cons a b => exact .cons (dq_but e d _ a) (dqs_but e ds _ b)
end
section
variable {K : PySem.W.Frag} {mg : Str → Option Value} {E : XK} {G H : Hp} {σ : L2.St} {a : Addr} {cls : Value} {d : Option Addr} {x : Exn}
open Classical in
theorem word_run {ts : TS} {fw : MS} {dd : Dt} (hx : XS K mg E ts fw) (hr : fw [none, some (.o (.e a d x.p)), none, none, none] none = some (.rt dd none)) (g : Gr G H) (ox : ExOk mg x cls d H) (hl : σ.length = 5) (D : Ends)
    (hq : ∀ v G2 H2, Stp G H G2 H2 → Dq K G2 v dd → D.rt v H2) : ts D (σ.set 1 (some (.ref a))) H := by
  let G' : Hp := fun b => if some b = d then H b else G b
  have at_d : ∀ b, some b = d → G' b = H b := fun b h => if_pos h
  have at_n : ∀ b, ¬ some b = d → G' b = G b := fun b h => if_neg h
  have g' : Gr G' H := fun b o h => by
    by_cases z : some b = d
    · rw [at_d b z] at h; exact h
    · rw [at_n b z] at h; exact g b o h
  have gg : Gr G G' := fun b o h => by
    by_cases z : some b = d
    · rw [at_d b z]; exact g b o h
    · rw [at_n b z]; exact h
  have e0 : EnS K none H G' H (σ.set 1 (some (.ref a))) [none, some (.o (.e a d x.p)), none, none, none] none (fun _ => []) := by
    refine ⟨g', fun z hz => (nomatch hz), fun L h => (nomatch h), fun a h => h, by rw [List.length_set, hl]; rfl, fun i u hi => ?_, fun i q hq => (nomatch hq), fun i j q h => (nomatch h), fun i => List.nodup_nil⟩
    match i, hi with
    | 1, hi =>
      cases hi
      refine ⟨.ref a, List.getElem?_set_self (by omega), rfl, rfl, ?_⟩
      have hp := ox.2
      cases hx : x.p with
      | none => rw [hx] at hp; exact hp
      | some p =>
        rw [hx] at hp
        obtain ⟨dd, e1, e2⟩ := hp
        exact ⟨dd, e1, by rw [at_d dd e1.symm]; exact e2⟩
    | 0, hi => cases hi
    | 2, hi => cases hi
    | 3, hi => cases hi
    | 4, hi => cases hi
    | n + 5, hi => simp at hi
  have xd : ∀ b o, some b = d → H b = some o → ∃ fs, o = .xd fs := fun b o z h => by
    have hp := ox.2
    cases hx : x.p with
    | none => rw [hx] at hp; rw [hp] at z; cases z
    | some p =>
      rw [hx] at hp
      obtain ⟨dd, e1, e2⟩ := hp
      rw [e1] at z
      cases z
      rw [h] at e2
      exact ⟨_, Option.some.inj e2⟩
  refine hx none H D _ G' H _ none _ _ hr e0 fun v G2 H2 sr _ dv => ?_
  let G3 : Hp := fun b => if some b = d then G b else G2 b
  have t_d : ∀ b, some b = d → G3 b = G b := fun b h => if_pos h
  have t_n : ∀ b, ¬ some b = d → G3 b = G2 b := fun b h => if_neg h
  have hh : Gr H H2 := fun b o h => sr.h b o (by simp) (by rw [h]; simp) h
  refine hq v G3 H2 ⟨fun b o h => ?_, fun b o h => ?_, hh, fun b h1 h2 => ?_⟩ (dq_but (fun b o h hn => ?_) _ _ dv)
  · by_cases z : some b = d
    · rw [t_d b z]; exact h
    · rw [t_n b z]; exact sr.g b o (gg b o h)
  · by_cases z : some b = d
    · rw [t_d b z] at h; exact hh b o (g b o h)
    · rw [t_n b z] at h; exact sr.s b o h
  · by_cases z : some b = d
    · rw [t_d b z]; exact h2
    · rw [t_n b z]; exact sr.f b h1 (by rw [at_n b z]; exact h2)
  · by_cases z : some b = d
    · obtain ⟨o', ho⟩ : ∃ o', H b = some o' := by
        have hp := ox.2
        cases hx : x.p with
        | none => rw [hx] at hp; rw [hp] at z; cases z
        | some p =>
          rw [hx] at hp
          obtain ⟨dd, e1, e2⟩ := hp
          rw [e1] at z
          cases z
          exact ⟨_, e2⟩
      have h3 := sr.g b o' (by rw [at_d b z]; exact ho)
      rw [h] at h3
      obtain ⟨fs, hf⟩ := xd b o' z ho
      exact absurd ((Option.some.inj h3).trans hf) (hn fs)
    · rw [t_n b z]; exact h
end
/-- slots of a frame are as many as its names -/
theorem takes0N {X : Cx} : L2N.Takes X (fun _ _ _ _ => False) := fun _ _ ⟨_, _, _, _, _, _, _, _, _, _, _, _, _, _, _, _, z⟩ => z.elim
theorem takes_len {X : Cx} {W : WX} (tk : L2N.Takes X W) : L2N.Takes X (fun c d σ H => σ.length = X.N.length → W c d σ H) := fun u s' ⟨a, B, sI, pins, σ, H, cls, d, e, I, nb, up, sky, na, os, ag, w⟩ =>
  tk u s' ⟨a, B, sI, pins, σ, H, cls, d, e, I, nb, up, sky, na, os, ag, w I.len⟩
/-- room of a suite -/
structure RoomU (A : Around) : Prop where
  un : A.units + 200 < cLine
theorem RoomU.units {A : Around} (r : RoomU A) : A.units + 64 < cLine := by have := r.un; omega
theorem RoomU.units65 {A : Around} (r : RoomU A) : A.units + 65 < cLine := by have := r.un; omega
theorem RoomU.units1 {A : Around} (r : RoomU A) : A.units + 1 < cLine := by have := r.un; omega
theorem RoomU.of {A : Around} {k : Nat} (r : Room k A) (v : Option Value) : RoomU (A.mark v) := ⟨by have := r.un; show A.units + 200 < _; omega⟩
section
variable {X : Cx} {K : PySem.W.Frag} {o e : Expr} {es : List Expr} {to : TE} {t : TA} {name : Str} {apos cpos : Pos} {T id : String} {r : V → List V → Hp → VK → Prop}
theorem pe_bmK (q : X.K = K) (pa : PlainAttrs T) (slot : Slot T name id) (hty : typeOf (.builtin id) = pure (.type "method_descriptor")) (hm : MtR X id r) (ho : PE X o to) (ha : PA X (e :: es) t)
    (hbase : attributeBase o name X.env (eval o X.env) = eval o X.env := by rfl)
    (hfew : ((backTo cpos (starEach (e :: es) X.env)).all (fun x => !x.1) && (backToKw cpos (keywordEach [] X.env)).all (fun x => x.1.isSome)
      && decide ((e :: es).length + ([] : List Keyword).length + (if ([] : List Keyword).isEmpty then 0 else 1) < 30)) = true := by rfl)
    (hline : (apos.endLine == cpos.line) = true := by rfl) (hs : starEach (e :: es) X.env = (false, eval e X.env) :: starEach es X.env := by rfl) (hplain : (backTo cpos (starEach es X.env)).any (·.1) = false := by rfl) :
    PE X (.Call (.Attribute o name apos) (e :: es) [] cpos) (tBM K T r to t) := q ▸ pe_bm pa slot hty hm ho ha hbase hfew hline hs hplain
end
theorem fApp_at {a : ME Dt} {o p : Option Wv} {s : Ss} {ρ ρ1 : Ro} {xs : List Dt} {d : Dt} (ha : a (o :: p :: some (.o (.l xs)) :: s) ρ = some (.ok d, ρ1)) (hl : xs.length < 100000 := by decide) : fApp 2 a (o :: p :: some (.o (.l xs)) :: s) ρ = some (.nx (o :: p :: some (.o (.l (xs ++ [d]))) :: s) ρ1) := by
  unfold fApp
  show fOut a _ _ _ = _
  unfold fOut
  rw [ha]
  show (if xs.length < 100000 then _ else _) = _
  rw [if_pos hl]
  rfl
end Sb

/-! Seamboard, layer E4: how many bools of a list are so. -/
namespace Sb
open PySem PySem.Spec PyProof.Rows L2
def rCntB (K : PySem.W.Frag) : V → List V → Hp → VK → Prop := fun x xs H Q => ∃ (p : Addr) (bs : List Bool) (k : Bool), x = .ref p ∧ xs = [.bl k] ∧ SqL K H p (bs.map V.bl) ∧ Q (.int (bs.count k : Nat)) H
theorem dps_bools {K : PySem.W.Frag} {H : Hp} : ∀ bs : List Bool, DpAll K H (bs.map V.bl) (bs.map PyData.bool)
  | [] => .nil
  | b :: bs => .cons (.bl b) (dps_bools bs)
theorem all_bools : ∀ bs : List Bool, (bs.map PyData.bool).all Shape.bool.has = true
  | [] => rfl
  | b :: bs => by
    rw [List.map_cons, List.all_cons, all_bools bs]
    rfl
theorem count_bools (k : Bool) : ∀ bs : List Bool, countIn (.bool k) (bs.map PyData.bool) = ((bs.count k : Nat) : Int)
  | [] => rfl
  | b :: bs => by
    rw [List.map_cons, countIn, count_bools k bs, List.count_cons]
    cases b <;> cases k <;> simp [same] <;> omega
section
variable {X : Cx}
theorem mt_bcount : MtR X "list.count" (rCntB X.K) := by
  intro pins s σ H x xs v us Q I rx rxs h
  obtain ⟨p, bs, k, rfl, rfl, hs, q⟩ := h
  cases rx
  obtain ⟨u, rfl, ru⟩ := rxs.one
  obtain rfl : u = Value.bool k := ru
  obtain ⟨its, rv, hl, hlen⟩ := I.list hs
  obtain ⟨as, ra⟩ := Dp.readsAll I _ _ its (dps_bools bs) rv
  refine count_list_bools hl.isList ra (all_bools bs) ⟨.int (bs.count k : Nat), H, I.tok _, ⟨s.toks, ?_⟩, q⟩
  rw [count_bools]
end
section
variable {K : PySem.W.Frag} {mg : Str → Option Value} {E : XK}
/-- xs.count(b), truths -/
def fCountB (a : ME Dt) (t : ME (List Dt)) : ME Dt := bnd a fun x => match x with
  | .list ds => bnd t fun ys => lft (match toBools ds, ys with
    | some bs, [.bool k] => some (.int (bs.count k : Nat))
    | _, _ => none)
  | _ => lft none
theorem xe_countB {to : TE} {tt : TA} {a : ME Dt} {t : ME (List Dt)} (ha : XE K mg E to a) (ht : XA K mg E tt t) : XE K mg E (tBM K "list" (rCntB K) to tt) (fCountB a t) := fun Lo H0 σ G H s ρ A r ρ' Q hg e q => by
  show to σ H _
  refine xj_at ha hg e q fun v x G1 H1 ρ1 s1 dv hg e q => ?_
  split at hg
  · rename_i ds
    cases dv with
    | lst h1 h2 =>
      refine ⟨.inl ⟨rfl, _, SqL.of (e.gr _ _ h1)⟩, ?_⟩
      refine xj_at ht hg e q fun us ys G2 H2 ρ2 s2 du hg e q => ?_
      obtain ⟨d, hd, rfl, rfl⟩ := lft_some hg
      split at hd
      · rename_i bs k hi
        cases hd
        have ee := toBools_eq hi
        subst ee
        have ev := bools_of h2
        subst ev
        cases du with
        | cons x1 x2 =>
          cases x2
          cases x1
          exact ⟨_, bs, k, rfl, rfl, SqL.of (e.gr _ _ (s2.g _ _ h1)), q.ok e (.refl e.gr) (.int _)⟩
      · cases hd
  · cases hg
end
end Sb

/-! Seamboard, layer E5: an error with a field is made. -/
namespace Sb
open PySem PySem.Spec PyProof.Rows L2
section
variable {X : Cx} {o e : Expr} {es : List Expr} {to te : TE} {ta : TA} {f : Str} {p p' p1 p2 pos : Pos}
/-- what the text says of the class whose __init__ is asked -/
structure InitC (K : PySem.W.Frag) (S : Addr) : Prop where
  sp : PySem.W.specialIn K (.ref S) "__getattribute__" = some (some (.builtin "type.__getattribute__"))
  rd : PySem.W.readsIn K S (.type "type") = true
  fi : PySem.W.findCls K (.ref S) (.type "type") "__init__" = some (.val (.builtin "ValueError.__init__"))
/-- S.__init__(self, ..) -/
theorem pe_seinit {x : Str} {S : Addr} {pl : Sem Bool} (hg : Gl X x) (hm : X.mg x = some (.ref S)) (c : InitC X.K S) (ha : PA X (e :: es) ta) (hdb : (x == ("__debug__" : Str)) = false := by decide)
    (hc : eval (.Call (.Attribute (.Name x p1) "__init__" p2) (e :: es) [] pos) X.env = (do
      let ov ← eval (.Name x p1) X.env
      standAt p2.atName
      let (f, first) ← holding [ov] (getMethod ov "__init__" pl)
      callWith pos f first (backTo pos (starEach (e :: es) X.env)) (backToKw pos (keywordEach [] X.env))) := by rfl)
    (he : starEach (e :: es) X.env = (false, eval e X.env) :: starEach es X.env := by rfl) (hpl : (backTo pos (starEach es X.env)).any (·.1) = false := by rfl) :
    PE X (.Call (.Attribute (.Name x p1) "__init__" p2) (e :: es) [] pos) (tVeI X.K ta) := by
  refine ⟨fun pins s σ H Q I h => PySem.W.methodCall_KW (ld_glob I hg hm ?_ hdb) hc⟩
  refine PySem.W.method_cls I.kIn c.sp (PySem.W.cls_value I.kIn c.rd c.fi (by decide +kernel) ?_)
  show wpAny _ _ (callWith pos (Value.builtin "ValueError.__init__") [] (backTo pos (starEach (e :: es) X.env)) []) _ _ _
  refine PyProof.Rows.callWith_method1 (thn (ha.run pos pins _ σ H _ (I.tok _) h) fun us s1 ⟨vs, H1, I1, r1, a, C, ws, ev, hl, T, ea, q⟩ => ?_) he hpl
  subst ev
  match us, r1 with
  | u0 :: ur, .cons ra rw' =>
    obtain rfl : u0 = Value.ref a := ra
    exact oinit_ok T I1 ea (by rw [← Paired.length rw', sizeLine_eq]; omega) fun s' J => ⟨.non, H1, J, rfl, q⟩
end
/-- what such an __init__ promises: g is the field -/
def spErr (K : PySem.W.Frag) (g : Str) : Sp := fun vs H Q _ => ∃ (a C : Addr) (i : Int), vs = [.ref a, .int i] ∧ i.natAbs.log2 < 1000 ∧ OexC K C ∧ PySem.W.findIn K (.ref C) g = some none ∧ H a = some (exo a C none) ∧
  ∀ dx, H dx = none → dx ≠ a → Q .non (upd (upd H dx (exd dx [(g, .int i)])) a (exo a C (some dx)))
end Sb
namespace Sb
open PySem PySem.Spec PyProof.Rows L2
section
variable {K : PySem.W.Frag}
theorem int_len {i : Int} (h : i.natAbs.log2 < 1000) : (Str.ofString (toString i)).length ≤ 1001 := by
  have e := int_text_length_le (k := 1000) (by decide) h
  rw [PySem.ofString_length]; omega
/-- f"A{n}B", then self.g = n -/
theorem err_init {g : Str} {A B : Str} (hA : A.length ≤ 1000) (hB : B.length ≤ 1000) {n : Str} {vs : List V} {H : Hp} {Q : VK} {E : XK} (h : spErr K g vs H Q E) :
    (tSeq (tDrop (tVeI K (tCons (tVar 0) (tCons (fun σ H Q => tJs [tC (.str A), tFmt (tVar 1), tC (.str B)] Str.empty σ H fun out H1 => Q (.str out) H1) tNil)))) (tOst K g (tVar 0) (tVar 1))) { nx := fun _ H' => Q .non H', rt := Q } (L2.start ["self", n] vs) H := by
  obtain ⟨a, C, i, rfl, hi, T, hf, ha, q⟩ := h
  have hl := int_len hi
  have z := sizeLine_eq
  have l0 : (Str.empty : Str).length = 0 := rfl
  refine ⟨.ref a, rfl, A, rfl, by rw [strLen_append]; omega, .int i, rfl, .inr ⟨i, rfl, by omega, _, rfl, ?_, B, rfl, ?_, ?_⟩⟩
  · rw [strLen_append, strLen_append]
    have : (Str.ofString (toString i)).length ≤ 1001 := hl
    show _ + _ + (Str.ofString (toString i)).length ≤ _
    omega
  · rw [strLen_append, strLen_append, strLen_append]
    have : (Str.ofString (toString i)).length ≤ 1001 := hl
    show _ + _ + (Str.ofString (toString i)).length + _ ≤ _
    omega
  refine ⟨a, C, _, rfl, by simp, T, ha, ?_⟩
  exact ⟨.int i, rfl, .ref a, rfl, a, C, rfl, T, hf, .inl ⟨ha, fun dx h1 h2 => q dx h1 h2⟩⟩
end
end Sb
namespace Sb
open PySem PySem.Spec PyProof.Rows L2
/-- C(e): an error with a field -/
def tMkE (K : PySem.W.Frag) (C : Addr) (g : Str) (ta : TA) : L2.St → Hp → XK → Prop := fun σ H Q => ta σ H fun vs H1 => ∃ i : Int, vs = [.int i] ∧ i.natAbs.log2 < 1000 ∧ PySem.W.findIn K (.ref C) g = some none ∧ ∀ d, H1 d = none → Q (.ref C) (some d) (upd H1 d (.xd [(g, .int i)]))
section
variable {X : Cx} {e : Expr} {es : List Expr} {ta : TA} {p pos : Pos}
theorem pmk_err {x g : Str} {C fI : Addr} {k : Nat} {fd : FuncData} {ps : List Str} (T : OexC X.K C) (iC : PySem.W.findIn X.K (.ref C) "__init__" = some (some (.ref fI))) (tI : PySem.W.typeIn X.K (.ref fI) = some (.type "function"))
    (F1 : FnOk X.prog X.w X.K X.mg X.base CX0 k fI fd ps (spErr X.K g)) (hr : Room (k + 1) X.A) (hb : Binds X.K fd ps []) (hg : Gl X x) (hm : X.mg x = some (.ref C)) (ha : PA X (e :: es) ta)
    (hdb : (x == ("__debug__" : Str)) = false := by decide) (he : starEach (e :: es) X.env = (false, eval e X.env) :: starEach es X.env := by rfl) (hpl : (backTo pos (starEach es X.env)).any (·.1) = false := by rfl) :
    L2N.PMk X (.Call (.Name x p) (e :: es) [] pos) (tMkE X.K C g ta) := by
  intro pins s σ H Q I h
  obtain ⟨nm, q, N, bs, bm, sn, sub, ab, col, dd, k0, k1, k2, k3, k5, hC, hbm⟩ := T.cls
  refine wpAny_Call_Name_kw (ld_glob I hg hm ?_ hdb)
  refine PySem.W.callWith_K (h₀ := X.base) I.ok.mod.kin T.kC (thn (ha.run pos pins s σ H _ I h) fun us s1 ⟨vs, H1, I1, r1, i, ev, hi, hf, q1⟩ => ⟨I1.kIn, ?_⟩) he hpl
  subst ev
  show wpAny _ _ (call (.ref C) us) _ _ _
  obtain ⟨hp, g0, dr, tk, os⟩ := s1
  have big : hp.objs.size ≤ hp.objs.size + 1 := Nat.le_succ _
  have hn : H1 (hp.objs.size + 1) = none := I1.hok.fresh big
  have kk : ∀ b o, hp.get? b = some o → ((hp.push (PySem.W.kdv_tup us)).push (PySem.HandSPX.excO C hp.objs.size)).get? b = some o := fun b o e => Heap.get?_push_of_some _ (Heap.get?_push_of_some _ e)
  have I2 : Inv X pins σ (upd H1 (hp.objs.size + 1) (exo (hp.objs.size + 1) C none)) ⟨(hp.push (PySem.W.kdv_tup us)).push (PySem.HandSPX.excO C hp.objs.size), g0, dr, tk, os⟩ :=
    I1.laid (t' := tk) (a := hp.objs.size + 1) (o := exo (hp.objs.size + 1) C none) (h' := (hp.push (PySem.W.kdv_tup us)).push (PySem.HandSPX.excO C hp.objs.size)) kk big (exo_ok (by heap_get))
  have r2 : Vals (V.ref (hp.objs.size + 1) :: [V.int i]) (Value.ref (hp.objs.size + 1) :: us) := .cons rfl r1
  have sp : spErr X.K g [.ref (hp.objs.size + 1), .int i] (upd H1 (hp.objs.size + 1) (exo (hp.objs.size + 1) C none)) (fun v H2 => v = .non ∧ ∃ (d : Addr) (fs : List (Str × V)), H2 (hp.objs.size + 1) = some (exo (hp.objs.size + 1) C (some d)) ∧ H2 d = some (exd d fs) ∧ H1 d = none ∧ Q (.ref C) (some d) (upd (del H2 (hp.objs.size + 1)) d (.xd fs))) (fun _ _ _ => False) := by
    refine ⟨_, C, i, rfl, hi, T, hf, upd_same, fun dx h1 h2 => ⟨rfl, dx, [(g, .int i)], upd_same, by rw [upd_ne h2, upd_same], by rw [upd_ne h2] at h1; exact h1, ?_⟩⟩
    have n1 : H1 dx = none := by rw [upd_ne h2] at h1; exact h1
    have ee : upd (del (upd (upd (upd H1 (hp.objs.size + 1) (exo (hp.objs.size + 1) C none)) dx (exd dx [(g, .int i)])) (hp.objs.size + 1) (exo (hp.objs.size + 1) C (some dx))) (hp.objs.size + 1)) dx (.xd [(g, .int i)]) = upd H1 dx (.xd [(g, .int i)]) := by
      funext b
      by_cases z : b = dx
      · rw [z, upd_same, upd_same]
      · rw [upd_ne z, upd_ne z]
        by_cases z2 : b = hp.objs.size + 1
        · rw [z2, del_same, hn]
        · rw [del_ne z2, upd_ne z2, upd_ne z, upd_ne z2]
    rw [ee]
    exact q1 dx n1
  have hl : (Value.ref (hp.objs.size + 1) :: us).length = ps.length := by
    rw [← F1.len _ _ _ _ sp, r2.length]
  have hus : us.length ≤ sizeLine := by
    rw [← Paired.length r1, sizeLine_eq]; show 1 ≤ _; decide
  refine wpAny_call (PySem.HandSPX.call_own F.excBase_ValueError (fun Y => PySem.HandSPX.refsVE_contains Y bm hbm) (I1.kIn _ _ hC) (PySem.W.looks_findIn I1.kIn iC) (fun self => PySem.W.bind_fn I1.kIn self tI) hus
    (codeAny_mono (F1.run _ X.stack _ _ ⟨Value.ref (hp.objs.size + 1) :: us, []⟩ (Value.ref (hp.objs.size + 1) :: us) _ _ (fun _ _ _ => False) (hr.make C us []) (I2.env0.make C us []) (by have := hb _ (Value.ref (hp.objs.size + 1) :: us) I2.kIn (by rw [List.append_nil]; exact hl); rw [List.append_nil] at this; exact this) r2 sp) fun r s' hq' => ?_))
  rcases r with er | fl
  · exact (show False from hq').elim
  · cases fl with
    | ret u =>
      obtain ⟨v, H2, os2, bare2, un2, hok2, rv, ev, d, fs, ea, ed, hd1, q2⟩ := hq'
      subst ev
      obtain ⟨h2, g2, d2, t2, os'⟩ := s'
      obtain ⟨t0, G, J, kG, ge, hoe, na⟩ := mk_end0 (d2 := d2) (t2 := t2) I1 big kk un2 hok2 os2 bare2 ea ed hd1
      exact ⟨rv, _, _, _, ⟨G, g2, d2, t2, os'⟩, _, .ref C, some d, rfl, J, kG, ge, hoe, ⟨rfl, rfl, fun vs e => by cases e; rfl⟩, rfl, rfl, na, rfl, bare2, raises_own T.exC T.tyC, q2⟩
    | next => exact hq'.elim
    | brk => exact hq'.elim
    | cont => exact hq'.elim
end
end Sb

/-! Seamboard, layer E6: raising, by functions; defs that may raise. -/
namespace Sb
open PySem PySem.Spec PyProof.Rows L2
/-- what raise wishes, by what a def lets out -/
def tErr (K : PySem.W.Frag) (E : XK) (C : Addr) (g : Str) (ta : TA) : TS := fun _ σ H => tMkE K C g ta σ H fun cls d H' => E cls d H'
def tErr0 (E : XK) (C : Addr) : TS := fun _ _ H => E (.ref C) none H
def fErr (n g : Str) (a : ME Dt) : MS := fOut a fun d _ ρ => match d with
  | .int i => if i.natAbs.log2 < 1000 then some (.er ⟨n, some (g, i)⟩ ρ) else none
  | _ => none
def fErr0 (n : Str) : MS := fun _ ρ => some (.er ⟨n, none⟩ ρ)
section
variable {K : PySem.W.Frag} {mg : Str → Option Value} {E : XK}
theorem xs_err {n g : Str} {C : Addr} {te : TE} {a : ME Dt} (hm : mg n = some (.ref C)) (hf : PySem.W.findIn K (.ref C) g = some none) (ha : XE K mg E te a) : XS K mg E (tErr K E C g (tCons te tNil)) (fErr n g a) := fun Lo H0 D σ G H s ρ A o hr e q => by
  show te σ H _
  refine xs_at ha hr e q fun v d G1 H1 ρ1 s1 dv hr e q => ?_
  split at hr
  · rename_i i
    split at hr
    · rename_i hi
      cases hr
      cases dv
      refine ⟨i, rfl, hi, hf, fun dd hd => ?_⟩
      have st : Stp G1 H1 G1 (upd H1 dd (.xd [(g, .int i)])) := .hid e.gr hd
      exact q (.ref C) (some dd) G1 _ (st.sq.sr e.low) (e.stp st).row ⟨hm, dd, rfl, upd_same⟩
    · cases hr
  · cases hr
end
section
variable {P : Program} {w : World} {K : PySem.W.Frag} {mg : Str → Option Value} {base : Heap} {x qual : Str} {st : Stmt} {N ps : List Str} {k : Nat}
theorem Fun_okN {f : Addr} {fd : FuncData} {sp : Sp} (F : Fun K x qual st f fd) (S : FnScope N ps (defScope st)) (len : ∀ vs H Q E, sp vs H Q E → vs.length = ps.length)
    (hbody : ∀ (cdv : Value) (A : Around) (outer : List Env) (s : Shared) (H : Hp) (vs : List V) (Q : VK) (E : XK), Room k (A.deeper (envOfC qual (defScope st) s.heap.objs.size f cdv)) → sp vs H Q E →
      ∃ t, PSs (cxOf (L2N.CX P w) P w K mg base N qual (defScope st) f cdv A outer s H E) (defBody st) t ∧ t { nx := fun _ H' => Q .non H', rt := Q } (L2.start N vs) H) : FnOk P w K mg base (L2N.CX P w) (k + 1) f fd ps sp := by
  obtain ⟨oc, od, kV, doc, pm, an, cdv, ct, osl, rfl, lk, hcd⟩ := F.ex
  exact L2.fn_of lk hcd S len fun A outer s H vs Q E hr hsp => hbody cdv A outer s H vs Q E hr hsp
theorem fnX {b : MS} {f : Addr} {fd : FuncData} (F : Fun K x qual st f fd) (S : FnScope N ps (defScope st))
    (hb : ∀ (cdv : Value) (A : Around) (outer : List Env) (s : Shared) (H : Hp) (E : XK), Room k (A.deeper (envOfC qual (defScope st) s.heap.objs.size f cdv)) →
      ∃ t, PSs (cxOf (L2N.CX P w) P w K mg base N qual (defScope st) f cdv A outer s H E) (defBody st) t ∧ XS K mg E t b) : FnOk P w K mg base (L2N.CX P w) (k + 1) f fd ps (spF K mg (runX ps.length N.length b)) := by
  refine Fun_okN F S (fun vs H Q E h => ?_) (fun cdv A outer s H vs Q E hr h => ?_)
  · obtain ⟨G, ds, r, _, dv, f, _⟩ := h
    unfold runX at f
    split at f
    · rename_i e; rw [dqs_len dv, e]
    · cases f
  · obtain ⟨G, ds, r, g, dv, hf, q⟩ := h
    unfold runX at hf
    split at hf
    · obtain ⟨t, ht, hx⟩ := hb cdv A outer s H E hr
      refine ⟨t, ht, ?_⟩
      cases ho : b (argS N.length ds) none with
      | none => rw [ho] at hf; cases hf
      | some o =>
        rw [ho] at hf
        refine hx none H _ _ G H _ none _ o ho (start_ens N g dv) ?_
        cases o with
        | rt d ρ =>
          cases hf
          exact fun v G2 H2 s2 _ d2 => q v G2 H2 s2.sq.stp d2
        | nx s ρ =>
          cases hf
          exact fun σ A G2 H2 s2 e2 => q .non G2 H2 s2.sq.stp .non
        | bk s ρ => cases hf
        | ct s ρ => cases hf
        | er x ρ =>
          cases hf
          exact fun c da G2 H2 s2 _ hx => q c da G2 H2 s2.sq.stp hx
    · cases hf
structure HasX (P : Program) (w : World) (K : PySem.W.Frag) (mg : Str → Option Value) (base : Heap) (x : Str) (k : Nat) (ps : List Str) (sp : Sp) : Prop where
  ex : ∃ f fd, FnOk P w K mg base (L2N.CX P w) k f fd ps sp ∧ mg x = some (.ref f) ∧ PySem.W.keepIn K (.ref f) = true ∧ Binds K fd ps []
structure HasXK (P : Program) (w : World) (K : PySem.W.Frag) (mg : Str → Option Value) (base : Heap) (x : Str) (k : Nat) (ps : List Str) (st : Stmt) (kws : List (Str × V)) (sp : Sp) : Prop where
  ex : ∃ f fd, FnOk P w K mg base (L2N.CX P w) k f fd ps sp ∧ mg x = some (.ref f) ∧ PySem.W.keepIn K (.ref f) = true ∧ FunD K x x (defArgs st) (defBody st) (defScope st) [] kws f fd
theorem hasX {b : MS} (A : FnAt K mg x st) (B : BindsAt x st ps) (S : FnScope N ps (defScope st))
    (hb : ∀ (cdv : Value) (f : Addr) (A : Around) (outer : List Env) (s : Shared) (H : Hp) (E : XK), Room k (A.deeper (envOfC x (defScope st) s.heap.objs.size f cdv)) →
      ∃ t, PSs (cxOf (L2N.CX P w) P w K mg base N x (defScope st) f cdv A outer s H E) (defBody st) t ∧ XS K mg E t b) : HasX P w K mg base x (k + 1) ps (spF K mg (runX ps.length N.length b)) := by
  obtain ⟨f, fd, hF, hm⟩ := A.ex
  exact ⟨f, fd, fnX hF S fun cdv A outer s H E hr => hb cdv f A outer s H E hr, hm, hF.kp, hF.binds fun kV doc pm an cdv ct us hl => B kV doc pm an cdv ct us hl⟩
end
section
variable {X : Cx} {x : Str} {k : Nat} {ps : List Str} {sp : Sp} {p pos : Pos} {e : Expr} {es : List Expr} {t tk : TA} {E : XK} {st : Stmt} {kws : List (Str × V)} {kwe : List Keyword}
/-- what such a def's body lets out, and what it may take from others -/
theorem takesE (hs : X.stack = X.env :: X.outer := by rfl) (hf : X.env.frame = some X.env.locals := by rfl) (hex : X.ex = [] := by rfl) {E₁ : Value → Shared → Prop}
    (hx : X.xe = fun e s' => wpAny (model X.prog X.w) X.A (leaving X.env e) (fun _ s'' => L2N.CX X.prog X.w X.outer X.H_0 X.s_0 E e s'') E₁ s' := by rfl) : L2N.Takes X (fun cls d _ H => E cls d H) := L2N.takes_of hs hf hex hx
theorem passE (tk : L2N.Takes X (fun cls d _ H => E cls d H)) : Passes (L2N.CX X.prog X.w) X E := L2N.passes_call tk fun _ _ _ _ h => h
theorem caX (h : HasX X.prog X.w X.K X.mg X.base x k ps sp) (hr : Room k X.A) (tk : L2N.Takes X (fun cls d _ H => E cls d H)) (hg : Gl X x) (ha : PA X (e :: es) t) (hdb : (x == ("__debug__" : Str)) = false := by decide) (he : starEach (e :: es) X.env = (false, eval e X.env) :: starEach es X.env := by rfl)
    (hpl : (backTo pos (starEach es X.env)).any (·.1) = false := by rfl) : PE X (.Call (.Name x p) (e :: es) [] pos) (tCall sp [] E t) := by
  obtain ⟨f, fd, F, hm, hk, hb⟩ := h.ex
  exact pe_call F hr hg hm hk hb .nil (passE tk) ha hdb he hpl
end
end Sb

/-! Seamboard, layer E7: methods that may raise; calls with named arguments that may raise. -/
namespace Sb
open PySem PySem.Spec PyProof.Rows L2
section
variable {P : Program} {w : World} {K : PySem.W.Frag} {mg : Str → Option Value} {base : Heap} {m qual : Str} {st : Stmt} {N ps : List Str} {k : Nat} {C : Addr}
/-- a method that may raise -/
theorem hasYX {pr : Bool} {b : MY} {f : Addr} {fd : FuncData} (hF : Fun K m qual st f fd) (T : WTxt K C) (S : FnScope N ps (defScope st)) (hN : 0 < N.length)
    (hb : ∀ (cdv : Value) (A : Around) (outer : List Env) (s : Shared) (H : Hp) (E : XK), Room k (A.deeper (envOfC qual (defScope st) s.heap.objs.size f cdv)) →
      ∃ t, PSs (cxOf (L2N.CX P w) P w K mg base N qual (defScope st) f cdv A outer s H E) (defBody st) t ∧ YS K mg E pr t b) : FnOk P w K mg base (L2N.CX P w) (k + 1) f fd ps (spY K mg C pr (runY ps.length N.length b)) := by
  refine Fun_okN hF S (fun vs H Q E h => ?_) (fun cdv A outer s H vs Q E hr h => ?_)
  · obtain ⟨G, x, p, us, t, ds, r, rfl, _, _, _, _, dv, f, _⟩ := h
    unfold runY at f
    split at f
    · rename_i e; rw [List.length_cons, dqs_len dv, e]
    · cases f
  · obtain ⟨G, x, p, us, t, ds, r, rfl, g, wa, gx, gp, dv, hf, q⟩ := h
    unfold runY at hf
    split at hf
    · obtain ⟨tt, ht, hy⟩ := hb cdv A outer s H E hr
      refine ⟨tt, ht, ?_⟩
      have e0 := start_ensY N hN T g wa gx gp dv
      cases ho : b (argY N.length t ds) none with
      | none => rw [ho] at hf; cases hf
      | some o =>
        rw [ho] at hf
        refine hy x p (hidW H x p) _ _ G H _ none _ o ho e0 rfl ?_
        have fin : ∀ {σ' : L2.St} {G2 H2 : Hp} {s' : Ss} {ρ' : Ro} {t' : Wt}, EnS K none (hidW H x p) G2 H2 σ' s' ρ' (fun i => if i = 0 then [x, p] else []) → s'[0]? = some (some (.o (.w t'))) → WAt K G2 H2 C x p t' ∧ G2 x = none ∧ G2 p = none := fun {σ' G2 H2 s' ρ' t'} e hs => by
          obtain ⟨x', p', _, hA, w'⟩ := e.wat T hs
          have hA : [x, p] = [x', p'] := hA
          cases hA
          exact ⟨w', (e.fp 0 x List.mem_cons_self).1, (e.fp 0 p (List.mem_cons_of_mem _ List.mem_cons_self)).1⟩
        cases o with
        | rt d s' ρ' =>
          unfold outY at hf
          simp only [] at hf
          split at hf
          · rename_i t' hs
            cases hf
            intro σ' v G2 H2 r2 e2 _ d2
            obtain ⟨a1, a2, a3⟩ := fin e2 hs
            exact q v G2 H2 r2 a1 a2 a3 d2
          · cases hf
        | nx s' ρ' =>
          unfold outY at hf
          simp only [] at hf
          split at hf
          · rename_i t' hs
            cases hf
            intro σ' G2 H2 r2 e2 _
            obtain ⟨a1, a2, a3⟩ := fin e2 hs
            exact q .non G2 H2 r2 a1 a2 a3 .non
          · cases hf
        | er y s' ρ' =>
          unfold outY at hf
          simp only [] at hf
          split at hf
          · rename_i t' hs
            cases hf
            intro σ' c da G2 H2 r2 e2 _ hx
            obtain ⟨a1, a2, a3⟩ := fin e2 hs
            exact q c da G2 H2 r2 a1 a2 a3 hx
          · cases hf
    · cases hf
structure HasMX (P : Program) (w : World) (K : PySem.W.Frag) (mg : Str → Option Value) (base : Heap) (C : Addr) (m : Str) (k : Nat) (ps : List Str) (sp : Sp) : Prop where
  ex : ∃ f fd, FnOk P w K mg base (L2N.CX P w) k f fd ps sp ∧ Meth K C m f ∧ Binds K fd ps []
end
section
variable {X : Cx} {m x : Str} {k : Nat} {ps : List Str} {sp : Sp} {p pos apos : Pos} {o e : Expr} {es : List Expr} {ta : TE} {t tk : TA} {C : Addr} {pl : Sem Bool} {E : XK} {st : Stmt} {kws : List (Str × V)} {kwe : List Keyword}
theorem cmX (h : HasMX X.prog X.w X.K X.mg X.base C m k ps sp) (c : Cls X.K C) (hr : Room k X.A) (tk : L2N.Takes X (fun cls d _ H => E cls d H)) (he : PE X o ta) (ha : PA X (e :: es) t)
    (hst : starEach (e :: es) X.env = (false, eval e X.env) :: starEach es X.env := by rfl) (hpl : (backTo pos (starEach es X.env)).any (·.1) = false := by rfl)
    (ht : eval (.Call (.Attribute o m apos) (e :: es) [] pos) X.env = (do
      let ov ← eval o X.env
      standAt apos.atName
      let (f, first) ← holding [ov] (getMethod ov m pl)
      callWith pos f first (backTo pos (starEach (e :: es) X.env)) (backToKw pos (keywordEach [] X.env))) := by rfl) :
    PE X (.Call (.Attribute o m apos) (e :: es) [] pos) (tMeth C m sp [] E ta t) := by
  obtain ⟨f, fd, F, hm, hb⟩ := h.ex
  exact pe_meth he c hm F hr hb .nil (passE tk) ha hst hpl ht
end
end Sb

/-! Seamboard, layer E8: raise, by the text. -/
namespace Sb
open PySem PySem.Spec PyProof.Rows L2
/-- an error with a field, in the text -/
structure HasE (P : Program) (w : World) (K : PySem.W.Frag) (mg : Str → Option Value) (base : Heap) (n g : Str) (C : Addr) (k : Nat) : Prop where
  m : mg n = some (.ref C)
  f : PySem.W.findIn K (.ref C) g = some none
  o : OexC K C
  ex : ∃ fI fd ps, PySem.W.findIn K (.ref C) "__init__" = some (some (.ref fI)) ∧ PySem.W.typeIn K (.ref fI) = some (.type "function") ∧ FnOk P w K mg base CX0 k fI fd ps (spErr K g) ∧ Binds K fd ps []
/-- an error without -/
structure ErrO (K : PySem.W.Frag) (mg : Str → Option Value) (n : Str) (C : Addr) : Prop where
  m : mg n = some (.ref C)
  q : PySem.W.excIn K C [.type "ValueError", .type "Exception", .type "BaseException", .type "object"] "ValueError.__new__" = true
  k : PySem.W.keepIn K (.ref C) = true
  s : PySem.W.subIn K (.ref C) (.type "BaseException") = some true
  t : PySem.W.typeIn K (.ref C) = some (.type "type")
section
variable {X : Cx} {n g m : Str} {C : Addr} {k j : Nat} {e : Expr} {t : TA} {E : XK} {p p2 pos pos' : Pos}
theorem ps_errX (h : HasE X.prog X.w X.K X.mg X.base n g C k) (hr : Room (k + 1) X.A) (hc : X.calm = true) (tk : L2N.Takes X (fun cls d _ H => E cls d H)) (hg : Gl X n) (ha : PA X [e] t) (hdb : (n == ("__debug__" : Str)) = false := by decide)
    (he : starEach (e :: []) X.env = (false, eval e X.env) :: starEach [] X.env := by rfl) (hpl : (backTo pos (starEach [] X.env)).any (·.1) = false := by rfl) : PS X (.Raise (some (.Call (.Name n p) [e] [] pos)) none pos') (tErr X.K E C g t) := by
  obtain ⟨fI, fd, ps, h1, h2, h3, h4⟩ := h.ex
  exact L2N.ps_raise hc tk (pmk_err h.o h1 h2 h3 hr h4 hg h.m ha hdb he hpl)
theorem ps_errO (h : ErrO X.K X.mg n C) (hc : X.calm = true) (tk : L2N.Takes X (fun cls d _ H => E cls d H)) (hg : Gl X n) (hdb : (n == ("__debug__" : Str)) = false := by decide) : PS X (.Raise (some (.Call (.Name n p) [.Constant (.str m) j p2] [] pos)) none pos') (tErr0 E C) :=
  L2N.ps_raise hc tk (L2N.pmk_own F.excBase_ValueError h.q h.m h.k (raises_own h.s h.t) hg hdb)
end
section
variable {P : Program} {w : World} {K : PySem.W.Frag} {mg : Str → Option Value} {base : Heap} {qual n g : Str} {st : Stmt} {f C S : Addr} {fd : FuncData}
/-- the __init__ of an error with a field: its text is two statements -/
theorem fn_err {A B nm : Str} (hF : Fun K "__init__" qual st f fd) (S1 : FnScope ["self", nm] ["self", nm] (defScope st)) (hm : mg "SeamError" = some (.ref S)) (c : InitC K S) (hA : A.length ≤ 1000) (hB : B.length ≤ 1000)
    (hbody : ∀ (cdv : Value) (A0 : Around) (outer : List Env) (s : Shared) (H : Hp) (E : XK), PSs (cxOf CX0 P w K mg base ["self", nm] qual (defScope st) f cdv A0 outer s H E).nox (defBody st)
      (tSeq (tDrop (tVeI K (tCons (tVar 0) (tCons (fun σ H Q => tJs [tC (.str A), tFmt (tVar 1), tC (.str B)] Str.empty σ H fun out H1 => Q (.str out) H1) tNil)))) (tOst K g (tVar 0) (tVar 1)))) : FnOk P w K mg base CX0 1 f fd ["self", nm] (spErr K g) := by
  refine hF.ok S1 (fun vs H Q E h => ?_) (fun cdv A0 outer s H vs Q E hr h => ?_)
  · obtain ⟨a, C, i, rfl, _⟩ := h
    rfl
  · exact ⟨_, hbody cdv A0 outer s H E, err_init hA hB h⟩
end
/-! a def that lets nothing out, where errors may pass -/
def PureF (F : Fn) : Prop := ∀ ds r, F ds = some r → ∃ d, r = .ok d
theorem pureF_run {np n : Nat} {b : MS} : PureF (runF np n b) := fun ds r h => by
  unfold runF at h
  split at h
  · unfold outF at h
    split at h <;> cases h <;> exact ⟨_, rfl⟩
  · cases h
section
variable {K : PySem.W.Frag} {mg : Str → Option Value} {E : XK}
theorem xe_callP {F : Fn} {tt : TA} {t : ME (List Dt)} (hp : PureF F) (ht : XA K mg E tt t) : XE K mg E (tCall (spF K mg F) [] E0 tt) (fCall F t) := fun Lo H0 σ G H s ρ A r ρ' Q hg e q => by
  show tt σ H _
  unfold fCall at hg
  refine xj_at ht hg e q fun vs ds G1 H1 ρ1 s1 dv hg e q => ?_
  split at hg
  · cases hg
  · rename_i r' hF
    cases hg
    obtain ⟨d, rfl⟩ := hp _ _ hF
    exact ⟨G1, ds, .ok d, e.gr, by rw [List.append_nil]; exact dv, hF, fun v G2 H2 st d2 => q.ok e st d2⟩
end
end Sb

/-! Seamboard, layer E9: the law with a table of its own: its start, its end; a watch out of a tuple. -/
namespace Sb
open PySem PySem.Spec PyProof.Rows L2 LamX
/-- what the law promises, its table at P -/
def spLawT (K : PySem.W.Frag) (P : Addr) : Sp := fun vs H Q _ => ∃ (a : Addr) (ns : List Int), vs = [.ref a] ∧ SqL K H a (ns.map V.int) ∧ ns.length ≤ 63 ∧ H P = some (.tbl #[]) ∧ ∀ H', Q (.bl true) H'
section
variable {K : PySem.W.Frag} {mg : Str → Option Value} {E : XK} {C : Addr}
/-- x = an expression that may change things -/
def fAsgV (a : MV Dt) (tg : FG) : MS := fun s ρ => match a s ρ with
  | none => none
  | some (.error x, _, ρ1) => some (.er x ρ1)
  | some (.ok d, s1, ρ1) => match tg d s1 with
    | some s2 => some (.nx s2 ρ1)
    | none => none
/-- w, x = Watch(b, flip=f, lie=l), a: by way of a tuple -/
def fTupWD (Fb Fc : Fn) (i j : Nat) (b f l a : ME Dt) : MS := fOut b fun vb => fOut f fun vf => fOut l fun vl s ρ => if (isOkN (Fb [vb]) && isOkN (Fc [vf]) && isOkN (Fc [vl])) = true then fOut a (fun d s ρ => some (.nx ((s.set i (some (.o (.w ⟨vb, vf, vl, .tuple [], []⟩)))).set j (some (.d d))) ρ)) s ρ else none
end
end Sb

/-! Seamboard, layer EA: the errors in the text. -/
namespace Sb
open PySem PySem.Spec PyProof.Rows L2 LamX
def clK (K : PySem.W.Frag) (n : Str) : Addr := match PySem.W.nsIn K mainGlobals n with
  | some (some (.ref C)) => C
  | _ => 0
def exccB (K : PySem.W.Frag) (D : Addr) : Bool := decide (PySem.W.findIn K (.ref D) "__getattribute__" = some (some (.builtin "BaseException.__getattribute__"))) && decide (PySem.W.findIn K (.ref D) "__getattr__" = some none) && decide (PySem.W.subIn K (.ref D) (.type "BaseException") = some true) && PySem.W.hasDictIn K D &&
  decide (PySem.W.findIn K (.ref D) "__class__" = some (some (.builtin "object.__class__"))) && decide (PySem.W.specialIn K (.builtin "object.__class__") "__get__" = some (some (.builtin "getset_descriptor.__get__"))) && decide (PySem.W.takesIn K (.builtin "object.__class__") = some true) && decide (PySem.W.mroIn K D (.type "object") = some true)
theorem exccB_ok {K : PySem.W.Frag} {D : Addr} (h : exccB K D = true) : ExcC K D ∧ XfC K D := by
  unfold exccB at h
  simp only [Bool.and_eq_true, decide_eq_true_eq] at h
  obtain ⟨⟨⟨⟨⟨⟨⟨h1, h2⟩, h3⟩, h4⟩, h5⟩, h6⟩, h7⟩, h8⟩ := h
  exact ⟨⟨h1, h2, h3, h4, h5, h6, h7, h8⟩, ⟨h1, h2, h3, h4⟩⟩
/-- what is asked of an error n that is raised -/
def knB (K : PySem.W.Frag) (ns : List Str) (n : Str) : Bool := decide (n ∈ ns) && exccB K (clK K n) && (ns.all fun m => decide (PySem.W.kitOne K (.ref (clK K n)) (.ref (clK K m)) = some (decide (n = m)))) && decide (PySem.W.kitOne K (.ref (clK K n)) (.type "ValueError") = some true) &&
  decide (PySem.W.exmOne K (.ref (clK K n)) (.ref (clK K "SeamError")) = some true) && ((["place", "number", "row"] : List Str).all fun g => decide (PySem.W.findIn K (.ref (clK K n)) g = some none))
theorem wordK_of {K : PySem.W.Frag} {mg : Str → Option Value} {h : Heap} {kn ns : List Str} (X : K.In h) (G : h.Ns mainGlobals mg) (h1 : ∀ n ∈ ns, PySem.W.nsIn K mainGlobals n = some (some (.ref (clK K n)))) (hS : PySem.W.nsIn K mainGlobals "SeamError" = some (some (.ref (clK K "SeamError")))) (h2 : ∀ n ∈ kn, knB K ns n = true) : WordK K mg (clK K) kn ns := by
  have key : ∀ n ∈ kn, n ∈ ns ∧ (ExcC K (clK K n) ∧ XfC K (clK K n)) ∧ (∀ m ∈ ns, PySem.W.kitOne K (.ref (clK K n)) (.ref (clK K m)) = some (decide (n = m))) ∧ PySem.W.kitOne K (.ref (clK K n)) (.type "ValueError") = some true ∧ PySem.W.exmOne K (.ref (clK K n)) (.ref (clK K "SeamError")) = some true ∧
      (∀ g ∈ (["place", "number", "row"] : List Str), PySem.W.findIn K (.ref (clK K n)) g = some none) := fun n hn => by
    have z := h2 n hn
    unfold knB at z
    simp only [Bool.and_eq_true, decide_eq_true_eq] at z
    obtain ⟨⟨⟨⟨⟨a1, a2⟩, a3⟩, a4⟩, a5⟩, a6⟩ := z
    exact ⟨a1, exccB_ok a2, fun m hm => of_decide_eq_true (List.all_eq_true.mp a3 m hm), a4, a5, fun g hg => of_decide_eq_true (List.all_eq_true.mp a6 g hg)⟩
  exact ⟨fun n hn => PySem.W.mg_of X G (h1 n hn), fun n hn => (key n hn).1, fun n hn => (key n hn).2.1, fun n hn => (key n hn).2.2.1, fun n hn => (key n hn).2.2.2.1, fun n hn => ⟨_, PySem.W.mg_of X G hS, (key n hn).2.2.2.2.1⟩, fun n hn => (key n hn).2.2.2.2.2⟩
theorem tabIn_mk {K : PySem.W.Frag} {f c P : Addr} {oc oc2 kV dc pm ct : Value} {an od od2 : Option Addr} {osl sl2 : Array (Option Value)} {vs : Array Value} {st : Stmt} (a : PySem.W.nsIn K mainGlobals "law" = some (some (.ref f)))
    (l : K.lookup f = some ⟨oc, od, .func (PySem.W.fnOf "law" "law" (defArgs st) (defBody st) (defScope st) .none kV dc pm an (.ref c) ct), osl⟩) (l2 : K.lookup c = some ⟨oc2, od2, .fields vs, sl2⟩) (p : vs[11]? = some (.ref P)) : PySem.W.tabIn K "law" = some (c, P) := by
  unfold PySem.W.tabIn
  rw [a]
  simp only []
  rw [l]
  simp only [PySem.W.fnOf]
  rw [l2]
  simp only []
  rw [p]
end Sb

/-! Seamboard: steps of functions, by what they give. -/
namespace Sb
open PySem PySem.Spec PyProof.Rows L2
section
variable {s : Ss} {ρ ρ1 ρ2 ρ3 : Ro}
theorem fSo_to {a : ME Dt} {i : Int} (h : a s ρ = some (.ok (.int i), ρ1)) : fSo a s ρ = some (.ok (some i), ρ1) := by
  rw [fSo_e, bnd_to h]; rfl
theorem fCons_to {a : ME Dt} {t : ME (List Dt)} {d : Dt} {ds : List Dt} (h : a s ρ = some (.ok d, ρ1)) (h2 : t s ρ1 = some (.ok ds, ρ2)) : fCons a t s ρ = some (.ok (d :: ds), ρ2) := by
  rw [fCons_e, bnd_to h, bnd_to h2]; rfl
theorem fCB_to {o : List Dt → Option Dt} {t : ME (List Dt)} {ds : List Dt} {d : Dt} (h : t s ρ = some (.ok ds, ρ1)) (e : o ds = some d) : fCB o t s ρ = some (.ok d, ρ1) := by
  rw [fCB_e, bnd_to h, e]; rfl
theorem fCallR_to {F : Fr} {i : Nat} {t : ME (List Dt)} {ds : List Dt} {x x' : Rw} {r : Except Exn Dt} (hs : s[i]? = some (some .row)) (h : t s ρ = some (.ok ds, some x)) (e : F x ds = some (r, x')) : fCallR F i t s ρ = some (r, some x') := by
  rw [fCallR_e, hs]
  simp only []
  rw [bnd_to h]
  simp only [e]
theorem fAsg_to {a : ME Dt} {tg : FG} {d : Dt} {s2 : Ss} (h : a s ρ = some (.ok d, ρ1)) (e : tg d s = some s2) : fAsg a tg s ρ = some (.nx s2 ρ1) := by
  rw [fAsg_e, fOut_to h]; simp only [e]
theorem fTup_to {t : ME (List Dt)} {ds : List Dt} (h : t s ρ = some (.ok ds, ρ1)) (hl : ds.length ≤ 100000) : fTup t s ρ = some (.ok (.tuple ds), ρ1) := by
  rw [fTup_e, bnd_to h, if_pos hl]; rfl
theorem fCall_to {F : Fn} {t : ME (List Dt)} {ds : List Dt} {r : Except Exn Dt} (h : t s ρ = some (.ok ds, ρ1)) (e : F ds = some r) : fCall F t s ρ = some (r, ρ1) := by
  rw [fCall_at, bnd_to h, e]
theorem fLst_to {t : ME (List Dt)} {ds : List Dt} (h : t s ρ = some (.ok ds, ρ1)) (hl : ds.length ≤ 100000) : fLst t s ρ = some (.ok ds, ρ1) := by
  rw [fLst_e, bnd_to h, few_e hl]; rfl
theorem fIt_to {t : ME (List Dt)} {n : Nat} (h : t s ρ = some (.ok [.int (n : Int)], ρ1)) (hn : n ≤ 1000000) : fRng1 t s ρ = some (.ok (upto 0 n), ρ1) := by
  rw [fRng1_e, bnd_to h, oRng1_e (by omega)]; rfl
end
section
variable {s s1 s2 : Ss} {ρ ρ1 ρ2 : Ro} {t t' : Wt} {d x y z : Dt} {ds : List Dt} {F : Fy} {i : Nat} {a : ME (List Dt)} {b : Bool} {P : Addr} {q : Str}
theorem vMeth_to (hs : s[i]? = some (some (.o (.w t)))) (ha : a s ρ = some (.ok ds, ρ1)) (h : F t ds = some (.ok d, t')) : vMeth F i a s ρ = some (.ok d, s.set i (some (.o (.w t'))), ρ1) := by
  unfold vMeth; rw [hs]; simp only [ha, h]
theorem vB_to {g : MV Dt} (h : g s ρ = some (.ok (.bool b), s1, ρ1)) : vB g s ρ = some (.ok b, s1, ρ1) := by unfold vB vBnd; rw [h]; rfl
theorem vOf_to {α : Type} {g : ME α} {v : α} (h : g s ρ = some (.ok v, ρ1)) : vOf g s ρ = some (.ok v, s, ρ1) := by unfold vOf; rw [h]
theorem vOp_to {f : Dt → Dt → Option Dt} {g h : MV Dt} (e : g s ρ = some (.ok x, s1, ρ1)) (e2 : h s1 ρ1 = some (.ok y, s2, ρ2)) (q : f x y = some z) : vOp f g h s ρ = some (.ok z, s2, ρ2) := by
  unfold vOp vBnd; rw [e]; simp only [vBnd, e2, q]; rfl
theorem fIfV_f {g : MV Bool} {m n : MS} (e : g s ρ = some (.ok false, s1, ρ1)) : fIfV g m n s ρ = n s1 ρ1 := by unfold fIfV; rw [e]; rfl
theorem fDropV_to {g : MV Dt} (e : g s ρ = some (.ok d, s1, ρ1)) : fDropV g s ρ = some (.nx s1 ρ1) := by unfold fDropV; rw [e]
end
theorem wf_str {z : Str} {n : Nat} (h : okS z) : wfA n (.str z) = true := by
  have := shaped_S h
  cases n <;> exact this
theorem wf_ints {n : Nat} (l : List Int) (hl : l.length ≤ 50000) : wfA (n + 1) (ti l) = true := by
  show (decide ((l.map PyData.int).length ≤ 50000) && (l.map PyData.int).all (wfA n)) = true
  rw [Bool.and_eq_true, decide_eq_true_eq, List.length_map, List.all_eq_true]
  exact ⟨hl, fun d hd => by obtain ⟨i, _, rfl⟩ := List.mem_map.mp hd; cases n <;> rfl⟩
theorem wf_pair {n : Nat} {x y : Dt} (hx : wfA n x = true) (hy : wfA n y = true) : wfA (n + 1) (.tuple [x, y]) = true := by
  show (decide ([x, y].length ≤ 50000) && [x, y].all (wfA n)) = true
  simp [hx, hy]
/-- the lines -/
theorem fNot_to {g : ME Bool} {s : Ss} {ρ ρ1 : Ro} {b : Bool} (h : g s ρ = some (.ok b, ρ1)) : fNot g s ρ = some (.ok (!b), ρ1) := by rw [fNot_e, bnd_to h]; rfl
end Sb

/-! Seamboard: loops that may end early. -/
namespace Sb
open PySem PySem.Spec PyProof.Rows L2
/-! ### a loop that may end early -/
def isStop : Ot → Bool
  | .rt _ _ => true
  | .er _ _ => true
  | _ => false
def fst (bad : Nat → Bool) (n : Nat) : Option Nat := (List.range n).find? bad
end Sb

/-! Seamboard: a def and its raising version. -/
namespace Sb
open PySem PySem.Spec PyProof.Rows L2
/-! a def and its raising version -/
def leS (a b : MS) : Prop := ∀ s ρ o, a s ρ = some o → b s ρ = some o
theorem leS_rfl (a : MS) : leS a a := fun _ _ _ h => h
theorem leS_never (b : MS) : leS fNever b := fun _ _ _ h => nomatch h
theorem leS_seq {a b a' b' : MS} (h1 : leS a a') (h2 : leS b b') : leS (fSeq a b) (fSeq a' b') := fun s ρ o h => by
  unfold fSeq at h ⊢
  split at h
  · rename_i s1 ρ1 e
    rw [h1 _ _ _ e]
    exact h2 _ _ _ h
  · rename_i hn
    rw [h1 _ _ _ h]
    split
    · rename_i s1 ρ1 e
      cases e
      exact absurd h (hn _ _)
    · rfl
theorem leS_if {g : ME Bool} {a b a' b' : MS} (h1 : leS a a') (h2 : leS b b') : leS (fIfS g a b) (fIfS g a' b') := fun s ρ o h => by
  rw [fIfS_e] at h ⊢
  unfold fOut at h ⊢
  cases e : g s ρ with
  | none => rw [e] at h; cases h
  | some z =>
    rw [e] at h
    obtain ⟨r1, ρ1⟩ := z
    cases r1 with
    | error x => exact h
    | ok x => cases x with
      | true => exact h1 _ _ _ h
      | false => exact h2 _ _ _ h
theorem le_run {np n : Nat} {b b' : MS} (h : leS b b') : ∀ ds d, runF np n b ds = some d → runX np n b' ds = some d := fun ds d e => by
  unfold runF at e
  unfold runX
  split at e
  · rename_i hn
    rw [if_pos hn]
    cases q : b (argS n ds) none with
    | none => rw [q] at e; cases e
    | some o =>
      rw [h _ _ _ q]
      rw [q] at e
      cases o <;> first | exact e | cases e
  · cases e
theorem runX_er {np n : Nat} {b : MS} {ds : List Dt} {x : Exn} {ρ : Ro} (hn : ds.length = np) (h : b (argS n ds) none = some (.er x ρ)) : runX np n b ds = some (.error x) := by
  unfold runX
  rw [if_pos hn, h]
  rfl
end Sb

/-! Seamboard, layer T1: lambdas as things: made, kept in lists, called wherever they were handed to. -/
namespace Sb
open PySem PySem.Spec PyProof.Rows L2 LamX
/-! ### what nobody owns, as a base -/
open Classical in
noncomputable def snap (h : Heap) (H : Hp) (fs : List Addr) : Heap := PySem.W.hideAll h ((List.range h.objs.size).filter fun b => decide (H b ≠ none ∨ b ∈ fs))
section
variable {h : Heap} {H : Hp} {fs : List Addr} {b : Addr} {o : Obj}
theorem snap_get (e : h.get? b = some o) (n : H b = none) (nf : b ∉ fs) : (snap h H fs).get? b = some o := by
  refine PySem.W.hideAll_get _ e fun q => ?_
  rw [List.mem_filter, decide_eq_true_eq] at q
  rcases q.2 with q | q
  · exact q n
  · exact nf q
theorem get_snap (e : (snap h H fs).get? b = some o) : h.get? b = some o ∧ H b = none ∧ b ∉ fs := by
  have e1 : h.get? b = some o := PySem.W.of_hideAll _ e
  have key : ¬ (H b ≠ none ∨ b ∈ fs) := fun q => by
    have z : (snap h H fs).get? b = none := PySem.W.hideAll_none _ (List.mem_filter.mpr ⟨List.mem_range.mpr (Heap.lt_size e1), by rw [decide_eq_true_eq]; exact q⟩)
    rw [z] at e; cases e
  refine ⟨e1, ?_, fun q => key (.inr q)⟩
  cases hq : H b with
  | none => rfl
  | some u => exact absurd (.inl (by rw [hq]; simp)) key
theorem snap_size : (snap h H fs).objs.size = h.objs.size := PySem.W.hideAll_size _ _
end
section
variable {P : Program} {w : World} {K : PySem.W.Frag} {mg : Str → Option Value} {base base' : Heap} {A : Around} {outer : List Env} {s : Shared} {H : Hp}
theorem funs_snap {h : Heap} {fs : List Addr} : ∀ {l : List Env}, h.FunFrames base l → (∀ L ∈ frs l, L ∈ fs) → h.FunFrames (snap h H fs) l
  | [], _, _ => trivial
  | env :: l, ⟨a, ⟨L, o, b, _, c, d⟩, r⟩, m => by
    refine ⟨a, ⟨L, o, b, ?_, c, d⟩, funs_snap r fun M hM => m M ?_⟩
    · cases q : (snap h H fs).get? L with
      | none => rfl
      | some u =>
        refine absurd (m L ?_) (get_snap q).2.2
        unfold frs
        rw [List.filterMap_cons, b]
        exact List.mem_cons_self
    · unfold frs at hM ⊢
      rw [List.filterMap_cons, b]
      exact List.mem_cons_of_mem _ hM
theorem base_snap (e : Env0 P w K mg base A outer s H) {b : Addr} {o : Obj} (q : base.get? b = some o) : (snap s.heap H (frs outer)).get? b = some o := by
  obtain ⟨x, y⟩ := e.bs b o q
  refine snap_get x y fun m => ?_
  have := (e.funs.mem m).1
  rw [q] at this; cases this
theorem env0_snap (e : Env0 P w K mg base A outer s H) : Env0 P w K mg (snap s.heap H (frs outer)) A outer s H where
  frames := e.frames
  mod := ⟨e.mod.kin.keeps fun b o q => base_snap e q, e.mod.glob.keeps fun b o q => base_snap e q, by
    obtain ⟨mb, x, y⟩ := e.mod.blt
    exact ⟨mb, x.keeps fun b o q => base_snap e q, y⟩, e.mod.nolimit.keeps fun b o q => base_snap e q⟩
  bs := fun b o q => ⟨(get_snap q).1, (get_snap q).2.1⟩
  bsz := Nat.le_of_eq snap_size
  funs := funs_snap e.funs fun _ m => m
  frf := e.frf
  hok := e.hok
  bare := e.bare
theorem funs_less {h : Heap} (k : ∀ b o, base.get? b = some o → base'.get? b = some o) : ∀ {l : List Env}, h.FunFrames base' l → h.FunFrames base l
  | [], _ => trivial
  | env :: l, ⟨a, ⟨L, o, b, n, c, d⟩, r⟩ => by
    refine ⟨a, ⟨L, o, b, ?_, c, d⟩, funs_less k r⟩
    cases q : base.get? L with
    | none => rfl
    | some u => rw [k L u q] at n; cases n
theorem env0_less (m : Mod K mg base) (k : ∀ b o, base.get? b = some o → base'.get? b = some o) (z : base.objs.size ≤ base'.objs.size) (e : Env0 P w K mg base' A outer s H) : Env0 P w K mg base A outer s H where
  frames := e.frames
  mod := m
  bs := fun b o q => e.bs b o (k b o q)
  bsz := Nat.le_trans z e.bsz
  funs := funs_less k e.funs
  frf := e.frf
  hok := e.hok
  bare := e.bare
end
/-! ### a lambda's text, its object -/
structure Lm where
  params : Arguments
  body : Expr
  scope : Scope
  dflt : Bool
def Lm.dV (L : Lm) (d : Addr) : Value := if L.dflt then .ref d else .none
def thFn (q : Str) (cl : List (Str × Addr)) (L : Lm) (d c' : Addr) (doc pm ctv : Value) : FuncData := PySem.W.kdv_fn "<lambda>" q L.params (.expr L.body) L.scope (cloFrom cl L.scope.names []) (L.dV d) doc pm (.ref c') ctv
def thObj (q : Str) (cl : List (Str × Addr)) (L : Lm) (d c' : Addr) (doc pm ctv : Value) : Obj := { cls := .type "function", data := .func (thFn q cl L d c' doc pm ctv) }
def ThO (q : Str) (cl : List (Str × Addr)) (L : Lm) (d c' f : Addr) : HO := .ext fun h => ∃ doc pm ctv, h.get? f = some (thObj q cl L d c' doc pm ctv)
/-- no parameter, or one with a default; captured names and globals else -/
structure LamD (N : List Str) (sc scope : Scope) : Prop where
  kind : scope.kind = .function
  co : scope.isCoroutine = false
  gen : scope.isGenerator = false
  own : ∀ y ∈ scope.names, y.2 ≠ .cell ∧ (y.2 = .local → y.1 ∉ N)
  free : ∀ y ∈ scope.names, y.2 = .free → sc.names.lookup y.1 = some .cell ∨ sc.names.lookup y.1 = some .free
def lamDB (N : List Str) (sc scope : Scope) : Bool :=
  decide (scope.kind = .function) && (!scope.isCoroutine && (!scope.isGenerator && (scope.names.all (fun y => !decide (y.2 = .cell) && (!decide (y.2 = .local) || !decide (y.1 ∈ N))) && scope.names.all fun y => !decide (y.2 = .free) || (decide (sc.names.lookup y.1 = some .cell) || decide (sc.names.lookup y.1 = some .free)))))
theorem lamD_by {N : List Str} {sc scope : Scope} (h : lamDB N sc scope = true) : LamD N sc scope := by
  unfold lamDB at h
  rw [Bool.and_eq_true, Bool.and_eq_true, Bool.and_eq_true, Bool.and_eq_true] at h
  obtain ⟨a, b, c, d, e⟩ := h
  refine ⟨of_decide_eq_true a, by simpa using b, by simpa using c, fun y hy => ?_, fun y hy z => ?_⟩
  · have := List.all_eq_true.mp d y hy
    rw [Bool.and_eq_true, Bool.or_eq_true] at this
    refine ⟨by simpa using this.1, fun z => ?_⟩
    rcases this.2 with q | q
    · simp [z] at q
    · simpa using q
  · have := List.all_eq_true.mp e y hy
    rw [Bool.or_eq_true, Bool.or_eq_true] at this
    rcases this with q | q | q
    · simp [z] at q
    · exact .inl (of_decide_eq_true q)
    · exact .inr (of_decide_eq_true q)
/-- what is bound when it's called with nothing -/
def LmB (L : Lm) : Prop := ∀ (q : Str) (cl : List (Str × Addr)) (d c' : Addr) (doc pm ctv u : Value) (s : Shared), (L.dflt = true → IsTup s.heap d #[u]) → ∃ binds, BindsTo s (thFn q cl L d c' doc pm ctv) ⟨[], []⟩ binds ∧ ∀ y ∈ binds, L.scope.names.lookup y.1 = some .local
section
variable {X : Cx} {pins : List (Addr × Obj)} {σ : L2.St} {H : Hp} {s : Shared}
/-- the object laid -/
theorem th_laid {q : Str} {cl : List (Str × Addr)} {L : Lm} {d c' : Addr} {doc pm ctv : Value} (I : Inv X pins σ H s) :
    Inv X pins σ (upd H s.heap.objs.size (ThO q cl L d c' s.heap.objs.size)) { s with heap := s.heap.push (thObj q cl L d c' doc pm ctv) } :=
  I.laid (t' := s.toks) (fun b u e => Heap.get?_push_of_some _ e) (Nat.le_refl _) ⟨⟨doc, pm, ctv, Heap.get?_push_size _ rfl⟩, ⟨_, Heap.get?_push_size _ rfl⟩, fun h1 h2 ⟨x, y, z, e⟩ k => ⟨x, y, z, k _ e⟩⟩
theorem lam_tail {c P : Addr} {KN : Addr → Prop} {L : Lm} {d : Addr} {pos : Pos} {n : Nat} {E : Value → Shared → Prop} {Q : Value → Shared → Prop} (I : Inv X pins σ H s) (TB : TabB X.base X.mg c P) (hcode : X.env.code = .ref c)
    (T : TabK H P (X.env.qual ++ "<lambda>") KN) (hfree : ∀ y ∈ L.scope.names, y.2 = .free → ∃ c, X.env.cells.lookup y.1 = some c)
    (h : ∀ (f c' : Addr) (H2 : Hp) (s' : Shared), Made H P (X.env.qual ++ "<lambda>") KN c' H2 → H2 f = none → H2 c' = some (CodeO c' (X.env.qual ++ "<lambda>")) → Inv X pins σ (upd H2 f (ThO (X.env.qual ++ "<lambda>") X.env.cells L d c' f)) s' → Q (.ref f) s') :
    wpAny (model X.prog X.w) X.A (makeTail "<lambda>" (X.env.qual ++ "<lambda>") L.params (.expr L.body) L.scope X.env (L.dV d) .none .none pos n) Q E s := by
  obtain ⟨ps, hP, ht, ha⟩ := T.tab
  have sP := I.hok P _ hP
  have sP : s.heap.get? P = some { cls := .none, data := .fields ps } := sP
  have gl := I.mod.glob.keeps I.bk
  have cd := TB.code.keeps I.bk
  have bm := TB.bm.keeps I.bk
  rcases Option.eq_none_or_eq_some (codeAmong pos ps.toList) with hc | ⟨cv, hc⟩
  · refine PySem.W.kdv_makeTail (P := P) (ps := ps) (closure_ok hfree) I.ok.glob gl hcode cd sP ht hc TB.gP bm fun c' ctv doc h' tk ext lo hi rec_ tab => ?_
    obtain ⟨_, oc, vs, t, e1, e2, e3, e4⟩ := rec_
    cases e1
    have n0 : H c' = none := I.hok.fresh lo
    have eL : (ps ++ #[rawInt pos.line, rawInt pos.col, .ref c']).toList = ps.toList ++ [rawInt pos.line, rawInt pos.col, .ref c'] := by simp
    have J := inv_table (t' := tk) (more := #[rawInt pos.line, rawInt pos.col, .ref c']) (q := X.env.qual ++ "<lambda>") (h' := h') I hP (fun b o hb e => ext b o hb e) tab lo ⟨oc, vs, t, e2, e3, e4⟩
    have J2 := th_laid (q := X.env.qual ++ "<lambda>") (cl := X.env.cells) (L := L) (d := d) (c' := c') (doc := doc) (pm := (X.mg "__name__").getD .none) (ctv := ctv) J
    refine h _ c' _ _ (.new _ n0 ?_ fun p' cv e => ?_) ?_ upd_same J2
    · rw [eL]; exact PySem.TriplesOk_snoc _ _ _ _ ht
    · rw [eL] at e
      rcases among_app _ ht e with z | z
      · obtain ⟨c0, a, b⟩ := ha p' cv z
        exact ⟨c0, a, .inl b⟩
      · exact ⟨c', z, .inr rfl⟩
    · exact J.hok.fresh (Nat.le_refl _)
  · obtain ⟨c', rfl, hk⟩ := ha pos cv hc
    refine PySem.W.kdv_makeTailHit (P := P) (ps := ps) (closure_ok hfree) I.ok.glob gl hcode cd sP ht hc bm fun ctv doc h' tk keep big => ?_
    have J : Inv X pins σ H { s with heap := h', toks := tk } := I.kept keep
    have J2 := th_laid (q := X.env.qual ++ "<lambda>") (cl := X.env.cells) (L := L) (d := d) (c' := c') (doc := doc) (pm := (X.mg "__name__").getD .none) (ctv := ctv) J
    exact h _ c' H _ (.hit hk) (J.hok.fresh (Nat.le_refl _)) (T.code c' hk) J2
/-- what stands ahead of the making: its default's tuple -/
def Dfl (L : Lm) (H : Hp) (d : Addr) (H1 : Hp) : Prop := (L.dflt = true ∧ H d = none ∧ H1 = upd H d (.tup [.int 0])) ∨ (L.dflt = false ∧ H1 = H)
def tLamT (X : Cx) (P : Addr) (L : Lm) : TE := fun _ H Q => ∃ KN, TabK H P (X.env.qual ++ "<lambda>") KN ∧ ∀ d H1, Dfl L H d H1 → ∀ c' f H2, Made H1 P (X.env.qual ++ "<lambda>") KN c' H2 → H2 f = none → H2 c' = some (CodeO c' (X.env.qual ++ "<lambda>")) →
  Q (.ref f) (upd H2 f (ThO (X.env.qual ++ "<lambda>") X.env.cells L d c' f))
theorem LamD.has {scope : Scope} (L : LamD X.N X.env.scope scope) (ok : X.Ok) : ∀ y ∈ scope.names, y.2 = .free → ∃ c, X.env.cells.lookup y.1 = some c := fun y hy e => (L.free y hy e).elim (fun k => ok.has _ (.inl k)) fun k => ok.has _ (.inr k)
theorem tabK_upd {H : Hp} {P d : Addr} {q : Str} {KN : Addr → Prop} {o : HO} (T : TabK H P q KN) (n : H d = none) : TabK (upd H d o) P q KN := by
  obtain ⟨⟨ps, hP, r⟩, hc⟩ := T
  refine ⟨⟨ps, ?_, r⟩, fun c hk => ?_⟩
  · rw [upd_ne (ne_of_none hP n)]; exact hP
  · have := hc c hk
    rw [upd_ne (ne_of_none this n)]; exact this
theorem pe_lamT {c P : Addr} {L : Lm} {pos : Pos} (TB : TabB X.base X.mg c P) (hcode : X.env.code = .ref c) (D : LamD X.N X.env.scope L.scope) (hk : L.params.kw_defaults = [])
    (hd : (L.dflt = false ∧ L.params.defaults = []) ∨ (L.dflt = true ∧ ∃ e, L.params.defaults = [e] ∧ PE X e (tC (.int 0)))) :
    PE X (.Lambda L.params L.body L.scope pos) (tLamT X P L) := by
  refine ⟨fun pins s σ H Q I ⟨KN, T, h⟩ => ?_⟩
  have hfree := D.has I.ok
  rcases hd with ⟨d0, hd⟩ | ⟨d1, e, hd, he⟩
  · have z : defaultsOf L.params X.env = ([], []) := by rw [defaultsOf_eq, hd, hk]; rfl
    refine PySem.W.kla_eval z ?_
    rw [makeFunction_eq]
    simp only [List.zip_nil_right, List.filterMap_nil, List.isEmpty_nil, if_true, pure_bind]
    have ev : L.dV 0 = Value.none := by unfold Lm.dV; rw [d0]; rfl
    have key := fun (n : Nat) => lam_tail (L := L) (d := 0) (pos := pos) (n := n) (E := X.xe) (Q := EP X pins σ Q) I TB hcode T hfree fun f c' H2 s' made fn hc J => ⟨.ref f, _, J, rfl, h 0 H (.inr ⟨d0, rfl⟩) c' f H2 made fn hc⟩
    rw [ev] at key
    exact key _
  · refine PySem.W.kdv_lam (by rw [hd]; rfl) hk ?_
    rw [hd]
    refine PySem.W.kdv_all1 (thn (he.run pins s σ H (fun v H' => v = .int 0 ∧ H' = H) I ⟨rfl, rfl⟩) fun u s1 ⟨v, H', I1, r1, ev, eH⟩ => PySem.W.kdv_all0 ?_)
    subst ev eH
    rw [makeFunction_eq]
    simp only [List.zip_nil_right, List.filterMap_nil, List.isEmpty_nil, if_true, pure_bind, List.isEmpty_cons, Bool.false_eq_true, if_false]
    refine wpAny_bind (wpAny_newTextTuple ?_)
    have n0 : H' s1.heap.objs.size = none := I1.fresh
    have J : Inv X pins σ (upd H' s1.heap.objs.size (.tup [.int 0])) { s1 with heap := s1.heap.push { cls := .type "tuple", data := .seq [u].toArray } } :=
      I1.laid (t' := s1.toks) (fun b o e => Heap.get?_push_of_some _ e) (Nat.le_refl _) ⟨by show 1 ≤ sizeLine; decide, [u], .cons r1 .nil, _, Heap.get?_push_size _ rfl, rfl, 0, rfl⟩
    have ev : L.dV s1.heap.objs.size = Value.ref s1.heap.objs.size := by unfold Lm.dV; rw [d1]; rfl
    have key := fun (n : Nat) => lam_tail (L := L) (d := s1.heap.objs.size) (pos := pos) (n := n) (E := X.xe) (Q := EP X pins σ Q) J TB hcode (tabK_upd T n0) hfree fun f c' H2 s' made fn hc J2 => ⟨.ref f, _, J2, rfl, h _ _ (.inl ⟨d1, n0, rfl⟩) c' f H2 made fn hc⟩
    rw [ev] at key
    exact key _
end
end Sb

/-! Seamboard, layer T2: a lambda is called, wherever that is. -/
namespace Sb
open PySem PySem.Spec PyProof.Rows L2 LamX
section
variable {X : Cx} {pins : List (Addr × Obj)} {σ : L2.St} {H HZ : Hp} {s s1 : Shared}
theorem lam_startB {A : Around} {outer : List Env} {E : XK} {scope : Scope} {f c' : Addr} {h1 : Heap} {tk : Nat} {m1 : Str → Option Value} (I : Inv X pins σ H s) (L : LamD X.N X.env.scope scope) (e0 : Env0 X.prog X.w X.K X.mg X.base A outer s1 HZ) (hd : A.handled = none)
    (hc : ∀ y c, X.env.cells.lookup y = some c → HZ c = none ∧ ∀ o, s.heap.get? c = some o → s1.heap.get? c = some o) (hns : h1.Ns s1.heap.objs.size m1) (kp : ∀ b o, s1.heap.get? b = some o → h1.get? b = some o) :
    Inv (lamCx X A outer s1 HZ E scope f c') [] σ HZ { s1 with heap := h1, toks := tk } := by
  have back : ∀ {y c}, (cloFrom X.env.cells scope.names []).lookup y = some c → X.env.cells.lookup y = some c := by
    intro y c e
    have hm := PySem.mem_of_lookup e
    rcases cloFrom_mem hm with q | ⟨q1, q2⟩
    · cases q
    · obtain ⟨c0, q3⟩ := L.has I.ok _ q1 rfl
      have q3 : X.env.cells.lookup y = some c0 := q3
      rw [q3] at q2
      rw [q3, q2]; rfl
  have there : ∀ {y}, scope.names.lookup y = some .free → ∃ c, (cloFrom X.env.cells scope.names []).lookup y = some c := fun {y} q =>
    mem_lookup (cloFrom_has (cells := X.env.cells) (acc := []) (PySem.mem_of_lookup q))
  have cellK : ∀ {y c v}, X.env.cells.lookup y = some c → s.heap.IsCell c v → h1.IsCell c v := by
    rintro y c v e ⟨o, ho, hv⟩
    exact ⟨o, kp _ _ ((hc y c e).2 o ho), hv⟩
  have none_in : ∀ b : Addr, b ∉ (lamCx X A outer s1 HZ E scope f c').ex := fun b q => nomatch (show b ∈ ([] : List Addr) from q)
  have ok : (lamCx X A outer s1 HZ E scope f c').Ok := {
    mod := e0.mod
    kind := L.kind
    glob := rfl
    blt := rfl
    above := Nat.le_refl _
    inj := fun y z c a b => I.ok.inj y z c (back a) (back b)
    has := fun y q => by
      rcases q with q | q
      · exact absurd rfl (L.own _ (PySem.mem_of_lookup (show scope.names.lookup y = some .cell from q))).1
      · exact there q
    cab := fun y c q _ => Bool.noConfusion (show false = true from q)
    hd := fun _ => hd
    frames := Around.frames_deeper e0.frames
    stk := .inr ⟨rfl, rfl⟩
    exf := fun b q => absurd q (none_in b)
    bs := e0.bs
    bsz := e0.bsz
    noex := fun b _ _ => none_in b
    exfs := fun b q => absurd q (none_in b)
    funs := e0.funs
    frf := e0.frf }
  refine ⟨ok, rfl, e0.bare, Un.kept kp, ⟨m1, hns, fun i y v e1 e2 vis => ?_⟩, fun y c e => ?_, e0.hok.fresh (Nat.le_refl _), fun y c e => (hc y c (back e)).1, fun p q => absurd (show p ∈ ([] : List (Addr × Obj)) from q) List.not_mem_nil, e0.hok.kept kp, I.len⟩
  · have e1 : X.N[i]? = some y := e1
    rcases (show Vis scope y from vis) with k | k | k
    · exact absurd (List.mem_of_getElem? e1) ((L.own _ (PySem.mem_of_lookup k)).2 rfl)
    · exact absurd rfl (L.own _ (PySem.mem_of_lookup k)).1
    · obtain ⟨m, hn, look⟩ := I.loc
      have kk := L.free _ (PySem.mem_of_lookup k) rfl
      obtain ⟨u, r, q⟩ := look i y v e1 e2 (kk.elim (fun z => .inr (.inl z)) fun z => .inr (.inr z))
      obtain ⟨c2, h2⟩ := there k
      refine ⟨u, r, .inr ⟨.inr k, c2, h2, ?_⟩⟩
      rcases q with ⟨k0, _⟩ | ⟨_, c3, e3, z⟩
      · have k0 : X.env.scope.names.lookup y = some .local := k0
        rcases kk with z | z <;> (have z : X.env.scope.names.lookup y = _ := z; rw [z] at k0; cases k0)
      · have := back h2
        rw [this] at e3
        cases e3
        exact cellK this z
  · obtain ⟨v, z⟩ := I.cell y c (back e)
    exact ⟨v, cellK (back e) z⟩
/-- what is to be known of a thing, to call it -/
structure ThK (X : Cx) (L : Lm) (H : Hp) (f d c' : Addr) : Prop where
  obj : H f = some (ThO (X.env.qual ++ "<lambda>") X.env.cells L d c' f)
  code : H c' = some (CodeO c' (X.env.qual ++ "<lambda>"))
  dfl : L.dflt = true → H d = some (.tup [.int 0])
/-- a(), wherever the maker's names stand as they stood -/
theorem pe_actB {base' : Heap} {A' : Around} {stack' : List Env} {s' : Shared} {H' : Hp} {CXg : CXT} {Eg : XK} {Ng : List Str} {qg : Str} {sg : Scope} {g f d c' : Addr} {cdg : Value} {L : Lm} {k i : Nat} {a : Str} {pn : List (Addr × Obj)} {xe : Value → Shared → Prop} {W : WX} {E : XK} {tb : TE} {p1 p2 : Pos}
    (I : Inv X pins σ H s) (D : LamD X.N X.env.scope L.scope) (hB : LmB L) (sub : ∀ b o, X.base.get? b = some o → base'.get? b = some o) (bz : X.base.objs.size ≤ base'.objs.size)
    (hc : ∀ y c o, X.env.cells.lookup y = some c → s.heap.get? c = some o → base'.get? c = some o)
    (tk : L2N.Takes ((cxOf CXg X.prog X.w X.K X.mg base' Ng qg sg g cdg A' stack' s' H' Eg).tr pn xe) W) (hW : ∀ cls d σ' H', E cls d H' → W cls d σ' H') (hr : Room (k + 1) (A'.deeper (envOfC qg sg s'.heap.objs.size g cdg)))
    (hbody : ∀ (A : Around) (outer : List Env) (s : Shared) (H : Hp), Room k (A.deeper (lamEnv X L.scope s.heap.objs.size f c')) → PE (lamN X A outer s H E L.scope f c') L.body tb)
    (hN : Ng[i]? = some a) (hv : Vis sg a) (hd : (a == ("__debug__" : Str)) = false := by decide) (hcd : (a == ("__classdict__" : Str)) = false := by decide) :
    PE ((cxOf CXg X.prog X.w X.K X.mg base' Ng qg sg g cdg A' stack' s' H' Eg).tr pn xe) (.Call (.Name a p1) [] [] p2) (fun σZ HZ Q => σZ[i]? = some (some (.ref f)) ∧ ThK X L HZ f d c' ∧ tb σ HZ Q) := by
  refine ⟨fun pz sz σZ HZ Q IZ ⟨hs, T, ht⟩ => wpAny_Call_Name_kw (thn ((pe_var (pos := p1) (i := i) hN hv hd hcd).run pz sz σZ HZ (fun v H1 => v = .ref f ∧ H1 = HZ) IZ ⟨.ref f, hs, rfl, rfl⟩) ?_)⟩
  rintro u s1 ⟨v, H1, I1, r1, rfl, rfl⟩
  obtain rfl : u = Value.ref f := r1
  obtain ⟨⟨doc, pm, ctv, of1⟩, _, _⟩ := I1.hok f _ T.obj
  refine PySem.W.callWith_F0 ⟨_, _, _, _, of1⟩ ?_
  obtain ⟨⟨oc, vs, t, hoc, hdc, hvc⟩, _, _⟩ := I1.hok c' _ T.code
  have tup : ∃ u, L.dflt = true → IsTup s1.heap d #[u] := by
    cases e : L.dflt with
    | false => exact ⟨.none, fun z => nomatch z⟩
    | true =>
      obtain ⟨_, its, r, q⟩ := I1.hok d _ (T.dfl e)
      cases r with
      | cons a b =>
        cases b
        exact ⟨_, fun _ => q⟩
  obtain ⟨du, tup⟩ := tup
  obtain ⟨binds, hb1, hb2⟩ := hB (X.env.qual ++ "<lambda>") X.env.cells d c' doc pm ctv du s1 tup
  have e1 : Env0 X.prog X.w X.K X.mg base' (A'.deeper (envOfC qg sg s'.heap.objs.size g cdg)) (envOfC qg sg s'.heap.objs.size g cdg :: stack') s1 H1 := I1.env0
  have e0 := env0_less I.mod sub bz e1
  have run_ : codeAny (model X.prog X.w) (A'.deeper (envOfC qg sg s'.heap.objs.size g cdg)) (.call (.ref f) ⟨[], []⟩) (CR (L2N.CX X.prog X.w) (envOfC qg sg s'.heap.objs.size g cdg :: stack') X.prog X.w H1 s1 Q E) s1 := by
    refine PySem.W.kla_callFunE hr.depth of1 rfl D.co D.gen rfl ⟨c', oc, vs, t, rfl, hoc, hdc, hvc⟩ (hb1 _ _ _ _ ?_)
    refine wpAny_newFunctionEnv (fun y hy => (D.own y hy).1) hb2 (fun h1 hns hsb => ⟨I1.nolimit.fresh _ hsb, ?_⟩) D.kind
    have kp : ∀ b o, s1.heap.get? b = some o → h1.get? b = some o := fun b o e => hsb.extBut b o (Nat.ne_of_lt (Heap.lt_size e)) (Heap.get?_push_of_some _ e)
    have J0 := lam_startB (E := E) (c' := c') (f := f) (tk := s1.toks + binds.length) I D e0 hr.hd (fun y c e => by
      obtain ⟨v, o, ho, _⟩ := I.cell y c e
      have := I1.bs c o (hc y c o e ho)
      exact ⟨this.2, fun o' ho' => by rw [ho] at ho'; cases ho'; exact this.1⟩) hns kp
    have J : Inv (lamN X (A'.deeper (envOfC qg sg s'.heap.objs.size g cdg)) (envOfC qg sg s'.heap.objs.size g cdg :: stack') s1 H1 E L.scope f c') [] σ H1 { s1 with heap := h1, toks := s1.toks + binds.length } := J0.toTry _
    show codeAny _ _ (.expr L.body (lamEnv X L.scope s1.heap.objs.size f c')) _ _
    refine PySem.W.kla_codeExpr (wpAny_mono ((hbody _ _ s1 H1 (hr.deeper _)).run [] _ _ H1 Q J ht) (fun v s' ⟨w', H', J', rv, q⟩ => ⟨w', H', J'.os, J'.bare, J'.base, J'.hok, rv, q⟩) fun e s' hq => hq)
  refine wpAny_call (codeAny_mono run_ fun r s' hq => ?_)
  rcases r with e | fl
  · exact L2N.passes_call tk hW pz σZ H1 s1 e s' I1 hq
  · cases fl with
    | ret u => exact I1.after hq
    | next => exact hq.elim
    | brk => exact hq.elim
    | cont => exact hq.elim
end
end Sb

/-! Seamboard, layer T3: lists of lambdas as things of a state. -/
namespace Sb
open PySem PySem.Spec PyProof.Rows L2 LamX
section
variable {K : PySem.W.Frag} {mg : Str → Option Value} {E : XK} {Lo : Option Addr} {H0 G H G1 H1 G2 H2 : Hp} {σ σ' : L2.St} {s : Ss} {ρ ρ' : Ro} {A : Nat → List Addr} {v : V} {P : Addr} {q : Str} {c : Oc} {LO : Nat → Addr → Addr → Addr → HO} {df : Nat → Bool}
/-- the table at P stands first in a thing -/
def tabIn (P : Addr) (q : Str) : Oc → Bool
  | .t P' q' => decide (P' = P ∧ q' = q)
  | .tt P' q' _ _ => decide (P' = P ∧ q' = q)
  | _ => false
theorem tab_known {i : Nat} (e : EnS K Lo H0 G H σ s ρ A) (hi : s[i]? = some (some (.o c))) (ht : tabIn P q c = true) : TabK H P q (fun c => G c = some (CodeO c q)) := by
  obtain ⟨v, hv, ok⟩ := e.at_ i _ hi
  cases c <;> first | cases ht; done | skip
  · obtain ⟨rfl, rfl⟩ := of_decide_eq_true (show decide (_ ∧ _) = true from ht)
    obtain ⟨hf, ps, h1, h2, h3⟩ := ok
    exact ⟨⟨ps, h1, h2, h3⟩, fun c h => e.gr _ _ h⟩
  · obtain ⟨rfl, rfl⟩ := of_decide_eq_true (show decide (_ ∧ _) = true from ht)
    obtain ⟨hf, ⟨ps, h1, h2, h3⟩, _⟩ := ok
    exact ⟨⟨ps, h1, h2, h3⟩, fun c h => e.gr _ _ h⟩
theorem set_same {s : Ss} {i : Nat} {w : Option Wv} (hi : s[i]? = some w) : s.set i w = s := by
  apply List.ext_getElem?
  intro j
  by_cases z : j = i
  · subst z
    rw [List.getElem?_set_self (List.getElem?_eq_some_iff.mp hi).1, hi]
  · rw [List.getElem?_set_ne (Ne.symm z)]
theorem made_en3 {i : Nat} {c' : Addr} (e : EnS K Lo H0 G H σ s ρ A) (hi : s[i]? = some (some (.o c))) (ht : tabIn P q c = true) (m : Made H P q (fun c => G c = some (CodeO c q)) c' H1) : ∃ G1, Sr Lo H0 G H G1 H1 ∧ EnS K Lo H0 G1 H1 σ s ρ A ∧ G1 c' = some (CodeO c' q) := by
  cases m with
  | hit h => exact ⟨G, .refl e.gr, e, h⟩
  | new ps n t k =>
    obtain ⟨v, hv, ok⟩ := e.at_ i _ hi
    obtain ⟨ps0, hP, -⟩ := (tab_known e hi ht).tab
    have nPc : P ≠ c' := fun z => by rw [z, n] at hP; cases hP
    have st : Stp G H (upd G c' (CodeO c' q)) (upd H c' (CodeO c' q)) := .new e.gr n
    have e1 := e.stp st
    have newT : TabQ (upd G c' (CodeO c' q)) (upd (upd H P (.tbl ps)) c' (CodeO c' q)) P q := by
      refine ⟨ps, by rw [upd_ne nPc, upd_same], t, fun pos cv hc => ?_⟩
      obtain ⟨c, a, b⟩ := k pos cv hc
      refine ⟨c, a, ?_⟩
      rcases b with b | b
      · have : c ≠ c' := fun z => by
          have := e.gr _ _ b
          rw [z, n] at this; cases this
        rw [upd_ne this]; exact b
      · rw [b, upd_same]
    have other : ∀ a, a ≠ P → (upd (upd H P (.tbl ps)) c' (CodeO c' q)) a = (upd H c' (CodeO c' q)) a := fun a ha => by
      by_cases z : a = c'
      · rw [z, upd_same, upd_same]
      · rw [upd_ne z, upd_ne z, upd_ne ha]
    have hPA : P ∈ A i ∧ (upd (upd H P (.tbl ps)) c' (CodeO c' q)) P = some (.tbl ps) := by
      refine ⟨?_, by rw [upd_ne nPc, upd_same]⟩
      cases c <;> first | cases ht; done | skip
      · obtain ⟨rfl, rfl⟩ := of_decide_eq_true (show decide (_ ∧ _) = true from ht)
        rw [ok.1]; exact List.mem_cons_self
      · obtain ⟨rfl, rfl⟩ := of_decide_eq_true (show decide (_ ∧ _) = true from ht)
        rw [ok.1]; exact List.mem_cons_self
    have ok2 : OcOk K (upd G c' (CodeO c' q)) (upd (upd H P (.tbl ps)) c' (CodeO c' q)) v (A i) c := by
      have nd := e.nd i
      cases c <;> first | cases ht; done | skip
      · obtain ⟨rfl, rfl⟩ := of_decide_eq_true (show decide (_ ∧ _) = true from ht)
        exact ⟨ok.1, newT⟩
      · obtain ⟨rfl, rfl⟩ := of_decide_eq_true (show decide (_ ∧ _) = true from ht)
        obtain ⟨hf, _, t2⟩ := ok
        rw [hf] at nd
        refine ⟨hf, newT, tabQ_up t2 st.g fun o ho => ?_⟩
        rw [other _ (fun z => by rw [z] at nd; simp at nd)]
        rw [upd_ne (fun z => by rw [z, n] at ho; cases ho)]
        exact ho
    have W := e1.write (c' := c) (H2 := upd (upd H P (.tbl ps)) c' (CodeO c' q)) hi hv (fun a ha => other a fun z => ha (by rw [z]; exact hPA.1)) (fun a ha => by
      by_cases z : a = P
      · rw [z, hPA.2]; simp
      · rw [other a z]; exact (e1.fp i a ha).2.2.1) ok2
    rw [set_same hi] at W
    exact ⟨_, (st.sq.sr e.low).trans W.1, W.2, upd_same⟩
/-- a row of lambdas, made one by one -/
def XLam (K : PySem.W.Frag) (LO : Nat → Addr → Addr → Addr → HO) (df : Nat → Bool) (P : Addr) (q : Str) (i : Nat) (t : TA) (js : List Nat) : Prop :=
  ∀ (Lo : Option Addr) (H0 G H : Hp) (σ : L2.St) (s : Ss) (ρ : Ro) (A : Nat → List Addr) (c : Oc) (Q : List V → Hp → Prop), EnS K Lo H0 G H σ s ρ A → s[i]? = some (some (.o c)) → tabIn P q c = true →
    (∀ vs G1 H1, Sr Lo H0 G H G1 H1 → EnS K Lo H0 G1 H1 σ s ρ A → FsOk G1 LO df q vs js → Q vs H1) → t σ H Q
theorem xl_nil {i : Nat} : XLam K LO df P q i tNil [] := fun Lo H0 G H σ s ρ A c Q e hi ht k => k [] G H (.refl e.gr) e .nil
theorem xl_cons {X : Cx} {L : Lm} {i j : Nat} {t : TA} {js : List Nat} (hq : q = X.env.qual ++ "<lambda>") (hL : LO j = fun d c' f => ThO q X.env.cells L d c' f) (hd : df j = L.dflt) (h : XLam K LO df P q i t js) : XLam K LO df P q i (tCons (tLamT X P L) t) (j :: js) := fun Lo H0 G H σ s ρ A c Q e hi ht k => by
  subst hq
  refine ⟨_, tab_known e hi ht, fun d H1 D c' f H2 m fn hc => ?_⟩
  obtain ⟨Gd, sr1, e1, hdt⟩ : ∃ Gd, Sr Lo H0 G H Gd H1 ∧ EnS K Lo H0 Gd H1 σ s ρ A ∧ (L.dflt = true → Gd d = some (.tup [.int 0])) := by
    rcases D with ⟨_, n, rfl⟩ | ⟨d0, rfl⟩
    · have st : Stp G H (upd G d (.tup [.int 0])) (upd H d (.tup [.int 0])) := .new e.gr n
      exact ⟨_, st.sq.sr e.low, e.stp st, fun _ => upd_same⟩
    · exact ⟨G, .refl e.gr, e, fun z => by rw [d0] at z; cases z⟩
  have m1 : Made H1 P (X.env.qual ++ "<lambda>") (fun c => Gd c = some (CodeO c (X.env.qual ++ "<lambda>"))) c' H2 := by
    cases m with
    | hit h => exact .hit (sr1.g _ _ h)
    | new ps n t k =>
      refine .new ps n t fun pos cv z => ?_
      obtain ⟨c, a, b⟩ := k pos cv z
      exact ⟨c, a, b.elim (fun b => .inl (sr1.g _ _ b)) .inr⟩
  obtain ⟨Gc, sr2, e2, hgc⟩ := made_en3 e1 hi ht m1
  have st : Stp Gc H2 (upd Gc f (ThO (X.env.qual ++ "<lambda>") X.env.cells L d c' f)) (upd H2 f (ThO (X.env.qual ++ "<lambda>") X.env.cells L d c' f)) := .new e2.gr fn
  have e3 := e2.stp st
  have sr3 := (sr1.trans sr2).trans (st.sq.sr e2.low)
  refine h Lo H0 _ _ σ s ρ A c _ e3 hi ht fun vs G4 H4 sr4 e4 fs => ?_
  exact k (.ref f :: vs) G4 H4 (sr3.trans sr4) e4 (.cons (by rw [hL]; exact sr4.g _ _ upd_same) (sr4.g _ _ (st.g _ _ hgc)) (fun z => sr4.g _ _ (st.g _ _ (sr2.g _ _ (hdt (by rw [← hd]; exact z))))) fs)
/-! ### statements -/
/-- x = [lambda: .., ..] -/
def fTh (k : Nat) (P : Addr) (q : Str) (LO : Nat → Addr → Addr → Addr → HO) (df : Nat → Bool) (i : Nat) (js : List Nat) : MS := fun s ρ => match s[k]? with
  | some (some (.o c)) => if tabIn P q c = true ∧ js.length ≤ 1000 then some (.nx (s.set i (some (.o (.f LO df q js)))) ρ) else none
  | _ => none
open Classical in
/-- x = x + [lambda: .., ..] -/
noncomputable def fThC (k : Nat) (P : Addr) (q : Str) (LO : Nat → Addr → Addr → Addr → HO) (df : Nat → Bool) (i : Nat) (js : List Nat) : MS := fun s ρ => match s[k]?, s[i]? with
  | some (some (.o c)), some (some (.o (.f LO' df' q' js0))) => if tabIn P q c = true ∧ LO' = LO ∧ df' = df ∧ q' = q ∧ js0.length + js.length ≤ 1000 then some (.nx (s.set i (some (.o (.f LO df q (js0 ++ js))))) ρ) else none
  | _, _ => none
open Classical in
/-- x.append(lambda: ..) -/
noncomputable def fThA (k : Nat) (P : Addr) (q : Str) (LO : Nat → Addr → Addr → Addr → HO) (df : Nat → Bool) (i j : Nat) : MS := fun s ρ => match s[k]?, s[i]? with
  | some (some (.o c)), some (some (.o (.f LO' df' q' js0))) => if tabIn P q c = true ∧ LO' = LO ∧ df' = df ∧ q' = q ∧ js0.length ≤ 1000 then some (.nx (s.set i (some (.o (.f LO df q (js0 ++ [j]))))) ρ) else none
  | _, _ => none
end
end Sb

/-! Seamboard, layer T4: a comprehension whose tests all fail, its maker's names known. -/
namespace Sb
open PySem PySem.Spec PyProof.Rows L2 LamX
section
variable {X : Cx}
/-- [elt for tg in iter if test], nothing taken; the test may lean on the names that stand around (σ) -/
def tLcN (wi : TI) (g : TG) (tt : L2.St → TT) (vs : List Nat) : TE := fun σ H Q => wi σ H fun J H1 => ∀ D, H1 D = none → ∃ W : Nat → Nat → Hp → Prop, (∃ m, W 0 m (upd H1 D (.lst []))) ∧ ∀ i m H, W i m H →
  (J.stop i H ∧ Q (.ref D) H) ∨ (J.go i H ∧ ∃ Nx : Hp → Prop, (∀ H', Nx H' → ∃ m', m' < m ∧ W (i + 1) m' H') ∧ ∀ x H', J.yld i H x H' → g x (wipe σ vs) H' fun σ2 H2 => wipe σ2 vs = wipe σ vs ∧ tt σ σ2 H2 fun b H3 => b = false ∧ Nx H3)
end
end Sb

/-! Seamboard, layer T5: a name's lambda handed to the def that tells its word. -/
namespace Sb
open PySem PySem.Spec PyProof.Rows L2 LamX
section
variable {X : Cx} {pins : List (Addr × Obj)} {σ : L2.St} {H : Hp} {s : Shared}
/-- x(w): w holds one of the lambdas that were made in X -/
def tWV (X : Cx) (Lt : Nat → Lm) (tb : Nat → XK → TE) (TT : (XK → Hp → VK → Prop) → Hp → VK → Prop) (iw : Nat) (σ : L2.St) : TE := fun σ2 H Q => ∃ f j d c', σ2[iw]? = some (some (.ref f)) ∧ ThK X (Lt j) H f d c' ∧ TT (fun E H' Q' => ThK X (Lt j) H' f d c' ∧ tb j E σ H' Q') H Q
end
end Sb

/-! Seamboard, layer T6: the words of a list of lambdas, none other than what is due. -/
namespace Sb
open PySem PySem.Spec PyProof.Rows L2 LamX
/-- the word of what a body does -/
def wordV (w : Exn → Option Dt) (a : ME Dt) (s : Ss) (ρ : Ro) : Option (Dt × Ro) := match a s ρ with
  | some (.ok _, ρ1) => some (.none, ρ1)
  | some (.error x, ρ1) => match w x with
    | some d => some (d, ρ1)
    | none => none
  | none => none
def wordsGo (w : Exn → Option Dt) (ts : Nat → ME Dt) (due : ME Dt) (iw : Nat) : List Nat → Ss → Ro → Option Ro
  | [], _, ρ => some ρ
  | j :: js, s, ρ => match wordV w (ts j) s ρ with
    | some (x, ρ1) => match due (wipeS s [iw]) ρ1 with
      | some (.ok d, ρ2) => match oNe x d with
        | some (.bool false) => wordsGo w ts due iw js s ρ2
        | _ => none
      | _ => none
    | none => none
open Classical in
noncomputable def fWN (LO : Nat → Addr → Addr → Addr → HO) (df : Nat → Bool) (q : Str) (w : Exn → Option Dt) (ts : Nat → ME Dt) (i iw : Nat) (due : ME Dt) : ME (List Dt) := fun s ρ => match s[i]? with
  | some (some (.o (.f LO' df' q' js))) => if LO' = LO ∧ df' = df ∧ q' = q ∧ iw < s.length then match wordsGo w ts due iw js s ρ with
    | some ρ1 => some (.ok [], ρ1)
    | none => none else none
  | _ => none
section
variable {K : PySem.W.Frag} {mg : Str → Option Value} {E : XK} {Lo : Option Addr} {H0 G H G1 H1 G2 H2 : Hp} {σ σ' : L2.St} {s : Ss} {ρ ρ' : Ro} {A : Nat → List Addr} {v : V} {q : Str} {LO : Nat → Addr → Addr → Addr → HO} {df : Nat → Bool}
theorem fsOk_at : ∀ {vs : List V} {js : List Nat} {k j : Nat}, FsOk G LO df q vs js → js[k]? = some j → ∃ f d c', vs[k]? = some (.ref f) ∧ G f = some (LO j d c' f) ∧ G c' = some (CodeO c' q) ∧ (df j = true → G d = some (.tup [.int 0]))
  | _, _, 0, j, .cons a b c t, h => by cases h; exact ⟨_, _, _, rfl, a, b, c⟩
  | _, _, k + 1, j, .cons a b c t, h => by
    obtain ⟨f, d, c', e, r⟩ := fsOk_at (k := k) t (by simpa using h)
    exact ⟨f, d, c', by simpa using e, r⟩
end
end Sb

/-! Seamboard, layer T7: the lambdas of a text, by their places. -/
namespace Sb
open PySem PySem.Spec PyProof.Rows L2 LamX
inductive All2 {α β : Type} (R : α → β → Prop) : List α → List β → Prop where
  | nil : All2 R [] []
  | cons {a : α} {b : β} {as : List α} {bs : List β} : R a b → All2 R as bs → All2 R (a :: as) (b :: bs)
def tabL {α : Type} : List α → Nat → Option α
  | [], _ => none
  | a :: _, 0 => some a
  | a :: [], _ + 1 => some a
  | _ :: b :: l, n + 1 => tabL (b :: l) n
def tabG {α : Type} (d : α) : List α → Nat → α
  | [], _ => d
  | a :: _, 0 => a
  | _ :: l, n + 1 => tabG d l n
theorem All2.get {α β : Type} {R : α → β → Prop} {a : α} {b : β} (h0 : R a b) : ∀ {as : List α} {bs : List β}, All2 R as bs → ∀ j, R (tabG a as j) (tabG b bs j)
  | _, _, .nil, _ => h0
  | _, _, .cons h _, 0 => h
  | _, _, .cons _ t, n + 1 => All2.get h0 t n
/-! where a lambda stands in a text -/
def sBody : Stmt → List Stmt
  | .FunctionDef _ _ b _ _ _ _ _ _ _ => b
  | .For _ _ b _ _ => b
  | .If _ b _ _ => b
  | _ => []
def sElse : Stmt → List Stmt
  | .If _ _ o _ => o
  | _ => []
def noE : Expr := .Name "" ⟨0, 0, 0, 0⟩
def sVal : Stmt → Expr
  | .Assign _ v _ => v
  | .Expr v _ => v
  | .Return (some v) _ => v
  | .If t _ _ _ => t
  | .For _ i _ _ _ => i
  | _ => noE
def eArgs : Expr → List Expr
  | .Call _ a _ _ => a
  | .List es _ => es
  | .Tuple es _ _ => es
  | .BinOp l _ r _ => [l, r]
  | .UnaryOp _ e _ => [e]
  | .Compare l _ cs _ => l :: cs
  | .BoolOp _ es _ => es
  | _ => []
def atS (l : List Stmt) (i : Nat) : Stmt := l.getD i (.Pass ⟨0, 0, 0, 0⟩)
def atE (l : List Expr) (i : Nat) : Expr := l.getD i noE
def lamOf : Expr → Lm
  | .Lambda p b s _ => ⟨p, b, s, !p.defaults.isEmpty⟩
  | e => ⟨default, e, default, false⟩
section
variable {X : Cx} {pins : List (Addr × Obj)} {σ : L2.St} {H : Hp} {s : Shared}
theorem pe_lamT2 {c P : Addr} {params : Arguments} {body : Expr} {scope : Scope} {b : Bool} {pos : Pos} (TB : TabB X.base X.mg c P) (hcode : X.env.code = .ref c) (D : LamD X.N X.env.scope scope) (hk : params.kw_defaults = [])
    (hd : (b = false ∧ params.defaults = []) ∨ (b = true ∧ ∃ e, params.defaults = [e] ∧ PE X e (tC (.int 0)))) : PE X (.Lambda params body scope pos) (tLamT X P ⟨params, body, scope, b⟩) :=
  pe_lamT (L := ⟨params, body, scope, b⟩) TB hcode D hk hd
structure LBody (X : Cx) (k : Nat) (L : Lm) (t : XK → TE) : Prop where
  d : LamD X.N X.env.scope L.scope
  b : LmB L
  body : ∀ (A : Around) (outer : List Env) (s : Shared) (H : Hp) (E : XK) (f c' : Addr), Room k (A.deeper (lamEnv X L.scope s.heap.objs.size f c')) → PE (lamN X A outer s H E L.scope f c') L.body (t E)
theorem lmB1 {L : Lm} {n : Str} (hd : L.dflt = true) (hn : L.scope.names.lookup n = some .local)
    (h : ∀ (q : Str) (cl : List (Str × Addr)) (d c' : Addr) (doc pm ctv u : Value), ∃ k : Option (Array Value) → Sem (List (Str × Value)), bindArgs (thFn q cl L d c' doc pm ctv) ⟨[], []⟩ = seqItems? (.ref d) >>= k ∧ k (some #[u]) = pure [(n, u)]) : LmB L := fun q cl d c' doc pm ctv u s ht => by
  obtain ⟨o, ho, hc, m, hm⟩ := ht hd
  obtain ⟨k, h1, h2⟩ := h q cl d c' doc pm ctv u
  have e : (thFn q cl L d c' doc pm ctv).defaults = .ref d := by
    show L.dV d = _
    unfold Lm.dV
    rw [hd]; rfl
  exact ⟨[(n, u)], .of_defaults e ho hm (by rw [e]; exact h1) h2, fun y hy => by rw [List.mem_singleton.mp hy]; exact hn⟩
end
end Sb

/-! Seamboard, layer T8: lists of lambdas, reckoned. -/
namespace Sb
open PySem PySem.Spec PyProof.Rows L2 LamX
section
variable {s : Ss} {ρ ρ1 : Ro} {k i j iw : Nat} {P : Addr} {q : Str} {LO : Nat → Addr → Addr → Addr → HO} {df : Nat → Bool} {c : Oc} {js js0 : List Nat}
theorem tabIn_t : tabIn P q (.t P q) = true := decide_eq_true ⟨rfl, rfl⟩
end
end Sb

/-! Seamboard, layer T9: a list of lambdas handed to a def that holds their words against one that is due. -/
namespace Sb
open PySem PySem.Spec PyProof.Rows L2 LamX
/-- return [w for w in works if word(w) != due] == [] -/
def tAreB (K : PySem.W.Frag) (X : Cx) (Lt : Nat → Lm) (tb : Nat → XK → TE) (TT : (XK → Hp → VK → Prop) → Hp → VK → Prop) (σ : L2.St) : TS :=
  tRet (tOp (rEqD K) (tLc (iList K (tVar 0)) (gName 2) (tTest (tOp (rNeD K) (tWV X Lt tb TT 2 σ) (tVar 1))) (tVar 2) [2]) (tLst tNil))
def tAre (K : PySem.W.Frag) (X : Cx) (N : List Str) (Lt : Nat → Lm) (tb : Nat → XK → TE) (TT : (XK → Hp → VK → Prop) → Hp → VK → Prop) (te td : TE) : TE := fun σ H Q => te σ H fun v H1 => td σ H1 fun u H2 => tAreB K X Lt tb TT σ { nx := fun _ H' => Q .non H', rt := Q } (L2.start N [v, u]) H2
section
variable {X : Cx} {pins : List (Addr × Obj)} {σ : L2.St} {H : Hp} {s : Shared}
end
/-! ### by functions -/
def fAreAt (w : Exn → Option Dt) (ts : Nat → ME Dt) (due : ME Dt) (js : List Nat) : MV Dt := fun s ρ => match due s ρ with
  | some (.ok d, ρ1) => match wordsGo w ts (ret d) 0 js s ρ1 with
    | some ρ2 => some (.ok (.bool true), s, ρ2)
    | none => none
  | _ => none
open Classical in
/-- are(x, due): x holds lambdas -/
noncomputable def fAre (LO : Nat → Addr → Addr → Addr → HO) (df : Nat → Bool) (q : Str) (w : Exn → Option Dt) (ts : Nat → ME Dt) (i : Nat) (due : ME Dt) : MV Dt := fun s ρ => match s[i]? with
  | some (some (.o (.f LO' df' q' js))) => if LO' = LO ∧ df' = df ∧ q' = q then fAreAt w ts due js s ρ else none
  | _ => none
/-- are([lambda: .., ..], due) -/
def fAreD (k : Nat) (P : Addr) (q : Str) (w : Exn → Option Dt) (ts : Nat → ME Dt) (js : List Nat) (due : ME Dt) : MV Dt := fun s ρ => match s[k]? with
  | some (some (.o c)) => if tabIn P q c = true ∧ js.length ≤ 1000 then fAreAt w ts due js s ρ else none
  | _ => none
open Classical in
/-- are(x + [lambda: .., ..], due) -/
noncomputable def fAreC (k : Nat) (P : Addr) (q : Str) (LO : Nat → Addr → Addr → Addr → HO) (df : Nat → Bool) (w : Exn → Option Dt) (ts : Nat → ME Dt) (i : Nat) (js : List Nat) (due : ME Dt) : MV Dt := fun s ρ => match s[k]?, s[i]? with
  | some (some (.o c)), some (some (.o (.f LO' df' q' js0))) => if tabIn P q c = true ∧ LO' = LO ∧ df' = df ∧ q' = q ∧ js0.length + js.length ≤ 1000 then fAreAt w ts due (js0 ++ js) s ρ else none
  | _, _ => none
section
variable {K : PySem.W.Frag} {mg : Str → Option Value} {E : XK} {Lo : Option Addr} {H0 G H G1 H1 G2 H2 : Hp} {σ σ' : L2.St} {s : Ss} {ρ ρ' : Ro} {A : Nat → List Addr} {v : V} {q : Str} {LO : Nat → Addr → Addr → Addr → HO} {df : Nat → Bool}
/-! ### more of what may change things -/
def fRetV (a : MV Dt) : MS := fun s ρ => match a s ρ with
  | none => none
  | some (.error x, _, ρ1) => some (.er x ρ1)
  | some (.ok d, _, ρ1) => some (.rt d ρ1)
theorem xs_retV {ta : TE} {a : MV Dt} (ha : XV K mg E ta a) : XS K mg E (tRet ta) (fRetV a) := fun Lo H0 D σ G H s ρ A o h e q => by
  unfold fRetV at h
  show ta σ H _
  split at h
  · cases h
  · rename_i x s1 ρ1 hq
    cases h
    exact ha Lo H0 σ G H s ρ A _ _ _ _ hq e fun c da G2 H2 s2 r2 hx => q c da G2 H2 s2 r2 hx
  · rename_i d s1 ρ1 hq
    cases h
    exact ha Lo H0 σ G H s ρ A _ _ _ _ hq e fun v A2 G2 H2 s2 e2 dv => q v G2 H2 s2 e2.row dv
end
end Sb

/-! Seamboard, layer T10: defs with lambdas of their own: a table that grows from call to call. -/
namespace Sb
open PySem PySem.Spec PyProof.Rows L2 LamX
section
variable {X : Cx} {pins : List (Addr × Obj)} {σ : L2.St} {H : Hp} {s : Shared}
/-- a name that the text doesn't know may hold anything -/
theorem inv_dummy {i : Nat} {x : Str} {v : V} (I : Inv X pins σ H s) (hN : X.N[i]? = some x) (hx : ¬ Vis X.env.scope x) : Inv X pins (σ.set i (some v)) H s := by
  refine ⟨I.ok, I.os, I.bare, I.base, ?_, I.cell, I.free, I.freeC, I.pin, I.hok, by rw [List.length_set]; exact I.len⟩
  obtain ⟨m, hn, h⟩ := I.loc
  refine ⟨m, hn, fun j y u e1 e2 vis => ?_⟩
  by_cases z : i = j
  · subst z
    rw [hN] at e1
    cases e1
    exact absurd vis hx
  · rw [List.getElem?_set_ne z] at e2
    exact h j y u e1 e2 vis
theorem pss_dummy {body : List Stmt} {t : TS} {i : Nat} {x : Str} (hN : X.N[i]? = some x) (hx : ¬ Vis X.env.scope x) (h : PSs X body t) : PSs X body (fun D σ H => t D (σ.set i (some .non)) H) :=
  ⟨fun pins s σ H D I q => h.run pins s _ H D (inv_dummy I hN hx) q⟩
end
/-- all stands but the table at P -/
structure SqP (P : Addr) (q : Str) (Lo : Option Addr) (G H G2 H2 : Hp) : Prop where
  g : Gr G G2
  s : Gr G2 H2
  h : ∀ a o, a ≠ P → some a ≠ Lo → H a = some o → H2 a = some o
  k : ∀ a, H a ≠ none → H2 a ≠ none
  f : ∀ a, H a ≠ none → G a = none → G2 a = none
  t : TabQ G2 H2 P q
def spFT (K : PySem.W.Frag) (P : Addr) (q : Str) (F : Fn) : Sp := fun vs H Q _ => ∃ G ds d, Gr G H ∧ G P = none ∧ TabQ G H P q ∧ DqAll K G vs ds ∧ F ds = some (.ok d) ∧ ∀ v G2 H2, SqP P q none G H G2 H2 → Dq K G2 v d → Q v H2
def spWT (K : PySem.W.Frag) (P : Addr) (q : Str) (F : Fr) : Sp := fun vs H Q _ => ∃ G L ws ds x d x', vs = .ref L :: ws ∧ Gr G H ∧ L ≠ P ∧ G P = none ∧ TabQ G H P q ∧ RowAt K G H L x ∧ DqAll K G ws ds ∧ F x ds = some (.ok d, x') ∧ ∀ v G2 H2, SqP P q (some L) G H G2 H2 → RowAt K G2 H2 L x' → Dq K G2 v d → Q v H2
/-- what such a def does: its statements, then what it hands back -/
def runFT (np n : Nat) (b : Addr → Str → MS) (a : Addr → Str → MV Dt) (P : Addr) (q : Str) : Fn := fun ds => if ds.length = np then (match b P q (argS n ds ++ [some (.o (.t P q))]) none with
  | some (.nx s ρ) => (match a P q s ρ with
    | some (.ok d, s', _) => (match s'[n]? with
      | some (some (.o (.t P' q'))) => if P' = P ∧ q' = q then some (.ok d) else none
      | _ => none)
    | _ => none)
  | _ => none) else none
section
variable {K : PySem.W.Frag} {mg : Str → Option Value} {E : XK} {Lo : Option Addr} {H0 G H G1 H1 G2 H2 : Hp} {σ σ' : L2.St} {s : Ss} {ρ ρ' : Ro} {A : Nat → List Addr} {v : V} {P : Addr} {q : Str}
end
end Sb

/-! Seamboard, layer T11: a def with lambdas of its own is called. -/
namespace Sb
open PySem PySem.Spec PyProof.Rows L2 LamX
/-- f(..): the thing at i is f's table -/
def fCallT (P : Addr) (q : Str) (F : Fn) (i : Nat) (t : ME (List Dt)) : MV Dt := fun s ρ => match s[i]? with
  | some (some (.o (.t P' q'))) => if P' = P ∧ q' = q then (match t s ρ with
    | some (.ok ds, ρ1) => (match F ds with
      | some (.ok d) => some (.ok d, s, ρ1)
      | _ => none)
    | _ => none) else none
  | _ => none
section
variable {K : PySem.W.Frag} {mg : Str → Option Value} {E : XK} {Lo : Option Addr} {H0 G H G1 H1 G2 H2 : Hp} {σ σ' : L2.St} {s : Ss} {ρ ρ' ρ2 : Ro} {A : Nat → List Addr} {v : V} {P : Addr} {q : Str}
end
/-! ### a law with a table of its own, and one more -/
def spLawT2 (K : PySem.W.Frag) (P P1 : Addr) : Sp := fun vs H Q _ => ∃ (a : Addr) (ns : List Int), vs = [.ref a] ∧ SqL K H a (ns.map V.int) ∧ ns.length ≤ 63 ∧ H P = some (.tbl #[]) ∧ H P1 = some (.tbl #[]) ∧ ∀ H', Q (.bl true) H'
open Classical in
theorem law_goT2 {K : PySem.W.Frag} {mg : Str → Option Value} {u : TS} {b : MS} {a P P1 : Addr} {qn q1 : Str} {ns : List Int} {H : Hp} {n : Nat} {Q : VK} {nx : L2.St → Hp → Prop} {ρ' : Ro} (hs : SqL K H a (ns.map V.int)) (hP : H P = some (.tbl #[])) (hP1 : H P1 = some (.tbl #[])) (hne : P ≠ P1) (q : ∀ H', Q (.bl true) H')
    (hb : XS K mg E0 u b) (h : b ((some (.o (.t P qn)) :: some .row :: List.replicate n none) ++ [some (.o (.t P1 q1))]) (some ⟨ns, 0, 0, 0⟩) = some (.rt (.bool true) ρ')) :
    tSeq (tAsg (tLst (tCons (tVar 0) (tCons (tC (.int 0)) (tCons (tC (.int 0)) (tCons (tC (.int 0)) tNil))))) (gName 1)) u { nx := nx, rt := Q } ((some (.ref a) :: none :: List.replicate n none) ++ [some .non]) H := by
  refine ⟨.ref a, rfl, by show 4 ≤ sizeLine; decide, fun L hL => ?_⟩
  have nLP : L ≠ P := fun z => by rw [z, hP] at hL; cases hL
  have nLP1 : L ≠ P1 := fun z => by rw [z, hP1] at hL; cases hL
  let own : Addr → Prop := fun b => b = P ∨ b = P1
  let G : Hp := fun b => if own b then none else H b
  let H1 : Hp := upd H L (.lst [.ref a, .int 0, .int 0, .int 0])
  let H0 : Hp := fun b => if own b then none else H1 b
  have gown : ∀ b, own b → G b = none := fun b h => if_pos h
  have gn : ∀ b, ¬ own b → G b = H b := fun b h => if_neg h
  have h1L : ∀ b, b ≠ L → H1 b = H b := fun b h => upd_ne h
  have aown : ∀ xs, H a = some (.lst xs) → ¬ own a := fun xs h z => by
    rcases z with z | z
    · rw [z, hP] at h; cases h
    · rw [z, hP1] at h; cases h
  have g : Gr G H1 := fun b o e => by
    by_cases z : own b
    · rw [gown b z] at e; cases e
    · rw [gn b z] at e
      have : b ≠ L := fun y => by rw [y, hL] at e; cases e
      rw [h1L b this]; exact e
  have hs' : SqL K G a (ns.map V.int) := by
    rcases hs with (h | ⟨o, h⟩) | h
    · exact .inl (.inl (by rw [gn a (aown _ h)]; exact h))
    · refine .inl (.inr ⟨o, ?_⟩)
      rw [gn a fun z => ?_]
      · exact h
      · rcases z with z | z
        · rw [z, hP] at h; cases h
        · rw [z, hP1] at h; cases h
    · exact .inr h
  have ro : RowAt K G H1 L ⟨ns, 0, 0, 0⟩ := ⟨by rw [gn L (fun z => z.elim nLP nLP1)]; exact hL, a, upd_same, hs'⟩
  have oL : ∀ b, own b → H1 b = some (.tbl #[]) := fun b z => by
    rcases z with z | z
    · rw [z, h1L P (fun y => nLP y.symm)]; exact hP
    · rw [z, h1L P1 (fun y => nLP1 y.symm)]; exact hP1
  have mem : ∀ i p, p ∈ (if i = 0 then [P] else if i = n + 2 then [P1] else []) → own p ∧ ((p = P ∧ i = 0) ∨ (p = P1 ∧ i = n + 2)) := fun i p hp => by
    by_cases z : i = 0
    · rw [if_pos z] at hp
      have := List.mem_singleton.mp hp
      exact ⟨.inl this, .inl ⟨this, z⟩⟩
    · rw [if_neg z] at hp
      by_cases z2 : i = n + 2
      · rw [if_pos z2] at hp
        have := List.mem_singleton.mp hp
        exact ⟨.inr this, .inr ⟨this, z2⟩⟩
      · rw [if_neg z2] at hp; cases hp
  have e0 : EnS K (some L) H0 G H1 ((some (.ref a) :: some (.ref L) :: List.replicate n none) ++ [some .non]) ((some (.o (.t P qn)) :: some .row :: List.replicate n none) ++ [some (.o (.t P1 q1))]) (some ⟨ns, 0, 0, 0⟩) (fun i => if i = 0 then [P] else if i = n + 2 then [P1] else []) := by
    refine ⟨g, fun z hz => ⟨L, rfl, by cases hz; exact ro⟩, fun L' h => ?_, fun b h => ?_, by simp, fun i w hi => ?_, fun i p hp => ?_, fun i j p h1 h2 => ?_, fun i => ?_⟩
    · cases h
      show upd H L _ L ≠ none
      rw [upd_same]; simp
    · by_cases z : own b
      · exact absurd (if_pos z) h
      · have : H0 b = H1 b := if_neg z
        rw [this] at h; exact h
    · match i with
      | 0 =>
        cases hi
        exact ⟨.ref a, rfl, rfl, #[], oL P (.inl rfl), True.intro, fun pos cv hc => by
          have z : codeAmong pos [] = some cv := hc
          simp [codeAmong] at z⟩
      | 1 => cases hi; exact ⟨.ref L, rfl, L, rfl, rfl⟩
      | i + 2 =>
        have hi' : (List.replicate n (none : Option Wv) ++ [some (.o (.t P1 q1))])[i]? = some (some w) := by simpa using hi
        by_cases hlt : i < n
        · rw [List.getElem?_append_left (by simpa using hlt), List.getElem?_replicate] at hi'
          split at hi' <;> cases hi'
        · rw [List.getElem?_append_right (by simp; omega), List.length_replicate] at hi'
          have hin : i = n := by
            by_cases y : i = n
            · exact y
            · rw [List.getElem?_eq_none (by simp; omega)] at hi'
              cases hi'
          subst hin
          rw [Nat.sub_self] at hi'
          cases hi'
          refine ⟨.non, ?_, ?_⟩
          · show (some (V.ref a) :: some (V.ref L) :: (List.replicate i none ++ [some .non]))[i + 2]? = _
            rw [List.getElem?_cons_succ, List.getElem?_cons_succ, List.getElem?_append_right (by simp), List.length_replicate, Nat.sub_self]; rfl
          · show _ ∧ _
            refine ⟨?_, #[], oL P1 (.inr rfl), True.intro, fun pos cv hc => by
              have z : codeAmong pos [] = some cv := hc
              simp [codeAmong] at z⟩
            rw [if_neg (by omega), if_pos rfl]
    · obtain ⟨ow, _⟩ := mem i p hp
      exact ⟨gown p ow, if_pos ow, by rw [oL p ow]; simp, fun y => by
        cases y
        exact ow.elim nLP nLP1⟩
    · obtain ⟨_, m1⟩ := mem i p h1
      obtain ⟨_, m2⟩ := mem j p h2
      rcases m1 with ⟨x, y⟩ | ⟨x, y⟩ <;> rcases m2 with ⟨x', y'⟩ | ⟨x', y'⟩
      · rw [y, y']
      · exact absurd (x.symm.trans x') hne
      · exact absurd (x'.symm.trans x) hne
      · rw [y, y']
    · show (if i = 0 then [P] else if i = n + 2 then [P1] else []).Nodup
      split
      · simp
      · split <;> simp
  exact hb (some L) _ _ _ _ _ _ _ _ _ h e0 fun v G2 H2 _ _ dv => by
    cases dv
    exact q H2
/-- the end of a law row: two tables are known to be empty -/
theorem walk_T2 {l : PySem.W.OpenLaw} {n k : Nat} {q : Program} {loose : List Str} {XP : (Str → Option Value) → Heap → Prop} {YP : World → Heap → Prop} {d d1 : DefRec} {x1 : Str} {K : Params → PySem.W.Frag} {CX : World → CXT} {x : Str}
    (hn : l.most = some n) (hn2 : n ≤ sizeLine) (hdf : d.params.defaults = []) (hr : Room k callerA) (hd : (recsOf q).find? (fun e => e.name == d.name) = some d) (hd1 : (recsOf q).find? (fun e => e.name == x1) = some d1) (hY : ∀ (w : World) (h : Heap), YP w h → (K w.params).In h)
    (F : ∀ (w : World) (mg : Str → Option Value) (fa : Addr) (h : Heap), YP w h → (K w.params).In h → h.Ns mainGlobals mg → mg d.name = some (.ref fa) →
      (∀ c P, PySem.W.tabIn (K w.params) d.name = some (c, P) ∨ PySem.W.tabIn (K w.params) x1 = some (c, P) → PySem.W.CodeHd h c P ∧ h.get? P = some { cls := .none, data := .fields #[] }) → LawAtS l w (K w.params) (CX w) k n x mg fa h)
    (hCX : ∀ (w : World) (H : Hp) (s : Shared) (e : Value) (s' : Shared), CX w [] H s (fun _ _ _ => False) e s' → False) :
    PySem.W.WalkO q loose XP YP l.row.toRowW d [] (fun f vs => PySem.call f vs) := by
  refine Att.attach_callB hn hdf fun w s₀ s₁ mg mb fa o pm cd doc a vs ns G Y ho hd2 hcd hmg hobj hints hlen hbits hg => ?_
  have KX := hY w _ Y
  obtain ⟨fd, cs, sp, hT, nT, C, hb, hsp, hF⟩ := F w mg fa _ Y KX G.T.g hmg fun c P e => e.elim (fun e => PySem.W.tab_of G.T KX hd e) fun e => PySem.W.tab_of G.T KX hd1 e
  exact law_callTs KX G.T.g G.T.b G.T.builtins G.T.nolimit hg hT nT C G.T.bmain hobj hints (Nat.le_trans hlen hn2) hr hF hb (fun H hH hS => hsp H a ns hlen hbits hH hS) fun H e s' => hCX w H s₁ e s'
end Sb

/-! Seamboard, layer T12: defs with a row and a table; and, or, lists of what may change things; a lambda with a default, handed over at once. -/
namespace Sb
open PySem PySem.Spec PyProof.Rows L2 LamX
section
variable {K : PySem.W.Frag} {mg : Str → Option Value} {E : XK} {Lo : Option Addr} {H0 H0' G H G1 H1 G2 H2 : Hp} {σ σ' : L2.St} {s : Ss} {ρ ρ' ρ2 : Ro} {A : Nat → List Addr} {v : V} {P : Addr} {q : Str}
/-! ### the row's defs -/
def runWT (np n : Nat) (b : Addr → Str → MS) (a : Addr → Str → MV Dt) (P : Addr) (q : Str) : Fr := fun x ds => if ds.length + 1 = np then (match b P q ((some .row :: argS n ds).set n (some (.o (.t P q)))) (some x) with
  | some (.nx s ρ) => (match a P q s ρ with
    | some (.ok d, s', some x') => (match s'[n]? with
      | some (some (.o (.t P' q'))) => if P' = P ∧ q' = q then some (.ok d, x') else none
      | _ => none)
    | _ => none)
  | _ => none) else none
/-- a table that nobody owned becomes a thing of the state -/
theorem EnS.tab {i : Nat} (e : EnS K Lo H0 G H σ s ρ (fun _ => [])) (low : ∀ a, H0' a ≠ none → H a ≠ none) (h0 : H0' P = none) (gP : G P = none) (lo : some P ≠ Lo) (t : TabQ G H P q) (hi : i < s.length) :
    EnS K Lo H0' G H (σ.set i (some .non)) (s.set i (some (.o (.t P q)))) ρ (fun j => if j = i then [P] else []) where
  gr := e.gr
  row := e.row
  lo := e.lo
  low := low
  len := by rw [List.length_set, List.length_set]; exact e.len
  at_ := fun j w hw => by
    by_cases z : j = i
    · subst z
      rw [List.getElem?_set_self hi] at hw
      cases hw
      exact ⟨.non, by rw [List.getElem?_set_self (by rw [e.len]; exact hi)], by rw [if_pos rfl]; exact ⟨rfl, t⟩⟩
    · rw [List.getElem?_set_ne (Ne.symm z)] at hw
      obtain ⟨u, a, b⟩ := e.at_ j w hw
      exact ⟨u, by rw [List.getElem?_set_ne (Ne.symm z)]; exact a, by rw [if_neg z]; exact b⟩
  fp := fun j p hp => by
    by_cases z : j = i
    · rw [if_pos z] at hp
      rw [List.mem_singleton.mp hp]
      obtain ⟨ps, h, _⟩ := t
      exact ⟨gP, h0, by rw [h]; simp, lo⟩
    · rw [if_neg z] at hp; cases hp
  dj := fun j k p h1 h2 => by
    by_cases z1 : j = i
    · by_cases z2 : k = i
      · rw [z1, z2]
      · rw [if_neg z2] at h2; cases h2
    · rw [if_neg z1] at h1; cases h1
  nd := fun j => by
    show (if j = i then [P] else []).Nodup
    split <;> simp
/-- f(row, ..): the thing at j is f's table -/
def fCallRT (P : Addr) (q : Str) (F : Fr) (i j : Nat) (t : ME (List Dt)) : MV Dt := fun s ρ => match s[i]?, s[j]? with
  | some (some .row), some (some (.o (.t P' q'))) => if P' = P ∧ q' = q then (match t s ρ with
    | some (.ok ds, some x) => (match F x ds with
      | some (.ok d, x') => some (.ok d, s, some x')
      | _ => none)
    | _ => none) else none
  | _, _ => none
/-! ### and, or, lists -/
abbrev XVA (K : PySem.W.Frag) (mg : Str → Option Value) (E : XK) (t : TA) (g : MV (List Dt)) : Prop := XVJ K mg E (DqAll K) t g
def vNil : MV (List Dt) := vLft (some [])
def vCons (a : MV Dt) (t : MV (List Dt)) : MV (List Dt) := vBnd a fun x => vBnd t fun xs => vLft (some (x :: xs))
theorem xva_nil : XVA K mg E tNil vNil := fun Lo H0 σ G H s ρ A r s' ρ' Q hg e q => by
  obtain ⟨z, hz, rfl, rfl, rfl⟩ := vLft_some hg
  cases hz
  exact q [] A G H (.refl e.gr) e .nil
theorem xva_cons {ta : TE} {tt : TA} {a : MV Dt} {t : MV (List Dt)} (ha : XV K mg E ta a) (ht : XVA K mg E tt t) : XVA K mg E (tCons ta tt) (vCons a t) := fun Lo H0 σ G H s ρ A r s' ρ' Q hg e q => by
  show ta σ H _
  refine xv_at ha hg e q fun v x A1 G1 H1 s1 ρ1 sr1 dv hg e q => ?_
  show tt σ H1 _
  refine xv_at ht hg e q fun vs xs A2 G2 H2 s2 ρ2 sr2 dvs hg e q => ?_
  obtain ⟨z, hz, rfl, rfl, rfl⟩ := vLft_some hg
  cases hz
  exact q (v :: vs) A2 G2 H2 (.refl e.gr) e (.cons (Dqu dv sr2.g) dvs)
/-- x = [..], of what may change things -/
def vLst (t : MV (List Dt)) : MV Dt := vBnd t fun ds => vLft (if ds.length ≤ 100000 then some (.list ds) else none)
theorem xv_lst {tt : TA} {t : MV (List Dt)} (ht : XVA K mg E tt t) : XV K mg E (tLst tt) (vLst t) := fun Lo H0 σ G H s ρ A r s' ρ' Q hg e q => by
  show tt σ H _
  refine xv_at ht hg e q fun vs ds A1 G1 H1 s1 ρ1 sr1 dvs hg e q => ?_
  obtain ⟨z, hz, rfl, rfl, rfl⟩ := vLft_some hg
  split at hz
  case isFalse => cases hz
  rename_i hl
  cases hz
  refine ⟨by rw [dqs_len dvs]; exact Evl.sz_of hl, fun p hp => ?_⟩
  obtain ⟨st, dl⟩ := newq_l (p := p) e.gr hp dvs
  exact q (.ref p) A1 _ _ (st.sq.sr e.low) (e.stp st) dl
end
/-! ### a lambda handed over at once -/
def tLamD (X : Cx) (P : Addr) (L : Lm) (TT : (XK → Hp → VK → Prop) → Hp → VK → Prop) (tb : XK → TE) : TE := fun σ H Q => tLamT X P L σ H fun v H1 => ∃ f d c', v = .ref f ∧ ThK X L H1 f d c' ∧ TT (fun E H' Q' => ThK X L H' f d c' ∧ tb E σ H' Q') H1 Q
section
variable {X : Cx} {pins : List (Addr × Obj)} {σ : L2.St} {H : Hp} {s : Shared}
/-- the maker's cells are in what nobody owns -/
theorem own_snap (I : Inv X pins σ H s) (hf : ∀ y, X.fn y = true) : ∀ y c o, X.env.cells.lookup y = some c → s.heap.get? c = some o → (snap s.heap H (frs X.stack)).get? c = some o := fun y c o hc ho => by
  have nfr : c ∉ frs X.stack := fun m => by
    rcases List.mem_cons.mp (I.stkSub c m) with z | z
    · exact I.cne y c hc z
    · obtain ⟨_, o', ho', _⟩ := I.ok.funs.mem z
      exact absurd (Nat.lt_of_lt_of_le (Heap.lt_size ho') (I.ok.cab y c (hf y) hc)) (Nat.lt_irrefl _)
  exact snap_get ho (I.freeC y c hc) nfr
theorem pe_lamD {c P : Addr} {params : Arguments} {body : Expr} {scope : Scope} {b : Bool} {t : XK → TE} {k : Nat} {x a : Str} {g : Addr} {pg : Arguments} {bg : List Stmt} {sg : Scope} {dV kV doc pm cdv ct oc : Value} {an od : Option Addr} {osl : Array (Option Value)} {Ng : List Str} {p lpos pos : Pos} {TT : (XK → Hp → VK → Prop) → Hp → VK → Prop}
    (HB : LBody X k ⟨params, body, scope, b⟩ t) (TB : TabB X.base X.mg c P) (hcode : X.env.code = .ref c) (hkw : params.kw_defaults = []) (hdf : (b = false ∧ params.defaults = []) ∨ (b = true ∧ ∃ e, params.defaults = [e] ∧ PE X e (tC (.int 0)))) (hf : ∀ y, X.fn y = true)
    (hg : Gl X x) (hm : X.mg x = some (.ref g)) (hk : PySem.W.keepIn X.K (.ref g) = true)
    (lk : X.K.lookup g = some ⟨oc, od, .func (PySem.W.fnOf x x pg bg sg dV kV doc pm an cdv ct), osl⟩) (hcg : PySem.W.codeIn X.K cdv x = true) (hb : L2.Binds X.K (PySem.W.fnOf x x pg bg sg dV kV doc pm an cdv ct) [a] []) (Sg : FnScope Ng [a] sg) (hNg : Ng[0]? = some a) (hva : Vis sg a)
    (hG : ∀ base', GivesN { X with base := base' } Ng x sg g cdv bg a (X.env.qual ++ "<lambda>") TT) (hr : Room (k + 2) X.A)
    (hdb : (x == ("__debug__" : Str)) = false := by decide) (hd : (a == ("__debug__" : Str)) = false := by decide) (hcd : (a == ("__classdict__" : Str)) = false := by decide) :
    PE X (.Call (.Name x p) [.Lambda params body scope lpos] [] pos) (tLamD X P ⟨params, body, scope, b⟩ TT t) := by
  refine ⟨fun pins s σ H Q I h => wpAny_Call_Name_kw (ld_glob I hg hm ?_ hdb)⟩
  refine PySem.W.callWith_K (h₀ := X.base) I.ok.mod.kin hk (?_ : wpAny _ _ (spliced ((false, eval (.Lambda params body scope lpos) X.env) :: backTo pos (starEach [] X.env))) _ _ s) (by rfl) (by rfl)
  refine Calls.spliced_cons (thn ((pe_lamT2 (pos := lpos) TB hcode HB.d hkw hdf).run pins s σ H _ I h) fun u s1 ⟨v, H1, J, r1, f, d, c', ev, T, ht⟩ => Calls.spliced_nil ⟨J.kIn, ?_⟩)
  subst ev
  obtain rfl : u = Value.ref f := r1
  have call_ : codeAny (model X.prog X.w) X.A (.call (.ref g) ⟨[.ref f], []⟩) (CR C8.CX0 X.stack X.prog X.w H1 s1 Q C8.E0) s1 := by
    refine run_ofS (N := Ng) (ps := [a]) (us := [.ref f]) (vs := [.ref f]) lk hcg Sg hr (env0_snap J.env0) (hb s1 [.ref f] J.kIn rfl) (.cons rfl .nil) rfl fun room => ?_
    obtain ⟨tg, h1, h2⟩ := hG (snap s1.heap H1 (frs X.stack)) f c' s1 H1 Q (fun E H' Q' => ThK X ⟨params, body, scope, b⟩ H' f d c' ∧ t E σ H' Q') (fun W pn xe E p1 p2 tk hW =>
      ⟨fun pz sz σZ HZ QZ IZ ⟨z1, _, z2, z3⟩ => (pe_actB (L := ⟨params, body, scope, b⟩) (i := 0) J HB.d HB.b (fun b o q => base_snap J.env0 q) (by rw [snap_size]; exact J.env0.bsz) (own_snap J hf) tk hW room (fun A outer s H hr2 => HB.body A outer s H E f c' hr2) hNg hva hd hcd).run pz sz σZ HZ QZ IZ ⟨z1, z2, z3⟩⟩) T.code ht
    exact ⟨tg, h1.nox, h2⟩
  refine wpAny_call (codeAny_mono call_ fun r s2 hq => ?_)
  rcases r with e | fl
  · exact (show False from hq).elim
  · cases fl with
    | ret u => exact J.after hq
    | next => exact hq.elim
    | brk => exact hq.elim
    | cont => exact hq.elim
end
def vWordD (k : Nat) (P : Addr) (q : Str) (w : Exn → Option Dt) (a : ME Dt) : MV Dt := fun s ρ => match s[k]? with
  | some (some (.o c)) => if tabIn P q c = true then (match wordV w a s ρ with
    | some (d, ρ1) => some (.ok d, s, ρ1)
    | none => none) else none
  | _ => none
section
variable {K : PySem.W.Frag} {mg : Str → Option Value} {E : XK}
end
end Sb

/-! Seamboard, layer T13: a def with lambdas of its own does what it does, wherever its cells lie. -/
namespace Sb
open PySem PySem.Spec PyProof.Rows L2 LamX
theorem tSeq_assoc {a b c : TS} : tSeq a (tSeq b c) = tSeq (tSeq a b) c := rfl
abbrev LOT : Type := Nat → Addr → Addr → Addr → HO
open Classical in
/-- what comes out whatever the lambdas' cells are -/
noncomputable def allR {R : Type} (G : LOT → (Nat → Bool) → Option R) : Option R := if h : ∃ r, ∀ LO df, G LO df = some r then some h.choose else none
noncomputable def allWT (G : LOT → (Nat → Bool) → Fr) : Fr := fun x ds => allR fun LO df => G LO df x ds
noncomputable def allFT (G : LOT → (Nat → Bool) → Fn) : Fn := fun ds => allR fun LO df => G LO df ds
section
variable {K : PySem.W.Frag} {P : Addr} {q : Str} {vs : List V} {H : Hp} {Q : VK} {E : XK}
end
end Sb
namespace Sb
open PySem PySem.Spec PyProof.Rows L2 LamX
theorem walk_T2s {l : PySem.W.OpenLaw} {n k : Nat} {q : Program} {loose : List Str} {XP : (Str → Option Value) → Heap → Prop} {YP : World → Heap → Prop} {d : DefRec} {x1 : Str} {K : Params → PySem.W.Frag} {CX : World → CXT} {x : Str}
    (hn : l.most = some n) (hn2 : n ≤ sizeLine) (hdf : d.params.defaults = []) (hr : Room k callerA) (hd : (recsOf q).find? (fun e => e.name == d.name) = some d) (hd1 : ((recsOf q).find? (fun e => e.name == x1)).isSome = true) (hY : ∀ (w : World) (h : Heap), YP w h → (K w.params).In h)
    (F : ∀ (w : World) (mg : Str → Option Value) (fa : Addr) (h : Heap), YP w h → (K w.params).In h → h.Ns mainGlobals mg → mg d.name = some (.ref fa) →
      (∀ c P, PySem.W.tabIn (K w.params) d.name = some (c, P) ∨ PySem.W.tabIn (K w.params) x1 = some (c, P) → PySem.W.CodeHd h c P ∧ h.get? P = some { cls := .none, data := .fields #[] }) → LawAtS l w (K w.params) (CX w) k n x mg fa h)
    (hCX : ∀ (w : World) (H : Hp) (s : Shared) (e : Value) (s' : Shared), CX w [] H s (fun _ _ _ => False) e s' → False) :
    PySem.W.WalkO q loose XP YP l.row.toRowW d [] (fun f vs => PySem.call f vs) := by
  obtain ⟨d1, h1⟩ := Option.isSome_iff_exists.mp hd1
  exact walk_T2 (d1 := d1) (x1 := x1) hn hn2 hdf hr hd h1 hY F hCX
theorem tabIn_mkN {K : PySem.W.Frag} {x : Str} {f c P : Addr} {oc oc2 kV dc pm ct : Value} {an od od2 : Option Addr} {osl sl2 : Array (Option Value)} {vs : Array Value} {st : Stmt} (a : PySem.W.nsIn K mainGlobals x = some (some (.ref f)))
    (l : K.lookup f = some ⟨oc, od, .func (PySem.W.fnOf x x (defArgs st) (defBody st) (defScope st) .none kV dc pm an (.ref c) ct), osl⟩) (l2 : K.lookup c = some ⟨oc2, od2, .fields vs, sl2⟩) (p : vs[11]? = some (.ref P)) : PySem.W.tabIn K x = some (c, P) := by
  unfold PySem.W.tabIn
  rw [a]
  simp only []
  rw [l]
  simp only [PySem.W.fnOf]
  rw [l2]
  simp only []
  rw [p]
end Sb

/-! Seamboard: numbers that can't stand where they stand; errors handed on (for any law). -/
namespace Sb
open PySem PySem.Spec PyProof.Rows L2
variable {r c : Nat}
def BadL (n : Int) (d : Dt) (k : Nat) : Prop := F_first_misplaced [d, .int n] = some (.ok (.int (k : Int)))
def offB (lo n : Int) : Dt → Bool
  | .int x => decide (x < lo) || decide (n ≤ x)
  | _ => true
def floorL : Int → List Int → Int
  | lo, [] => lo
  | _, x :: l => floorL (x + 1) l
theorem badL_tup {n : Int} {l : List Int} {d : Dt} {ds : List Dt} (h1 : l.Pairwise (· < ·)) (h2 : ∀ x ∈ l, 0 ≤ x ∧ x < n) (hd : offB (floorL 0 l) n d = true) : BadL n (.tuple (l.map .int ++ d :: ds)) l.length := by
  obtain ⟨D, hD⟩ : ∃ D : Dt, D = .tuple (l.map .int ++ d :: ds) := ⟨_, rfl⟩
  have key : ∀ (l2 : List Int) (k : Nat) (lo : Int) (x3 x4 : Option Wv), (∀ x ∈ l2, lo ≤ x) → l2.Pairwise (· < ·) → (∀ x ∈ l2, x < n) → offB (floorL lo l2) n d = true →
      forGo (fgTup 2 (fgCons (fgName 3) (fgCons (fgName 4) fgNil))) (fSeq (fIfS (fOr (fNot (fB (fCall F_is_whole (fCons (fVar 4) fNil)))) (fOr (fB (fOp oLt (fVar 4) (fVar 2))) (fB (fOp oGe (fVar 4) (fVar 1)))))
        (fRet (fVar 3)) fNext) (fAsg (fOp oAdd (fVar 4) (ret (.int 1))) (fgName 2))) (pairsFrom k (l2.map .int ++ d :: ds)) [some (.d D), some (.d (.int n)), some (.d (.int lo)), x3, x4] none = some (.rt (.int ((k + l2.length : Nat) : Int)) none) := by
    intro l2
    induction l2 with
    | nil =>
      intro k lo x3 x4 _ _ _ hd
      have hw := v_is_whole d
      show forGo _ _ (pairsFrom k (d :: ds)) _ none = _
      rw [pairsFrom, forGo_cons]
      have hd : offB lo n d = true := hd
      cases d with
      | int x =>
        have hi : isI (.int x) = true := rfl
        rw [hi] at hw
        have hd : (decide (x < lo) || decide (n ≤ x)) = true := hd
        by_cases e1 : x < lo
        · simp [hw, e1]
        · have e2 : n ≤ x := by
            rw [Bool.or_eq_true] at hd
            rcases hd with z | z
            · exact absurd (of_decide_eq_true z) e1
            · exact of_decide_eq_true z
          simp [hw, e1, e2]
      | none => have hi : isI .none = false := rfl; rw [hi] at hw; simp [hw]
      | bool b => have hi : isI (.bool b) = false := rfl; rw [hi] at hw; simp [hw]
      | str z => have hi : isI (.str z) = false := rfl; rw [hi] at hw; simp [hw]
      | list zs => have hi : isI (.list zs) = false := rfl; rw [hi] at hw; simp [hw]
      | tuple zs => have hi : isI (.tuple zs) = false := rfl; rw [hi] at hw; simp [hw]
      | dict zs => have hi : isI (.dict zs) = false := rfl; rw [hi] at hw; simp [hw]
    | cons x l2 ih =>
      intro k lo x3 x4 h1 h2 h3 hd
      have hx := h1 x List.mem_cons_self
      have hn := h3 x List.mem_cons_self
      obtain ⟨hp, h2'⟩ := List.pairwise_cons.mp h2
      have hs := ih (k + 1) (x + 1) (some (.d (.int k))) (some (.d (.int x))) (fun y hy => hp y hy) h2' (fun y hy => h3 y (List.mem_cons_of_mem _ hy)) hd
      rw [List.map_cons, List.cons_append, pairsFrom, forGo_cons]
      simp [v_is_whole, isI, show ¬ x < lo by omega, show ¬ n ≤ x by omega]
      rw [hs]
      refine congrArg (fun z => some (Ot.rt (PyData.int z) none)) ?_
      omega
  have hs := key l 0 0 none none (fun x hx => (h2 x hx).1) h1 (fun x hx => (h2 x hx).2) hd
  rw [Nat.zero_add] at hs
  have hk : kT D = true := by rw [hD]; rfl
  unfold BadL
  rw [← hD]
  have fin : ∀ o, f_first_misplaced [dd D, some (.d (.int n)), none, none, none] none = some (.rt o none) → F_first_misplaced [D, .int n] = some (.ok o) := fun o h => by
    show runF 2 5 f_first_misplaced [D, .int n] = _
    rw [runF_at, if_pos (show [D, PyData.int n].length = 2 from rfl)]
    exact congrArg outF h
  refine fin _ ?_
  unfold f_first_misplaced
  refine (fSeq_to (s1 := [dd D, some (.d (.int n)), none, none, none]) (ρ1 := none) (by simp [kitO, kit_T, hk])).trans ?_
  refine (fSeq_to (s1 := [dd D, some (.d (.int n)), some (.d (.int 0)), none, none]) (ρ1 := none) rfl).trans ?_
  refine fSeq_rt ?_
  rw [fFor_e]
  exact (fOut_to (x := pairsFrom 0 (l.map .int ++ d :: ds)) (ρ1 := none) (by rw [hD]; rfl)).trans hs
theorem fErr_pl {C : Str} {a : ME Dt} {s : Ss} {ρ ρ1 : Ro} {n : Nat} (h : a s ρ = some (.ok (.int (n : Int)), ρ1)) (hn : n ≤ 1000) : fErr C "place" a s ρ = some (.er ⟨C, some ("place", (n : Int))⟩ ρ1) := by
  unfold fErr
  rw [fOut_to h]
  show (if ((n : Nat) : Int).natAbs.log2 < 1000 then _ else _) = _
  rw [if_pos (by
    rw [Int.natAbs_natCast]
    by_cases h0 : n = 0
    · subst h0; decide
    · rw [Nat.log2_lt h0]; exact Nat.lt_of_le_of_lt hn (by decide +kernel))]
theorem fCall_er {F : Fn} {t : ME (List Dt)} {s : Ss} {ρ ρ1 : Ro} {ds : List Dt} {x : Exn} (h : t s ρ = some (.ok ds, ρ1)) (e : F ds = some (.error x)) : fCall F t s ρ = some (.error x, ρ1) := by
  rw [fCall_at, bnd_to h, e]
section
variable {P : Addr} {q : Str} {LO : Nat → Addr → Addr → Addr → HO} {df : Nat → Bool} {s s1 s2 : Ss} {ρ ρ1 ρ2 : Ro}
theorem vNot_to {g : MV Bool} {b : Bool} (h : g s ρ = some (.ok b, s1, ρ1)) : vNot g s ρ = some (.ok (!b), s1, ρ1) := by
  unfold vNot vBnd; rw [h]; rfl
theorem vAnd_f {g h : MV Bool} (e : g s ρ = some (.ok false, s1, ρ1)) : vAnd g h s ρ = some (.ok false, s1, ρ1) := by
  unfold vAnd vBnd; rw [e]; rfl
theorem vAnd_t {g h : MV Bool} {b : Bool} (e : g s ρ = some (.ok true, s1, ρ1)) (e2 : h s1 ρ1 = some (.ok b, s2, ρ2)) : vAnd g h s ρ = some (.ok b, s2, ρ2) := by
  unfold vAnd vBnd; rw [e]; exact e2
theorem vCons_to {a : MV Dt} {t : MV (List Dt)} {d : Dt} {ds : List Dt} (h : a s ρ = some (.ok d, s1, ρ1)) (h2 : t s1 ρ1 = some (.ok ds, s2, ρ2)) : vCons a t s ρ = some (.ok (d :: ds), s2, ρ2) := by
  unfold vCons vBnd; rw [h]; simp only [vBnd, h2]; rfl
theorem vLst_to {t : MV (List Dt)} {ds : List Dt} (h : t s ρ = some (.ok ds, s1, ρ1)) (hl : ds.length ≤ 100000) : vLst t s ρ = some (.ok (.list ds), s1, ρ1) := by
  unfold vLst vBnd; rw [h]; simp only [if_pos hl]; rfl
end
theorem shaped_w0 {z : Str} (h : PyData.canLay0 (.str z) = true) : SeqAt.shaped (.tuple [.str z]) = true := by
  unfold SeqAt.shaped
  rw [Bool.and_eq_true]
  refine ⟨?_, ?_⟩
  · simp only [PyData.canLay0, PyData.canLayAll0] at h ⊢
    rw [h]; rfl
  · simp [PyData.depth, PyData.depthAll]
theorem fSlT_to {s : Ss} {ρ ρ1 ρ2 ρ3 : Ro} {a : ME Dt} {l h : ME (Option Int)} {ds : List Dt} {lo hi : Option Int} (ha : a s ρ = some (.ok (.tuple ds), ρ1)) (hl : l s ρ1 = some (.ok lo, ρ2)) (hh : h s ρ2 = some (.ok hi, ρ3)) : fSlT a l h s ρ = some (.ok (.tuple (cutD ds lo hi)), ρ3) := by
  unfold fSlT
  rw [bnd_to ha, bnd_to hl, bnd_to hh]; rfl
end Sb

/-! Seamboard, layer T14: a watch that isn't made. -/
namespace Sb
open PySem PySem.Spec PyProof.Rows L2 LamX
def iniX (Fb Fc : Fn) (b f l : Dt) : Option Exn := match Fb [b] with
  | some (.error x) => some x
  | some (.ok _) => (match Fc [f] with
    | some (.error x) => some x
    | some (.ok _) => (match Fc [l] with
      | some (.error x) => some x
      | _ => none)
    | none => none)
  | none => none
def spInitE (K : PySem.W.Frag) (mg : Str → Option Value) (C : Addr) (Fb Fc : Fn) : Sp := fun vs H _ E => ∃ G x dx vb vf vl b f l e, vs = [.ref x, vb, vf, vl] ∧ Gr G H ∧ H x = some (.ins C dx []) ∧ G x = none ∧ Dq K G vb b ∧ Dq K G vf f ∧ Dq K G vl l ∧ iniX Fb Fc b f l = some e ∧ ∀ c da G2 H2, Stp G H G2 H2 → ExOk mg e c da H2 → E c da H2
structure HasIX (P : Program) (w : World) (K : PySem.W.Frag) (mg : Str → Option Value) (base : Heap) (C : Addr) (st : Stmt) (k : Nat) (sp : Sp) : Prop where
  ex : ∃ f fd, FnOk P w K mg base (L2N.CX P w) k f fd ["self", "board", "flip", "lie"] sp ∧ Mk K C f ∧ mg "Watch" = some (.ref C) ∧ FunD K "__init__" "Watch.__init__" (defArgs st) (defBody st) (defScope st) [] [("flip", .int 1), ("lie", .int 1)] f fd
section
variable {X : Cx} {k : Nat} {sp : Sp} {p pos : Pos} {e : Expr} {es : List Expr} {t tk : TA} {st : Stmt} {kwe : List Keyword} {C : Addr} {E : XK}
end
def fMkE (Fb Fc : Fn) (n m : Nat) (g : List Dt → List Dt → List Dt) (t k : ME (List Dt)) : ME Dt := bnd t fun ds => bnd k fun zs => fun _ ρ => if ds.length = n ∧ zs.length = m then (match g ds zs with
  | [b, f, l] => (match iniX Fb Fc b f l with
    | some e => some (.error e, ρ)
    | none => none)
  | _ => none) else none
section
variable {K : PySem.W.Frag} {mg : Str → Option Value} {E : XK} {C : Addr} {Fb Fc : Fn}
end
end Sb

/-! Seamboard, layer I1: dicts of their own with texts for keys; what is looked at, dicts too. -/
namespace Sb
open PySem PySem.Spec PyProof.Rows L2
section
variable {K : PySem.W.Frag} {mg : Str → Option Value} {E : XK} {Lo : Option Addr} {H0 G H G1 H1 G2 H2 : Hp} {σ σ' : L2.St} {s : Ss} {ρ ρ' : Ro} {A : Nat → List Addr} {D : Ends} {v : V}
/-! ### looking, dicts too -/
def thW2 : Option Wv → Option Wv
  | some (.o (.m kds)) => some (.m kds)
  | w => thW w
def thS2 (s : Ss) : Ss := s.map thW2
theorem EnS.look2 (e : EnS K Lo H0 G H σ s ρ A) : EnS K none H0 (allA G H A) H σ (thS2 s) none (fun _ => []) where
  gr := allA_le e
  row := fun x hx => nomatch hx
  lo := fun L h => nomatch h
  low := e.low
  len := by unfold thS2; rw [List.length_map]; exact e.len
  at_ := fun i w hw => by
    unfold thS2 at hw
    rw [List.getElem?_map] at hw
    cases hs : s[i]? with
    | none => rw [hs] at hw; cases hw
    | some ow =>
      rw [hs] at hw
      have key : ow ≠ none → (∀ kds, ow ≠ some (.o (.m kds))) → thW ow = some w → ∃ v, σ[i]? = some (some v) ∧ WvOk K none (allA G H A) H v [] w := fun h1 h2 h3 => by
        have := e.look.at_ i w (by unfold thS; rw [List.getElem?_map, hs]; exact congrArg some h3)
        exact this
      cases ow with
      | none => cases hw
      | some w0 =>
        cases w0 with
        | d x => exact key (by simp) (by simp) (Option.some.inj hw)
        | row => exact key (by simp) (by simp) (Option.some.inj hw)
        | m kds => exact key (by simp) (by simp) (Option.some.inj hw)
        | o c =>
          cases c with
          | m kds =>
            cases hw
            obtain ⟨v, a, p, kvs, e1, e2, e3, e4⟩ := e.at_ i _ hs
            exact ⟨v, a, p, kvs, e1, by rw [allA_in p i (by rw [e2]; exact List.mem_cons_self)]; exact e3, kq_up (allA_gr e) e4⟩
          | l xs => exact key (by simp) (by simp) (Option.some.inj hw)
          | ll xs => exact key (by simp) (by simp) (Option.some.inj hw)
          | w k => exact key (by simp) (by simp) (Option.some.inj hw)
          | t P q => exact key (by simp) (by simp) (Option.some.inj hw)
          | e a d p => exact key (by simp) (by simp) (Option.some.inj hw)
          | f LO df q js => exact key (by simp) (by simp) (Option.some.inj hw)
          | tt P q P1 q1 => exact key (by simp) (by simp) (Option.some.inj hw)
          | wx x p t => exact key (by simp) (by simp) (Option.some.inj hw)
  fp := fun i p hp => nomatch hp
  dj := fun i j p hp => nomatch hp
  nd := fun i => List.nodup_nil
def fLookT2 (a : ME Bool) : ME Bool := fun s ρ => match a (thS2 s) none with
  | some (.ok d, _) => some (.ok d, ρ)
  | _ => none
theorem xt_look2 {ta : TT} {a : ME Bool} (ha : XT K mg E ta a) : XT K mg E ta (fLookT2 a) := fun Lo H0 σ G H s ρ A r ρ' Q hg e q => by
  unfold fLookT2 at hg
  split at hg
  · rename_i d ρ1 hq
    cases hg
    exact ha none H0 σ _ H _ none _ _ _ Q hq e.look2 fun v G2 H2 s2 r2 dv => q v G H2 ⟨.refl _, (allA_gr e).trans (s2.g.trans s2.s), fun a o n h => s2.h a o (by simp) h, s2.k, fun _ _ h => h⟩
      (fun x hx => by
        obtain ⟨L, e1, hr⟩ := e.row x hx
        obtain ⟨a, ea, h2⟩ := hr.at_
        exact ⟨L, e1, hr.g, a, s2.h _ _ (by simp) ea, h2⟩) dv
  · cases hg
/-! ### d[k], sorted(d), d looked at -/
def fDgetS (i : Nat) (k : ME Dt) : ME Dt := fun s ρ => match s[i]? with
  | some (some (.m kds)) => bnd k (fun x => lft (match x with
    | .str z => getK kds (.inr z)
    | _ => none)) s ρ
  | _ => none
theorem xe_dgetS {i : Nat} {tk : TE} {k : ME Dt} (hk : XE K mg E tk k) : XE K mg E (tDGet (tVar i) tk) (fDgetS i k) := fun Lo H0 σ G H s ρ A r ρ' Q hg e q => by
  unfold fDgetS at hg
  split at hg
  · rename_i kds hi
    obtain ⟨v, hv, a, kvs, rfl, ha, hkv⟩ := e.at_ i _ hi
    refine ⟨_, hv, ?_⟩
    refine xj_at hk hg e q fun y x G1 H1 ρ1 s1 dv hg e q => ?_
    obtain ⟨z, hz, rfl, rfl⟩ := lft_some hg
    split at hz
    · rename_i j
      cases dv
      rcases kq_get (k := .inr j) (kq_up s1.g hkv) with ⟨_, h⟩ | ⟨w, d', h1, h2, h3⟩
      · rw [hz] at h; cases h
      · rw [hz] at h2
        cases h2
        exact ⟨a, w, rfl, .inl ⟨kvs, .inr j, .inl (e.gr _ _ (s1.g _ _ ha)), rfl, h1.symm⟩, q.ok e (.refl e.gr) h3⟩
    · cases hz
  · cases hg
/-! sorted texts -/
def insS (x : Str) : List Str → List Str
  | [] => [x]
  | y :: l => if x.cps.toList < y.cps.toList then x :: y :: l else y :: insS x l
def srtS : List Str → List Str
  | [] => []
  | x :: l => insS x (srtS l)
theorem insS_perm (x : Str) : ∀ l : List Str, (insS x l).Perm (x :: l)
  | [] => List.Perm.refl _
  | y :: l => by
    unfold insS
    split
    · exact List.Perm.refl _
    · exact ((insS_perm x l).cons y).trans (List.Perm.swap x y l)
theorem srtS_perm : ∀ l : List Str, (srtS l).Perm l
  | [] => List.Perm.refl _
  | x :: l => (insS_perm x (srtS l)).trans ((srtS_perm l).cons x)
def txK (kds : List (Key × Dt)) : Option (List Str) := match kds with
  | [] => some []
  | (.inr z, _) :: r => (txK r).map (z :: ·)
  | _ :: _ => none
theorem txK_some : ∀ {kds : List (Key × Dt)} {ks : List Str}, txK kds = some ks → kds.map (·.1) = ks.map Sum.inr
  | [], ks, h => by cases h; rfl
  | (.inr z, d) :: r, ks, h => by
    unfold txK at h
    cases hr : txK r with
    | none => rw [hr] at h; cases h
    | some y =>
      rw [hr] at h
      cases h
      rw [List.map_cons, List.map_cons, txK_some hr]
  | (.inl z, d) :: r, ks, h => by cases h
def fDsort (i : Nat) : ME (List Dt) := fun s ρ => match s[i]? with
  | some (some (.m kds)) => match txK kds with
    | some ks => if ks.length < 64 ∧ ltS (srtS ks) = true then some (.ok ((srtS ks).map .str), ρ) else none
    | none => none
  | _ => none
theorem xn_dsort {i : Nat} : XN K mg E (tCB rSortDS (tCons (tVar i) tNil)) (fDsort i) := fun Lo H0 σ G H s ρ A r ρ' Q hg e q => by
  unfold fDsort at hg
  split at hg
  · rename_i kds hi
    split at hg
    · rename_i ks hk
      split at hg
      · rename_i hc
        cases hg
        obtain ⟨v, hv, a, kvs, rfl, ha, hkv⟩ := e.at_ i _ hi
        refine ⟨_, hv, a, kvs, ks, rfl, .inl (e.gr _ _ ha), ?_, hc.1, fun ys b hys hs hb => ?_⟩
        · rw [kq_keys hkv, txK_some hk]
        · rw [sort_uniq (hys.trans (srtS_perm ks).symm) hs hc.2]
          exact q.new e hb (dqs_strs _)
      · cases hg
    · cases hg
  · cases hg
/-- sorted(self.points), marked in any order -/
def fPsortA (i : Nat) : ME (List Dt) := fun s ρ => match s[i]? with
  | some (some (.o (.w t))) => if (t.ps.map (·.1)).length < 64 ∧ ltS (srtS (t.ps.map (·.1))) = true then some (.ok ((srtS (t.ps.map (·.1))).map .str), ρ) else none
  | _ => none
theorem xn_psortA {C : Addr} (T : WTxt K C) {i : Nat} : XN K mg E (tCB rSortDS (tCons (tFld K (tVar i) "points") tNil)) (fPsortA i) := fun Lo H0 σ G H s ρ A r ρ' Q hg e q => by
  unfold fPsortA at hg
  split at hg
  · rename_i t hi
    split at hg
    · rename_i hc
      cases hg
      obtain ⟨x, p, hv, hA, w⟩ := e.wat T hi
      obtain ⟨dx, vb, vf, vl, vt, kvs, h0, _, _, _, _, hp, hk⟩ := w.ex
      refine ⟨_, hv, x, C, dx, _, _, rfl, h0, T.cl, T.np, fld_pts _ _ _ _ _, p, kvs, t.ps.map (·.1), rfl, .inl hp, ?_, hc.1, fun ys b hys hs hb => ?_⟩
      · rw [kq_keys hk]
        unfold ptsK
        rw [List.map_map, List.map_map]
        rfl
      · rw [sort_uniq (hys.trans (srtS_perm _).symm) hs hc.2]
        exact q.new e hb (dqs_strs _)
    · cases hg
  · cases hg
/-! ### dicts of their own -/
/-- d[k] = e, k a text -/
def fDputO (i : Nat) (k a : ME Dt) : MS := fOut a fun d s ρ => match s[i]? with
  | some (some (.o (.m kds))) => fOut k (fun y s ρ => match y with
    | .str z => if kds.length < 100000 then some (.nx (s.set i (some (.o (.m (putD kds (.inr z) d))))) ρ) else none
    | _ => none) s ρ
  | _ => none
theorem xs_dputO {i : Nat} {tk ta : TE} {k a : ME Dt} (hk : XE K mg E tk k) (ha : XE K mg E ta a) : XS K mg E (sDPut (tVar i) tk ta) (fDputO i k a) := fun Lo H0 D σ G H s ρ A o hr e q => by
  show ta σ H _
  refine xs_at ha hr e q fun v d G1 H1 ρ1 s1 dv hr e q => ?_
  split at hr
  case h_2 => cases hr
  rename_i kds hi
  obtain ⟨v0, hv0, p, kvs, rfl, hA, hp, hkv⟩ := e.at_ i _ hi
  refine ⟨_, hv0, ?_⟩
  refine xs_at hk hr e q fun y x G2 H2 ρ2 s2 dy hr e q => ?_
  split at hr
  case h_2 => cases hr
  rename_i z
  split at hr
  case isFalse => cases hr
  rename_i hl
  cases hr
  cases dy
  obtain ⟨v1, hv1, p1, kvs1, e1, hA1, hp1, hk1⟩ := e.at_ i _ hi
  rw [hv0] at hv1; cases hv1
  cases e1
  have W := e.write (H2 := upd H2 p (.dK (putK kvs1 (.inr z) v))) (c' := .m (putD kds (.inr z) d)) hi hv0 (fun a ha => upd_ne fun z => ha (by rw [hA, z]; exact List.mem_cons_self)) (fun a ha => by
    by_cases z : a = p
    · rw [z, upd_same]; simp
    · rw [upd_ne z]; exact (e.fp i a ha).2.2.1) (by
    exact ⟨p, _, rfl, hA1, upd_same, kq_put (Dqu dv s2.g) hk1⟩)
  exact ⟨p, _, rfl, DPut.k (k := .inr z) hp1 (by rw [kq_len hk1]; exact Evl.sz_lt hl), q σ A G2 _ W.1 W.2⟩
/-- k in d -/
def fDinO (i : Nat) (k : ME Dt) : ME Dt := bnd k fun y s ρ => match y, s[i]? with
  | .str z, some (some (.o (.m kds))) => some (.ok (.bool (getK kds (.inr z)).isSome), ρ)
  | _, _ => none
theorem xe_dinO {i : Nat} {tk : TE} {k : ME Dt} (hk : XE K mg E tk k) : XE K mg E (tDIn tk (tVar i)) (fDinO i k) := fun Lo H0 σ G H s ρ A r ρ' Q hg e q => by
  show tk σ H _
  refine xj_at hk hg e q fun y x G1 H1 ρ1 s1 dv hg e q => ?_
  split at hg
  case h_2 => cases hg
  rename_i z kds hi
  cases hg
  cases dv
  obtain ⟨v, hv, p, kvs, rfl, hA, hp, hkv⟩ := e.at_ i _ hi
  refine ⟨_, hv, p, valV kvs (.inr z), rfl, .inl ⟨kvs, .inr z, .inl hp, rfl, rfl⟩, ?_⟩
  rcases kq_get (k := .inr z) hkv with ⟨k1, k2⟩ | ⟨u, d', k1, k2, k3⟩
  · rw [k2] at q; rw [k1]; exact q.ok e (.refl e.gr) (.bl _)
  · rw [k2] at q; rw [k1]; exact q.ok e (.refl e.gr) (.bl _)
/-- d.get(k, e) -/
def fDget2O (i : Nat) (k a : ME Dt) : ME Dt := fun s ρ => match s[i]? with
  | some (some (.o (.m kds))) => bnd k (fun y => bnd a fun d => lft (match y with
    | .str z => some ((getK kds (.inr z)).getD d)
    | _ => none)) s ρ
  | _ => none
theorem xe_dget2O {i : Nat} {tk ta : TE} {k a : ME Dt} (hk : XE K mg E tk k) (ha : XE K mg E ta a) : XE K mg E (tDGet2 (tVar i) tk ta) (fDget2O i k a) := fun Lo H0 σ G H s ρ A r ρ' Q hg e q => by
  unfold fDget2O at hg
  split at hg
  case h_2 => cases hg
  rename_i kds hi
  obtain ⟨v, hv, p, kvs0, rfl, hA, hp0, hkv0⟩ := e.at_ i _ hi
  refine ⟨_, hv, p, rfl, .inl ⟨kvs0, .inl hp0⟩, ?_⟩
  refine xj_at hk hg e q fun y x G1 H1 ρ1 s1 dv hg e q => ?_
  refine xj_at ha hg e q fun u d G2 H2 ρ2 s2 du hg e q => ?_
  obtain ⟨z, hz, rfl, rfl⟩ := lft_some hg
  split at hz
  case h_2 => cases hz
  rename_i z' hgg
  cases hz
  cases dv
  obtain ⟨v1, hv1, p1, kvs, e1, hA1, hp, hkv⟩ := e.at_ i _ hi
  rw [hv] at hv1; cases hv1
  cases e1
  refine ⟨valV kvs (.inr z'), .inl ⟨kvs, .inr z', .inl hp, rfl, rfl⟩, ?_⟩
  rcases kq_get (k := .inr z') hkv with ⟨k1, k2⟩ | ⟨w, d', k1, k2, k3⟩
  · rw [k2] at q; rw [k1]; exact q.ok e (.refl e.gr) du
  · rw [k2] at q; rw [k1]; exact q.ok e (.refl e.gr) k3
end
end Sb

/-! Seamboard, layer I2: words of methods that change their watch; new things of one's own; methods that hand back new lists. -/
namespace Sb
open PySem PySem.Spec PyProof.Rows L2 LamX
section
variable {K : PySem.W.Frag} {mg : Str → Option Value} {E : XK} {Lo : Option Addr} {H0 G H G1 H1 G2 H2 : Hp} {σ σ' : L2.St} {s : Ss} {ρ ρ' : Ro} {A : Nat → List Addr} {D : Ends} {v : V} {P C : Addr} {q m : Str}
/-- an own watch, and what it is when it has changed -/
def asW : Oc → Option (Wt × (Wt → Oc))
  | .w t => some (t, .w)
  | .wx x p t => some (t, .wx x p)
  | _ => none
theorem EnS.watA {i : Nat} {c : Oc} {t : Wt} {κ : Wt → Oc} (T : WTxt K C) (e : EnS K Lo H0 G H σ s ρ A) (hi : s[i]? = some (some (.o c))) (hc : asW c = some (t, κ)) : ∃ x p, σ[i]? = some (some (.ref x)) ∧ A i = [x, p] ∧ WAt K G H C x p t ∧ (∀ G' H' t', WAt K G' H' C x p t' → OcOk K G' H' (.ref x) [x, p] (κ t')) := by
  cases c with
  | w t0 =>
    cases hc
    obtain ⟨x, p, a, b, w⟩ := e.wat T hi
    exact ⟨x, p, a, b, w, fun G' H' t' w' => w_oc T w'⟩
  | wx x p t0 =>
    cases hc
    obtain ⟨v, hv, e1, e2, C', dx, vb, vf, vl, vt, kvs, e0, r⟩ := e.at_ i _ hi
    cases T.same e0
    subst e1
    exact ⟨x, p, hv, e2, ⟨dx, vb, vf, vl, vt, kvs, r⟩, fun G' H' t' w' => by
      obtain ⟨dx', vb', vf', vl', vt', kvs', r'⟩ := w'.ex
      exact ⟨rfl, rfl, C, dx', vb', vf', vl', vt', kvs', e0, r'⟩⟩
  | l _ => cases hc
  | ll _ => cases hc
  | m _ => cases hc
  | t _ _ => cases hc
  | e _ _ _ => cases hc
  | f _ _ _ _ => cases hc
  | tt _ _ _ _ => cases hc
theorem EnS.wMA {i : Nat} {c c' : Oc} {x p : Addr} (e : EnS K Lo H0 G H σ s ρ A) (hi : s[i]? = some (some (.o c))) (hv : σ[i]? = some (some (.ref x))) (hA : A i = [x, p]) (r : SwR x p G H G2 H2) (w : OcOk K G2 H2 (.ref x) [x, p] c') :
    Sr Lo H0 G H G2 H2 ∧ EnS K Lo H0 G2 H2 σ (s.set i (some (.o c'))) ρ A := by
  have ix : x ∈ A i := by rw [hA]; exact List.mem_cons_self
  have ip : p ∈ A i := by rw [hA]; exact List.mem_cons_of_mem _ List.mem_cons_self
  obtain ⟨x1, x2, x3, x4⟩ := e.fp i x ix
  obtain ⟨p1, p2, p3, p4⟩ := e.fp i p ip
  refine ⟨⟨r.g, r.s, fun a o _ m h => r.h a o (fun z => m (by rw [z]; exact x2)) (fun z => m (by rw [z]; exact p2)) h, r.k, fun a h1 h2 => r.f a (e.low a h1) h2⟩, r.s, fun y hy => ?_, fun L h => r.k L (e.lo L h), fun a h => r.k a (e.low a h), by rw [List.length_set]; exact e.len, fun j u hu => ?_, fun j q hq => ?_, e.dj, e.nd⟩
  · obtain ⟨L, e1, hr⟩ := e.row y hy
    obtain ⟨a, ea, h2⟩ := hr.at_
    have lx : L ≠ x := fun z => x4 (by rw [← z]; exact e1.symm)
    have lp : L ≠ p := fun z => p4 (by rw [← z]; exact e1.symm)
    exact ⟨L, e1, r.f L (ne_of_some ea) hr.g, a, r.h _ _ lx lp ea, gr_l r.g h2⟩
  · by_cases z : j = i
    · subst z
      have hl : j < s.length := (List.getElem?_eq_some_iff.mp hi).1
      rw [List.getElem?_set_self hl] at hu
      cases hu
      refine ⟨.ref x, hv, ?_⟩
      rw [hA]
      exact w
    · rw [List.getElem?_set_ne (Ne.symm z)] at hu
      obtain ⟨v, a, b⟩ := e.at_ j u hu
      refine ⟨v, a, wvOk_step b r.g fun q hq o ho => r.h q o (fun y => z (e.dj j i q hq (by rw [y]; exact ix))) (fun y => z (e.dj j i q hq (by rw [y]; exact ip))) ho⟩
  · obtain ⟨a1, a2, a3, a4⟩ := e.fp j q hq
    exact ⟨r.f q a3 a1, a2, r.k q a3, a4⟩
/-- the word of what a method does that changes its watch -/
def vWordY (P : Addr) (q : Str) (i : Nat) (w : Exn → Option Dt) (F : Fy) (j : Nat) (a : ME (List Dt)) : MV Dt := fun s ρ => match s[i]? with
  | some (some (.o (.t P' q'))) => if P' = P ∧ q' = q then (match s[j]? with
    | some (some (.o cw)) => (match asW cw with
      | some (t, κ) => (match a s ρ with
        | some (.ok ds, ρ1) => (match F t ds with
          | some (.ok _, t') => some (.ok .none, s.set j (some (.o (κ t'))), ρ1)
          | some (.error x, t') => (match w x with
            | some d => some (.ok d, s.set j (some (.o (κ t'))), ρ1)
            | none => none)
          | none => none)
        | _ => none)
      | none => none)
    | _ => none) else none
  | _ => none
theorem xv_wordY (T : WTxt K C) {i j : Nat} {w : Exn → Option Dt} {F : Fy} {tt : TA} {a : ME (List Dt)} (hm : notF m = true) (ha : ∀ E, XA K mg E tt a) :
    XV K mg E (tLamW P q (TTw K mg w) (fun E => tMeth C m (spY K mg C false F) [] E (tVar j) tt)) (vWordY P q i w F j a) := fun Lo H0 σ G H s ρ A r s' ρ' Q hg e qk => by
  unfold vWordY at hg
  split at hg
  case h_2 => cases hg
  rename_i P' q' hi
  split at hg
  case isFalse => cases hg
  rename_i hc
  obtain ⟨rfl, rfl⟩ := hc
  split at hg
  case h_2 => cases hg
  rename_i cw hj
  split at hg
  case h_2 => cases hg
  rename_i t κ hcw
  split at hg
  case h_2 => cases hg
  rename_i ds ρ1 hq
  obtain ⟨T0, _⟩ := gr_tab (c := 0) e hi
  refine ⟨_, T0, fun c' H1 mk => ?_⟩
  obtain ⟨G1, sr, e1⟩ := made_en e hi mk
  obtain ⟨x, p, hv, hA, wa, kk⟩ := e1.watA T hj hcw
  obtain ⟨dx, vb, vf, vl, vt, kvs, h0, _⟩ := wa.ex
  refine ⟨_, hv, x, dx, _, rfl, h0, not_fld hm _ _ _ _ _, ?_⟩
  refine ha (fun cls d H' => ∃ G x dd, Gr G H' ∧ ExOk mg x cls d H' ∧ w x = some dd ∧ ∀ v G2 H2, Stp G H' G2 H2 → Dq K G2 v dd → Q v H2) Lo H0 σ G1 H1 s ρ A _ _ _ hq e1 fun vs G2 H2 s2 r2 dv => ?_
  have e2 := e1.step s2 r2
  obtain ⟨x', p', hv', hA', wa', _⟩ := e2.watA T hj hcw
  rw [hv] at hv'; cases hv'
  rw [hA] at hA'; cases hA'
  have gx := (e2.fp j x (by rw [hA]; exact List.mem_cons_self)).1
  have gp := (e2.fp j p (by rw [hA]; exact List.mem_cons_of_mem _ List.mem_cons_self)).1
  have sr2 := sr.trans (s2.sr e1.low)
  split at hg
  · rename_i d t' hF
    cases hg
    refine ⟨G2, x, p, vs, t, ds, _, by rw [List.append_nil], e2.gr, wa', gx, gp, dv, hF, fun v G3 H3 st w2 _ _ d2 => ?_⟩
    obtain ⟨a1, a2⟩ := e2.wMA hj hv hA (show SwR _ _ _ _ _ _ from st) (kk _ _ _ w2)
    exact qk .non A G3 H3 (sr2.trans a1) a2 .non
  · rename_i y t' hF
    split at hg
    case h_2 => cases hg
    rename_i d hw
    cases hg
    refine ⟨G2, x, p, vs, t, ds, _, by rw [List.append_nil], e2.gr, wa', gx, gp, dv, hF, fun c da G3 H3 st w2 _ _ hx => ?_⟩
    obtain ⟨a1, a2⟩ := e2.wMA hj hv hA (show SwR _ _ _ _ _ _ from st) (kk _ _ _ w2)
    exact ⟨G3, y, d, a2.gr, hx, hw, fun v G4 H4 st4 dv4 => qk v A G4 H4 ((sr2.trans a1).trans (st4.sq.sr a2.low)) (a2.stp st4) dv4⟩
  · cases hg
/-! ### an expression that gives a new thing of one's own -/
def XOw (K : PySem.W.Frag) (te : TE) (g : Ss → Ro → Option (Oc × Ro)) : Prop :=
  ∀ (Lo : Option Addr) (H0 : Hp) (σ : L2.St) (G H : Hp) (s : Ss) (ρ : Ro) (A : Nat → List Addr) (c : Oc) (ρ' : Ro) (Q : VK), g s ρ = some (c, ρ') → EnS K Lo H0 G H σ s ρ A →
    (∀ v fp G1 H1, Sq Lo G H G1 H1 → RwOk K Lo G1 H1 ρ' → fp.Nodup → (∀ u ∈ fp, H u = none ∧ G1 u = none ∧ H1 u ≠ none ∧ some u ≠ Lo) → OcOk K G1 H1 v fp c → Q v H1) → te σ H Q
def oNewM : Ss → Ro → Option (Oc × Ro) := fun _ ρ => some (.m [], ρ)
theorem xo_newM : XOw K tDNewK oNewM := fun Lo H0 σ G H s ρ A c ρ' Q hg e k p hp => by
  cases hg
  refine k _ [p] G _ (Stp.hid e.gr hp).sq (e.row.step (Stp.hid e.gr hp)) (List.nodup_cons.mpr ⟨List.not_mem_nil, List.nodup_nil⟩) (fun u hu => ?_) ⟨p, [], rfl, rfl, upd_same, .nil⟩
  rw [List.mem_singleton.mp hu]
  exact ⟨hp, e.gr.back hp, by rw [upd_same]; simp, e.new_lo hp⟩
/-- Watch(b) -/
def oWatch (Fb Fc : Fn) (b : ME Dt) : Ss → Ro → Option (Oc × Ro) := fun s ρ => match b s ρ with
  | some (.ok vb, ρ1) => if (isOkN (Fb [vb]) && isOkN (Fc [.int 1])) = true then some (.w ⟨vb, .int 1, .int 1, .tuple [], []⟩, ρ1) else none
  | _ => none
theorem xo_watch {Fb Fc : Fn} (T : WTxt K C) {tb : TE} {b : ME Dt} (hb : XE K mg E tb b) : XOw K (tMakeK C 1 0 (spInit K C Fb Fc) (fun us ws => us ++ [.int 1, .int 1] ++ ws) E (tCons tb tNil) tNil) (oWatch Fb Fc b) := fun Lo H0 σ G H s ρ A c ρ' Q hg e k => by
  unfold oWatch at hg
  split at hg
  case h_2 => cases hg
  rename_i db ρ1 hq
  split at hg
  case isFalse => cases hg
  rename_i hc
  cases hg
  rw [Bool.and_eq_true] at hc
  show tb σ H _
  refine hb Lo H0 σ G H s ρ A _ _ _ hq e fun vb G4 H4 s4 r4 dvb => ?_
  have e4 := e.step s4 r4
  refine ⟨rfl, rfl, fun x dx hx hdx nex => ?_⟩
  have h1 := Stp.hid (o := .own x) e4.gr hdx
  have hx' : upd H4 dx (.own x) x = none := by rw [upd_ne nex.symm]; exact hx
  have h2 := Stp.hid (o := .ins C dx []) h1.s hx'
  have h12 := h1.trans h2
  refine ⟨G4, x, dx, vb, .int 1, .int 1, db, .int 1, .int 1, rfl, h12.s, upd_same, e4.gr.back hx, dvb, .int _, .int _, isOkN_t hc.1, isOkN_t hc.2, isOkN_t hc.2, fun p G5 H5 g g' hk k5 f hp gp gx w => ?_⟩
  refine ⟨rfl, ?_⟩
  have xp : x ≠ p := fun z => by rw [z] at hx'; rw [← z, upd_same] at hp; cases hp
  have hp4 : H4 p = none := by
    cases z : H4 p with
    | none => rfl
    | some u => rw [h12.h _ _ z] at hp; cases hp
  have wx : H5 x ≠ none := by obtain ⟨_, _, _, _, _, _, h, _⟩ := w.ex; rw [h]; simp
  have wp : H5 p ≠ none := by obtain ⟨_, _, _, _, _, _, _, _, _, _, _, h, _⟩ := w.ex; rw [h]; simp
  have up : ∀ {a}, H4 a ≠ none → upd (upd H4 dx (.own x)) x (.ins C dx []) a ≠ none := fun {a} h => by
    obtain ⟨o, ho⟩ := some_of_ne h
    rw [h12.h _ _ ho]; simp
  have sq : Sq Lo G4 H4 G5 H5 := ⟨g, g', fun a o _ ha => by
    have : a ≠ x := fun z => by rw [z, hx] at ha; cases ha
    exact hk a o this (h12.h _ _ ha), fun a ha => k5 a (up ha), fun a h1 h2 => f a (up h1) h2⟩
  have row : RwOk K Lo G5 H5 ρ' := fun y hy => by
    obtain ⟨L, e1, hr⟩ := e4.row y hy
    obtain ⟨a, ea, hq⟩ := hr.at_
    have : L ≠ x := fun z => by rw [z, hx] at ea; cases ea
    exact ⟨L, e1, f L (up (ne_of_some ea)) hr.g, a, hk _ _ this (h12.h _ _ ea), gr_l g hq⟩
  refine k (.ref x) [x, p] G5 H5 (s4.trans sq) row (List.nodup_cons.mpr ⟨fun h => xp (List.mem_singleton.mp h), List.nodup_cons.mpr ⟨List.not_mem_nil, List.nodup_nil⟩⟩) (fun u hu => ?_) (w_oc T w)
  rcases List.mem_cons.mp hu with z | z
  · subst z
    exact ⟨s4.back hx, gx, wx, e4.new_lo hx⟩
  · rw [List.mem_singleton.mp z]
    exact ⟨s4.back hp4, gp, wp, e4.new_lo hp4⟩
/-- a, b, x, d = own, own, e, own: by way of a tuple -/
def fTup4 (i1 i2 i3 i4 : Nat) (g1 g2 : Ss → Ro → Option (Oc × Ro)) (a : ME Dt) (g4 : Ss → Ro → Option (Oc × Ro)) : MS := fun s ρ => match g1 s ρ with
  | some (c1, ρ1) => (match g2 s ρ1 with
    | some (c2, ρ2) => (match a s ρ2 with
      | some (.ok d, ρ3) => (match g4 s ρ3 with
        | some (c4, ρ4) => some (.nx ((((s.set i1 (some (.o c1))).set i2 (some (.o c2))).set i3 (some (.d d))).set i4 (some (.o c4))) ρ4)
        | none => none)
      | _ => none)
    | none => none)
  | none => none
theorem xs_tup4 {i1 i2 i3 i4 : Nat} {t1 t2 t3 t4 : TE} {g1 g2 g4 : Ss → Ro → Option (Oc × Ro)} {a : ME Dt} (h1 : XOw K t1 g1) (h2 : XOw K t2 g2) (ha : XE K mg E t3 a) (h4 : XOw K t4 g4) :
    XS K mg E (tAsg (tTup (tCons t1 (tCons t2 (tCons t3 (tCons t4 tNil))))) (gTup K 4 (gCons (gName i1) (gCons (gName i2) (gCons (gName i3) (gCons (gName i4) gNil)))))) (fTup4 i1 i2 i3 i4 g1 g2 a g4) := fun Lo H0 D σ G H s ρ A o hr e q => by
  unfold fTup4 at hr
  split at hr
  case h_2 => cases hr
  rename_i c1 ρ1 q1
  split at hr
  case h_2 => cases hr
  rename_i c2 ρ2 q2
  split at hr
  case h_2 => cases hr
  rename_i d ρ3 q3
  split at hr
  case h_2 => cases hr
  rename_i c4 ρ4 q4
  cases hr
  show t1 σ H _
  refine h1 Lo H0 σ G H s ρ A _ _ _ q1 e fun v1 f1 G1 H1 s1 r1 n1 p1 o1 => ?_
  have e1 := e.step s1 r1
  show t2 σ H1 _
  refine h2 Lo H0 σ G1 H1 s ρ1 A _ _ _ q2 e1 fun v2 f2 G2 H2 s2 r2 n2 p2 o2 => ?_
  have e2 := e1.step s2 r2
  show t3 σ H2 _
  refine ha Lo H0 σ G2 H2 s ρ2 A _ _ _ q3 e2 fun v3 G3 H3 s3 r3 d3 => ?_
  have e3 := e2.step s3 r3
  show t4 σ H3 _
  refine h4 Lo H0 σ G3 H3 s ρ3 A _ _ _ q4 e3 fun v4 f4 G4 H4 s4 r4 n4 p4 o4 => ?_
  have e4 := e3.step s4 r4
  refine ⟨by rw [sizeLine_eq]; show 4 ≤ 16777216; decide, fun t ht => ⟨t, _, rfl, .inl (.inl upd_same), rfl, _, _, rfl, _, _, rfl, _, _, rfl, _, _, rfl, rfl, ?_⟩⟩
  have sh : Stp G4 H4 G4 (upd H4 t (.tup [v1, v2, v3, v4])) := .hid e4.gr ht
  have e5 := e4.stp sh
  have back : ∀ {G H G' H' : Hp} {u : Addr}, Sq Lo G H G' H' → H' u = none → H u = none := fun {G H G' H' u} sq hu => by
    cases z : H u with
    | none => rfl
    | some o => exact absurd hu (sq.k u (by rw [z]; simp))
  have s24 := (s2.trans s3).trans s4
  have s34 := s3.trans s4
  have o1' := ocOk_step o1 s24.g fun u hu o ho => (s24.h u o (p1 u hu).2.2.2 ho)
  have o1'' := ocOk_step o1' (.refl G4) fun u hu o ho => sh.h u o ho
  have o2' := ocOk_step o2 s34.g fun u hu o ho => (s34.h u o (p2 u hu).2.2.2 ho)
  have o2'' := ocOk_step o2' (.refl G4) fun u hu o ho => sh.h u o ho
  have o4'' := ocOk_step o4 (.refl G4) fun u hu o ho => sh.h u o ho
  have sk : ∀ {u}, H4 u ≠ none → upd H4 t (.tup [v1, v2, v3, v4]) u ≠ none := fun {u} h => by
    obtain ⟨o, ho⟩ := some_of_ne h
    rw [sh.h _ _ ho]; simp
  have nA : ∀ {u}, H u = none → ∀ j, u ∉ A j := fun {u} hu j hj => (e.fp j u hj).2.2.1 hu
  have E1 := e5.ownL (i := i1) n1 (fun u hu => by
    obtain ⟨a1, a2, a3, a4⟩ := p1 u hu
    exact ⟨s24.f u a3 a2, e.low0 a1, sk (s24.k u a3), a4, nA a1⟩) o1''
  have E2 := E1.ownL (i := i2) n2 (fun u hu => by
    obtain ⟨a1, a2, a3, a4⟩ := p2 u hu
    have b := back s1 a1
    refine ⟨s34.f u a3 a2, e.low0 b, sk (s34.k u a3), a4, fun j => ?_⟩
    show u ∉ (if j = i1 then f1 else A j)
    split
    · exact fun z => (p1 u z).2.2.1 a1
    · exact nA b j) o2''
  have E3 := E2.setD i3 (Dqu d3 s4.g)
  have E4 := E3.ownL (i := i4) n4 (fun u hu => by
    obtain ⟨a1, a2, a3, a4⟩ := p4 u hu
    have b2 := back s3 a1
    have b1 := back s2 b2
    have b := back s1 b1
    refine ⟨a2, e.low0 b, sk a3, a4, fun j => ?_⟩
    show u ∉ (if j = i2 then f2 else if j = i1 then f1 else A j)
    split
    · exact fun z => (p2 u z).2.2.1 b2
    · split
      · exact fun z => (p1 u z).2.2.1 b1
      · exact nA b j) o4''
  exact q _ _ G4 _ ((s1.trans s24).trans sh.sq |>.sr e.low) E4
end
end Sb

/-! Seamboard, layer I3: lambdas with a default that change a watch; lists of words; methods that hand back new lists. -/
namespace Sb
open PySem PySem.Spec PyProof.Rows L2 LamX
/-- the word of a lambda with a default, whose method changes its watch -/
def vWordYD (k : Nat) (P : Addr) (q : Str) (w : Exn → Option Dt) (F : Fy) (j : Nat) (a : ME (List Dt)) : MV Dt := fun s ρ => match s[k]? with
  | some (some (.o c)) => if tabIn P q c = true then (match s[j]? with
    | some (some (.o cw)) => (match asW cw with
      | some (t, κ) => (match a s ρ with
        | some (.ok ds, ρ1) => (match F t ds with
          | some (.ok _, t') => some (.ok .none, s.set j (some (.o (κ t'))), ρ1)
          | some (.error x, t') => (match w x with
            | some d => some (.ok d, s.set j (some (.o (κ t'))), ρ1)
            | none => none)
          | none => none)
        | _ => none)
      | none => none)
    | _ => none) else none
  | _ => none
section
variable {K : PySem.W.Frag} {mg : Str → Option Value} {E : XK} {Lo : Option Addr} {H0 G H G1 H1 G2 H2 : Hp} {σ σ' : L2.St} {s : Ss} {ρ ρ' : Ro} {A : Nat → List Addr} {D : Ends} {v : V} {C : Addr} {m : Str}
theorem xv_wordYD (T : WTxt K C) {X : Cx} {P : Addr} {L : Lm} {k j : Nat} {w : Exn → Option Dt} {F : Fy} {tt : TA} {a : ME (List Dt)} (hm : notF m = true) (ha : ∀ E, XA K mg E tt a) :
    XV K mg E (tLamD X P L (TTw K mg w) (fun E => tMeth C m (spY K mg C false F) [] E (tVar j) tt)) (vWordYD k P (X.env.qual ++ "<lambda>") w F j a) := fun Lo H0 σ G H s ρ A r s' ρ' Q hg e qk => by
  unfold vWordYD at hg
  split at hg
  case h_2 => cases hg
  rename_i c hk
  split at hg
  case isFalse => cases hg
  rename_i hc
  split at hg
  case h_2 => cases hg
  rename_i cw hj
  split at hg
  case h_2 => cases hg
  rename_i t κ hcw
  split at hg
  case h_2 => cases hg
  rename_i ds ρ1 hq
  have X1 : XLam K (fun _ d c' f => ThO (X.env.qual ++ "<lambda>") X.env.cells L d c' f) (fun _ => L.dflt) P (X.env.qual ++ "<lambda>") k (tCons (tLamT X P L) tNil) [0] := xl_cons (L := L) rfl rfl rfl xl_nil
  have h := X1 Lo H0 G H σ s ρ A c (fun vs H1 => ∀ v, vs = [v] → ∃ f d c', v = V.ref f ∧ ThK X L H1 f d c' ∧ TTw K mg w (fun E H' Q' => ThK X L H' f d c' ∧ (fun E => tMeth C m (spY K mg C false F) [] E (tVar j) tt) E σ H' Q') H1 Q) e hk hc (fun vs G1 H1 sr e1 fs v ev => by
    obtain ⟨f, d0, c', hv, g1, g2, g3⟩ := fsOk_at (k := 0) fs rfl
    subst ev
    cases hv
    have TH : ThK X L H1 f d0 c' := ⟨e1.gr _ _ g1, e1.gr _ _ g2, fun z => e1.gr _ _ (g3 z)⟩
    refine ⟨f, d0, c', rfl, TH, TH, ?_⟩
    obtain ⟨x, p, hv, hA, wa, kk⟩ := e1.watA T hj hcw
    obtain ⟨dx, vb, vf, vl, vt, kvs, h0, _⟩ := wa.ex
    refine ⟨_, hv, x, dx, _, rfl, h0, not_fld hm _ _ _ _ _, ?_⟩
    refine ha (fun cls d H' => ∃ G x dd, Gr G H' ∧ ExOk mg x cls d H' ∧ w x = some dd ∧ ∀ v G2 H2, Stp G H' G2 H2 → Dq K G2 v dd → Q v H2) Lo H0 σ G1 H1 s ρ A _ _ _ hq e1 fun vs G2 H2 s2 r2 dv => ?_
    have e2 := e1.step s2 r2
    obtain ⟨x', p', hv', hA', wa', _⟩ := e2.watA T hj hcw
    rw [hv] at hv'; cases hv'
    rw [hA] at hA'; cases hA'
    have gx := (e2.fp j x (by rw [hA]; exact List.mem_cons_self)).1
    have gp := (e2.fp j p (by rw [hA]; exact List.mem_cons_of_mem _ List.mem_cons_self)).1
    have sr2 := sr.trans (s2.sr e1.low)
    split at hg
    · rename_i d t' hF
      cases hg
      refine ⟨G2, x, p, vs, t, ds, _, by rw [List.append_nil], e2.gr, wa', gx, gp, dv, hF, fun v G3 H3 st w2 _ _ d2 => ?_⟩
      obtain ⟨a1, a2⟩ := e2.wMA hj hv hA (show SwR _ _ _ _ _ _ from st) (kk _ _ _ w2)
      exact qk .non A G3 H3 (sr2.trans a1) a2 .non
    · rename_i y t' hF
      split at hg
      case h_2 => cases hg
      rename_i d hw
      cases hg
      refine ⟨G2, x, p, vs, t, ds, _, by rw [List.append_nil], e2.gr, wa', gx, gp, dv, hF, fun c da G3 H3 st w2 _ _ hx => ?_⟩
      obtain ⟨a1, a2⟩ := e2.wMA hj hv hA (show SwR _ _ _ _ _ _ from st) (kk _ _ _ w2)
      exact ⟨G3, y, d, a2.gr, hx, hw, fun v G4 H4 st4 dv4 => qk v A G4 H4 ((sr2.trans a1).trans (st4.sq.sr a2.low)) (a2.stp st4) dv4⟩
    · cases hg)
  obtain ⟨KN, T, h⟩ := h
  refine ⟨KN, T, fun d0 H1 D c' f H2 m fn hco => ?_⟩
  obtain ⟨f', d', c'', ev, T', tt⟩ := h d0 H1 D c' f H2 m fn hco _ rfl
  exact ⟨f', d', c'', ev, T', tt⟩
/-! ### lists of what may change things -/
def fOwnLV (i : Nat) (t : MV (List Dt)) : MS := fun s ρ => match t s ρ with
  | some (.ok ds, s1, ρ1) => if ds.length ≤ 100000 then some (.nx (s1.set i (some (.o (.l ds)))) ρ1) else none
  | _ => none
theorem xs_ownLV {i : Nat} {tt : TA} {t : MV (List Dt)} (ht : XVA K mg E tt t) : XS K mg E (tAsg (tLst tt) (gName i)) (fOwnLV i t) := fun Lo H0 D σ G H s ρ A o hr e q => by
  unfold fOwnLV at hr
  split at hr
  case h_2 => cases hr
  rename_i ds s1 ρ1 hq
  split at hr
  case isFalse => cases hr
  rename_i hl
  cases hr
  show tt σ H _
  refine ht Lo H0 σ G H s ρ A _ _ _ _ hq e fun vs A1 G1 H1 sr e1 dv => ?_
  refine ⟨by rw [dqs_len dv]; exact Evl.sz_of hl, fun p hp => ?_⟩
  have st := Stp.hid (o := .lst vs) e1.gr hp
  have e2 := e1.stp st
  exact q _ _ G1 _ (sr.trans (st.sq.sr e1.low)) (e2.own (e1.gr.back hp) (e1.low0 hp) upd_same (e1.new_lo hp) (e1.noA hp) ⟨p, vs, rfl, rfl, upd_same, dv⟩)
def fAppV (i : Nat) (a : MV Dt) : MS := fun s ρ => match s[i]? with
  | some (some (.o (.l _))) => (match a s ρ with
    | some (.ok d, s1, ρ1) => (match s1[i]? with
      | some (some (.o (.l xs))) => if xs.length < 100000 then some (.nx (s1.set i (some (.o (.l (xs ++ [d]))))) ρ1) else none
      | _ => none)
    | _ => none)
  | _ => none
theorem xs_appV {i : Nat} {ta : TE} {a : MV Dt} (ha : XV K mg E ta a) : XS K mg E (tDrop (tBM K "list" rAppend (tVar i) (tCons ta tNil))) (fAppV i a) := fun Lo H0 D σ G H s ρ A o hr e q => by
  unfold fAppV at hr
  split at hr
  case h_2 => cases hr
  rename_i xs0 hi
  split at hr
  case h_2 => cases hr
  rename_i d s1 ρ1 hq
  split at hr
  case h_2 => cases hr
  rename_i xs hi1
  split at hr
  case isFalse => cases hr
  rename_i hl
  cases hr
  obtain ⟨p, vs, hv, hA, hp, dv⟩ := e.lst hi
  refine ⟨_, hv, .inl ⟨rfl, _, SqL.of hp⟩, ?_⟩
  show ta σ H _
  refine ha Lo H0 σ G H s ρ A _ _ _ _ hq e fun u A1 G1 H1 sr e1 du => ?_
  obtain ⟨p2, vs2, hv2, hA2, hp2, dv2⟩ := e1.lst hi1
  rw [hv] at hv2
  cases hv2
  obtain ⟨w1, w2⟩ := e1.wlst (xs' := xs ++ [d]) (vs' := vs2 ++ [u]) hi1 hv hA2 (dqs_app dv2 (.cons du .nil))
  exact ⟨p, vs2, u, rfl, rfl, hp2, by rw [dqs_len dv2]; exact Evl.sz_lt (by omega), q _ A1 G1 _ (sr.trans w1) w2⟩
/-! ### methods that hand back a new list -/
def spYL (K : PySem.W.Frag) (C : Addr) (F : Fy) : Sp := fun vs H Q _ => ∃ G x p us t ds es, vs = .ref x :: us ∧ Gr G H ∧ WAt K G H C x p t ∧ G x = none ∧ G p = none ∧ DqAll K G us ds ∧ F t ds = some (.ok (.list es), t) ∧
  ∀ r zs G2 H2, Stp G H G2 H2 → H r = none → G2 r = none → H2 r = some (.lst zs) → DqAll K G2 zs es → Q (.ref r) H2
def runYL (np n : Nat) (g : ME (List Dt)) : Fy := fun t ds => if ds.length + 1 = np then (match g (argY n t ds) none with
  | some (.ok es, _) => some (.ok (.list es), t)
  | _ => none) else none
/-- what it hands back, or none -/
def okYL : Option (Except Exn Dt × Wt) → Option (List Dt)
  | some (.ok (.list es), _) => some es
  | _ => none
def fMethL (F : Fy) (i : Nat) (a : ME (List Dt)) : ME (List Dt) := fun s ρ => match s[i]? with
  | some (some (.o (.w w))) => bnd a (fun ds => lft (match F w ds with
    | some (.ok (.list es), _) => some es
    | _ => none)) s ρ
  | _ => none
/-- it leaves its watch as it was -/
def KeepsW (F : Fy) : Prop := ∀ t ds d t', F t ds = some (.ok d, t') → t' = t
theorem keeps_runYL {np n : Nat} {g : ME (List Dt)} : KeepsW (runYL np n g) := fun t ds d t' h => by
  unfold runYL at h
  split at h
  · split at h
    · cases h; rfl
    · cases h
  · cases h
theorem xn_methL (T : WTxt K C) {F : Fy} (hk : KeepsW F) {i : Nat} {tt : TA} {a : ME (List Dt)} (hm : notF m = true) (ha : XA K mg E tt a) : XN K mg E (tMeth C m (spYL K C F) [] E0 (tVar i) tt) (fMethL F i a) := fun Lo H0 σ G H s ρ A r ρ' Q hg e q => by
  unfold fMethL at hg
  split at hg
  case h_2 => cases hg
  rename_i w hi
  obtain ⟨x, p, hv, hA, wa⟩ := e.wat T hi
  obtain ⟨dx, vb, vf, vl, vt, kvs, h0, _⟩ := wa.ex
  refine ⟨_, hv, x, dx, _, rfl, h0, not_fld hm _ _ _ _ _, ?_⟩
  refine xjn_at ha hg e q fun vs ds G1 H1 ρ1 s1 dv hg e q => ?_
  obtain ⟨x', p', hv', hA', wa'⟩ := e.wat T hi
  rw [hv] at hv'; cases hv'
  rw [hA] at hA'; cases hA'
  have gx := (e.fp i x (by rw [hA]; exact List.mem_cons_self)).1
  have gp := (e.fp i p (by rw [hA]; exact List.mem_cons_of_mem _ List.mem_cons_self)).1
  obtain ⟨es, hz, rfl, rfl⟩ := lft_some hg
  split at hz
  case h_2 => cases hz
  rename_i es' t' hF
  cases hz
  have : t' = w := hk _ _ _ _ hF
  subst this
  exact ⟨G1, x, p, vs, t', ds, es, by rw [List.append_nil], e.gr, wa', gx, gp, dv, hF, fun r zs G2 H2 st hr gr h2 dz => q r zs G2 H2 st.sq (e.row.step st) hr gr (e.new_lo hr) h2 dz⟩
end
section
variable {P : Program} {w : World} {K : PySem.W.Frag} {mg : Str → Option Value} {base : Heap} {m qual : Str} {st : Stmt} {N ps : List Str} {k : Nat} {C : Addr}
theorem hasYL {g : ME (List Dt)} {f : Addr} {fd : FuncData} (hF : Fun K m qual st f fd) (T : WTxt K C) (S : FnScope N ps (defScope st)) (hN : 0 < N.length)
    (hb : ∀ (cdv : Value) (A : Around) (outer : List Env) (s : Shared) (H : Hp) (E : XK), Room k (A.deeper (envOfC qual (defScope st) s.heap.objs.size f cdv)) →
      ∃ te, PSs (cxOf CX0 P w K mg base N qual (defScope st) f cdv A outer s H E).nox (defBody st) (tRet te) ∧ XN K mg E0 te g) : FnOk P w K mg base CX0 (k + 1) f fd ps (spYL K C (runYL ps.length N.length g)) := by
  refine hF.ok S (fun vs H Q E h => ?_) (fun cdv A outer s H vs Q E hr h => ?_)
  · obtain ⟨G, x, p, us, t, ds, es, rfl, _, _, _, _, dv, f, _⟩ := h
    unfold runYL at f
    split at f
    · rename_i e; rw [List.length_cons, dqs_len dv, e]
    · cases f
  · obtain ⟨G, x, p, us, t, ds, es, rfl, gr, wa, gx, gp, dv, hf, q⟩ := h
    unfold runYL at hf
    split at hf
    case isFalse => cases hf
    obtain ⟨te, ht, hy⟩ := hb cdv A outer s H E hr
    refine ⟨tRet te, ht, ?_⟩
    have e0 := start_ensY N hN T gr wa gx gp dv
    split at hf
    case h_2 => cases hf
    rename_i es' ρ1 ho
    cases hf
    show te _ H _
    exact hy none (hidW H x p) _ G H _ none _ _ _ _ ho e0 fun r zs G2 H2 s2 _ hr gr2 _ h2 dz => q r zs G2 H2 s2.stp hr gr2 h2 dz
end
section
variable {X : Cx} {k : Nat} {sp : Sp} {p pos : Pos} {e : Expr} {es : List Expr} {t tk : TA} {st : Stmt} {C : Addr}
/-- Watch(board): nothing told by name -/
theorem cmkD (h : HasI X.prog X.w X.K X.mg X.base C st k sp) (hr : Room (k + 1) X.A)
    (hc : ∀ (D : Addr) (doc pm : Value) (an : Option Addr) (cdv ct : Value) (us mv ws : List Value), us.length = 2 → mv.length = 2 → ws.length = 0 →
      KwChain D ((["flip", "lie"] : List Str).zip mv) (bindArgs (PySem.W.fnOf "__init__" "Watch.__init__" (defArgs st) (defBody st) (defScope st) .none (.ref D) doc pm an cdv ct) ⟨us, ([] : List Str).zip ws⟩) ((["self", "board", "flip", "lie"] : List Str).zip (us ++ mv ++ ws)))
    (hg : Gl X "Watch") (ha : PA X (e :: es) t)
    (he : starEach (e :: es) X.env = (false, eval e X.env) :: starEach es X.env := by rfl) (hpl : ((backTo pos (starEach (e :: es) X.env)).any (·.1) || (backToKw pos (keywordEach [] X.env)).any (·.1.isNone)) = false := by rfl) :
    PE X (.Call (.Name "Watch" p) (e :: es) [] pos) (tMakeK C 1 0 sp (fun us ws => us ++ [.int 1, .int 1] ++ ws) E0 t tNil) := by
  obtain ⟨f, fd, F, M, hm, hD⟩ := h.ex
  obtain ⟨mv, hb⟩ := hD.kbinds0 (ps := ["self", "board", "flip", "lie"]) 2 ([] : List Str) [("flip", .int 1), ("lie", .int 1)] (fun us mv ws => us ++ mv ++ ws) (by simp) (fun q hq => hq) (fun a b c => (a.append b).append c) hc
  exact pe_makeK M F hr hg hm hb pass0 ha pk_nil (by rfl) (by rfl) (by decide) he hpl
end
end Sb

/-! Seamboard, layer I4: defs with a row, a watch, and lambdas of their own. -/
namespace Sb
open PySem PySem.Spec PyProof.Rows L2 LamX
/-- all stands but the table at P, the watch at x, p -/
structure SqW (P x p : Addr) (Lo : Option Addr) (G H G2 H2 : Hp) : Prop where
  g : Gr G G2
  s : Gr G2 H2
  h : ∀ a o, a ≠ P → a ≠ x → a ≠ p → some a ≠ Lo → H a = some o → H2 a = some o
  k : ∀ a, H a ≠ none → H2 a ≠ none
  f : ∀ a, H a ≠ none → G a = none → G2 a = none
abbrev Fw := Rw → Wt → List Dt → Option (Dt × Rw × Wt)
structure PreW (K : PySem.W.Frag) (C P : Addr) (q : Str) (G H : Hp) (L x p : Addr) (r : Rw) (t : Wt) : Prop where
  gr : Gr G H
  nLP : L ≠ P
  nLx : L ≠ x
  nLp : L ≠ p
  gP : G P = none
  gx : G x = none
  gp : G p = none
  tb : TabQ G H P q
  ro : RowAt K G H L r
  wa : WAt K G H C x p t
def spWTW (K : PySem.W.Frag) (C P : Addr) (q : Str) (F : Fw) : Sp := fun vs H Q _ => ∃ G L x p ws ds r t d r' t', vs = .ref L :: .ref x :: ws ∧ PreW K C P q G H L x p r t ∧ DqAll K G ws ds ∧ F r t ds = some (d, r', t') ∧
  ∀ v G2 H2, SqW P x p (some L) G H G2 H2 → TabQ G2 H2 P q → RowAt K G2 H2 L r' → WAt K G2 H2 C x p t' → Dq K G2 v d → Q v H2
open Classical in
/-- what comes out wherever the watch lies -/
noncomputable def allA2 {R : Type} (G : Addr → Addr → Option R) : Option R := if h : ∃ r, ∀ x p, G x p = some r then some h.choose else none
theorem allA2_get {R : Type} {G : Addr → Addr → Option R} {r : R} (h : allA2 G = some r) (x p : Addr) : G x p = some r := by
  unfold allA2 at h
  split at h
  case isFalse => cases h
  rename_i hh
  rw [← h]
  exact hh.choose_spec x p
theorem allA2_to {R : Type} {G : Addr → Addr → Option R} {r : R} (h : ∀ x p, G x p = some r) : allA2 G = some r := by
  have hh : ∃ r, ∀ x p, G x p = some r := ⟨r, h⟩
  have e : allA2 G = some hh.choose := by unfold allA2; rw [dif_pos hh]
  rw [e]
  have a := hh.choose_spec 0 0
  rw [h] at a
  exact a.symm
/-- what such a def does, its watch known to lie at x, p -/
def runWTX (np n : Nat) (b : Addr → Str → MS) (a : Addr → Str → MV Dt) (P : Addr) (q : Str) (x p : Addr) : Fw := fun r t ds => if ds.length + 2 = np then (match b P q ((some .row :: some (.o (.wx x p t)) :: argS (n - 1) ds).set n (some (.o (.t P q)))) (some r) with
  | some (.nx s ρ) => (match a P q s ρ with
    | some (.ok d, s', some r') => (match (s'[n]? : Option (Option Wv)) with
      | some (some (.o (.t P' q'))) => (match (s'[1]? : Option (Option Wv)) with
        | some (some (.o (.wx x' p' t'))) => if P' = P ∧ q' = q ∧ x' = x ∧ p' = p then some (d, r', t') else none
        | _ => none)
      | _ => none)
    | _ => none)
  | _ => none) else none
/-- .. wherever it lies -/
noncomputable def runWTW (np n : Nat) (b : Addr → Str → MS) (a : Addr → Str → MV Dt) (P : Addr) (q : Str) : Fw := fun r t ds => allA2 fun x p => runWTX np n b a P q x p r t ds
section
variable {K : PySem.W.Frag} {mg : Str → Option Value} {E : XK} {Lo : Option Addr} {H0 H0' G H G1 H1 G2 H2 : Hp} {σ σ' : L2.St} {s : Ss} {ρ ρ' ρ2 : Ro} {A : Nat → List Addr} {v : V} {P C : Addr} {q : Str}
theorem startW {L x p : Addr} {r : Rw} {t : Wt} {vs : List V} {ds : List Dt} {n : Nat} (T : WTxt K C) (N : List Str) (hl : N.length = n + 1) (hn : 2 ≤ n) (hle : ds.length + 2 ≤ n) (w : PreW K C P q G H L x p r t) (dv : DqAll K G vs ds) :
    EnS K (some L) (fun b => if b = P ∨ b = x ∨ b = p then none else H b) G H ((L2.start N (.ref L :: .ref x :: vs)).set n (some .non)) ((some .row :: some (.o (.wx x p t)) :: argS (n - 1) ds).set n (some (.o (.t P q)))) (some r) (fun j => if j = n then [P] else if j = 1 then [x, p] else []) := by
  have hvs := dqs_len dv
  have la : (argS (n - 1) ds).length = n - 1 := by rw [argS_e, List.length_append, List.length_map, List.length_replicate]; omega
  have ls : (L2.start N (.ref L :: .ref x :: vs)).length = n + 1 := by unfold L2.start; rw [List.length_append, List.length_map, List.length_replicate, hl, List.length_cons, List.length_cons, hvs]; omega
  obtain ⟨dx, vb, vf, vl, vt, kvs, hx, _, _, _, _, hp, _⟩ := w.wa.ex
  obtain ⟨ps, hP, _⟩ := w.tb
  obtain ⟨aL, hL, _⟩ := w.ro.at_
  have xp : x ≠ p := fun z => by rw [z, hp] at hx; cases hx
  have Px : P ≠ x := fun z => by rw [z, hx] at hP; cases hP
  have Pp : P ≠ p := fun z => by rw [z, hp] at hP; cases hP
  refine ⟨w.gr, fun z hz => ⟨L, rfl, by cases hz; exact w.ro⟩, fun L' h => ?_, fun a h => ?_, by rw [List.length_set, List.length_set, ls, List.length_cons, List.length_cons, la]; omega, fun i u hu => ?_, fun i u hu => ?_, fun i j u h1 h2 => ?_, fun i => ?_⟩
  · cases h; rw [hL]; simp
  · by_cases z : a = P ∨ a = x ∨ a = p
    · rcases z with z | z | z
      · rw [z, hP]; simp
      · rw [z, hx]; simp
      · rw [z, hp]; simp
    · rwa [if_neg z] at h
  · by_cases zn : i = n
    · subst zn
      rw [List.getElem?_set_self (by rw [List.length_cons, List.length_cons, la]; omega)] at hu
      cases hu
      exact ⟨.non, by rw [List.getElem?_set_self (by rw [ls]; omega)], by rw [if_pos rfl]; exact ⟨rfl, w.tb⟩⟩
    · rw [List.getElem?_set_ne (Ne.symm zn)] at hu
      rw [List.getElem?_set_ne (Ne.symm zn), if_neg zn]
      match i with
      | 0 => cases hu; exact ⟨.ref L, rfl, L, rfl, rfl⟩
      | 1 =>
        cases hu
        obtain ⟨dx', vb', vf', vl', vt', kvs', r'⟩ := w.wa.ex
        exact ⟨.ref x, rfl, rfl, rfl, C, dx', vb', vf', vl', vt', kvs', T.at_, r'⟩
      | i + 2 =>
        have hu' : (argS (n - 1) ds)[i]? = some (some u) := hu
        rw [argS_e] at hu'
        by_cases zd : i < ds.length
        · rw [List.getElem?_append_left (by rw [List.length_map]; exact zd), List.getElem?_map] at hu'
          cases e : ds[i]? with
          | none => rw [e] at hu'; cases hu'
          | some d =>
            rw [e] at hu'
            cases hu'
            obtain ⟨v, hv, dq⟩ := dqs_get dv e
            refine ⟨v, ?_, dq⟩
            unfold L2.start
            rw [List.map_cons, List.map_cons, List.cons_append, List.cons_append, List.getElem?_cons_succ, List.getElem?_cons_succ, List.getElem?_append_left (by rw [List.length_map, hvs]; exact zd), List.getElem?_map, hv]; rfl
        · rw [List.getElem?_append_right (by rw [List.length_map]; omega), List.getElem?_replicate] at hu'
          split at hu' <;> cases hu'
  · by_cases zn : i = n
    · rw [if_pos zn] at hu
      rw [List.mem_singleton.mp hu]
      exact ⟨w.gP, if_pos (.inl rfl), by rw [hP]; simp, fun z => w.nLP (Option.some.inj z).symm⟩
    · rw [if_neg zn] at hu
      by_cases z1 : i = 1
      · rw [if_pos z1] at hu
        rcases List.mem_cons.mp hu with z | z
        · rw [z]; exact ⟨w.gx, if_pos (.inr (.inl rfl)), by rw [hx]; simp, fun z => w.nLx (Option.some.inj z).symm⟩
        · rw [List.mem_singleton.mp z]; exact ⟨w.gp, if_pos (.inr (.inr rfl)), by rw [hp]; simp, fun z => w.nLp (Option.some.inj z).symm⟩
      · rw [if_neg z1] at hu; cases hu
  · have key : ∀ {i}, u ∈ (if i = n then [P] else if i = 1 then [x, p] else []) → (i = n ∧ u = P) ∨ (i = 1 ∧ (u = x ∨ u = p)) := fun {i} h => by
      by_cases zn : i = n
      · rw [if_pos zn] at h; exact .inl ⟨zn, List.mem_singleton.mp h⟩
      · rw [if_neg zn] at h
        by_cases z1 : i = 1
        · rw [if_pos z1] at h
          rcases List.mem_cons.mp h with z | z
          · exact .inr ⟨z1, .inl z⟩
          · exact .inr ⟨z1, .inr (List.mem_singleton.mp z)⟩
        · rw [if_neg z1] at h; cases h
    rcases key h1 with ⟨a, b⟩ | ⟨a, b⟩ <;> rcases key h2 with ⟨c, d⟩ | ⟨c, d⟩
    · rw [a, c]
    · rcases d with d | d
      · exact absurd (b.symm.trans d) Px
      · exact absurd (b.symm.trans d) Pp
    · rcases b with b | b
      · exact absurd (d.symm.trans b) Px
      · exact absurd (d.symm.trans b) Pp
    · rw [a, c]
  · by_cases zn : i = n
    · rw [if_pos zn]; exact List.nodup_cons.mpr ⟨List.not_mem_nil, List.nodup_nil⟩
    · rw [if_neg zn]
      by_cases z1 : i = 1
      · rw [if_pos z1]; exact List.nodup_cons.mpr ⟨fun h => xp (List.mem_singleton.mp h), List.nodup_cons.mpr ⟨List.not_mem_nil, List.nodup_nil⟩⟩
      · rw [if_neg z1]; exact List.nodup_nil
theorem goWTW {t1 : TS} {te : TE} {b : Addr → Str → MS} {a : Addr → Str → MV Dt} {vs : List V} {N : List Str} {np n : Nat} {Q : VK} {nx : L2.St → Hp → Prop} (T : WTxt K C) (hl : N.length = n + 1) (hn2 : 2 ≤ n) (hnp : np ≤ n) (hb : XS K mg E0 t1 (b P q)) (ha : XV K mg E0 te (a P q)) (h : spWTW K C P q (runWTW np n b a P q) vs H Q E0) :
    tSeq t1 (tRet te) { nx := nx, rt := Q } ((L2.start N vs).set n (some .non)) H := by
  obtain ⟨G, L, x, p, ws, ds, r, t, d, r', t', rfl, w, dv, hF, k⟩ := h
  replace hF : runWTX np n b a P q x p r t ds = some (d, r', t') := allA2_get hF x p
  unfold runWTX at hF
  split at hF
  case isFalse => cases hF
  rename_i hn
  split at hF
  case h_2 => cases hF
  rename_i s1 ρ1 hb1
  split at hF
  case h_2 => cases hF
  rename_i d' s2 r2' ha1
  split at hF
  case h_2 => cases hF
  rename_i P' q' hs2
  split at hF
  case h_2 => cases hF
  rename_i x' p' t2 hs1
  split at hF
  case isFalse => cases hF
  rename_i hc
  obtain ⟨rfl, rfl, rfl, rfl⟩ := hc
  cases hF
  have e0 := startW (n := n) T N hl hn2 (by omega) w dv
  refine hb (some L) _ _ _ G H _ _ _ _ hb1 e0 fun σ1 A1 G1 H1 r1 e1 => ?_
  show te σ1 H1 _
  refine ha (some L) _ σ1 G1 H1 s1 ρ1 A1 _ _ _ _ ha1 e1 fun v A2 G2 H2 r2 e2 dv2 => ?_
  obtain ⟨L', eL, ro2⟩ := e2.row r' rfl
  cases eL
  have sr := r1.trans r2
  obtain ⟨u, hu, hf, tq⟩ := e2.at_ n _ hs2
  obtain ⟨u1, hu1, e1', hA, C', dx, vb, vf, vl, vt, kvs, e0', rest⟩ := e2.at_ 1 _ hs1
  cases T.same e0'
  have fx := fun y (hy : y ∈ A2 1) => (e2.fp 1 y hy).1
  have gx2 : G2 x' = none := fx x' (by rw [hA]; exact List.mem_cons_self)
  have gp2 : G2 p' = none := fx p' (by rw [hA]; exact List.mem_cons_of_mem _ List.mem_cons_self)
  have gP2 : G2 P' = none := (e2.fp n P' (by rw [hf]; exact List.mem_cons_self)).1
  refine k v G2 H2 ⟨sr.g, sr.s, fun a o n1 n2 n3 m h => sr.h a o m (by rw [if_neg (by rintro (z | z | z) <;> contradiction), h]; simp) h, sr.k, fun a h1 h2 => ?_⟩ tq ro2 ⟨dx, vb, vf, vl, vt, kvs, rest⟩ dv2
  by_cases z : a = P' ∨ a = x' ∨ a = p'
  · rcases z with z | z | z
    · rw [z]; exact gP2
    · rw [z]; exact gx2
    · rw [z]; exact gp2
  · exact sr.f a (by rw [if_neg z]; exact h1) h2
theorem spWTW_len {np n : Nat} {b : Addr → Str → MS} {a : Addr → Str → MV Dt} {vs : List V} {Q : VK} {E : XK} (h : spWTW K C P q (runWTW np n b a P q) vs H Q E) : vs.length = np := by
  obtain ⟨G, L, x, p, ws, ds, r, t, d, r', t', rfl, w, dv, hF, k⟩ := h
  replace hF : runWTX np n b a P q x p r t ds = some (d, r', t') := allA2_get hF x p
  unfold runWTX at hF
  split at hF
  case isFalse => cases hF
  rename_i hn
  rw [List.length_cons, List.length_cons, dqs_len dv]; exact hn
/-! ### such a def is called -/
def fCallRTW (P : Addr) (q : Str) (F : Fw) (i k j : Nat) (t : ME (List Dt)) : MV Dt := fun s ρ => match (s[i]? : Option (Option Wv)) with
  | some (some .row) => (match (s[k]? : Option (Option Wv)) with
    | some (some (.o (.w w))) => (match (s[j]? : Option (Option Wv)) with
      | some (some (.o (.t P' q'))) => if P' = P ∧ q' = q then (match t s ρ with
        | some (.ok ds, some x) => (match F x w ds with
          | some (d, x', w') => some (.ok d, s.set k (some (.o (.w w'))), some x')
          | none => none)
        | _ => none) else none
      | _ => none)
    | _ => none)
  | _ => none
theorem EnS.sqW {k j : Nat} {t t' : Wt} {x p : Addr} (T : WTxt K C) (e : EnS K Lo H0 G H σ s ρ A) (hk : s[k]? = some (some (.o (.w t)))) (hA : A k = [x, p]) (hv : σ[k]? = some (some (.ref x))) (hj : s[j]? = some (some (.o (.t P q)))) (r : SqW P x p Lo G H G2 H2) (tq : TabQ G2 H2 P q) (w : WAt K G2 H2 C x p t') (row : RwOk K Lo G2 H2 ρ2) :
    Sr Lo H0 G H G2 H2 ∧ EnS K Lo H0 G2 H2 σ (s.set k (some (.o (.w t')))) ρ2 A := by
  have ix : x ∈ A k := by rw [hA]; exact List.mem_cons_self
  have ip : p ∈ A k := by rw [hA]; exact List.mem_cons_of_mem _ List.mem_cons_self
  obtain ⟨uj, huj, hf, _⟩ := e.at_ j _ hj
  have iP : P ∈ A j := by rw [hf]; exact List.mem_cons_self
  obtain ⟨x1, x2, x3, x4⟩ := e.fp k x ix
  obtain ⟨p1, p2, p3, p4⟩ := e.fp k p ip
  obtain ⟨P1, P2, P3, P4⟩ := e.fp j P iP
  refine ⟨⟨r.g, r.s, fun a o n m h => r.h a o (fun z => m (by rw [z]; exact P2)) (fun z => m (by rw [z]; exact x2)) (fun z => m (by rw [z]; exact p2)) n h, r.k, fun a h1 h2 => r.f a (e.low a h1) h2⟩, r.s, row, fun L h => r.k L (e.lo L h), fun a h => r.k a (e.low a h), by rw [List.length_set]; exact e.len, fun i u hu => ?_, fun i y hy => ?_, e.dj, e.nd⟩
  · by_cases zk : i = k
    · subst zk
      have hl : i < s.length := (List.getElem?_eq_some_iff.mp hk).1
      rw [List.getElem?_set_self hl] at hu
      cases hu
      refine ⟨.ref x, hv, ?_⟩
      rw [hA]
      exact w_oc T w
    · rw [List.getElem?_set_ne (Ne.symm zk)] at hu
      by_cases zj : i = j
      · subst zj
        rw [hj] at hu
        cases hu
        obtain ⟨v, a, b, c⟩ := e.at_ i _ hj
        exact ⟨v, a, b, tq⟩
      · obtain ⟨v, a, b⟩ := e.at_ i u hu
        exact ⟨v, a, wvOk_step b r.g fun y hy o ho => r.h y o (fun z => zj (e.dj i j y hy (by rw [z]; exact iP))) (fun z => zk (e.dj i k y hy (by rw [z]; exact ix))) (fun z => zk (e.dj i k y hy (by rw [z]; exact ip))) (e.fp i y hy).2.2.2 ho⟩
  · obtain ⟨a1, a2, a3, a4⟩ := e.fp i y hy
    exact ⟨r.f y a3 a1, a2, r.k y a3, a4⟩
theorem xv_callRTW (T : WTxt K C) {F : Fw} {i k j : Nat} {tt : TA} {t : ME (List Dt)} (ht : XA K mg E tt t) : XV K mg E (tCall (spWTW K C P q F) [] E0 (tCons (tVar i) (tCons (tVar k) tt))) (fCallRTW P q F i k j t) := fun Lo H0 σ G H s ρ A r s' ρ' Q hg e qk => by
  unfold fCallRTW at hg
  split at hg
  case h_2 => cases hg
  rename_i hi
  split at hg
  case h_2 => cases hg
  rename_i w hk
  split at hg
  case h_2 => cases hg
  rename_i P' q' hj
  split at hg
  case isFalse => cases hg
  rename_i hc
  obtain ⟨rfl, rfl⟩ := hc
  split at hg
  case h_2 => cases hg
  rename_i ds x1 hts
  split at hg
  case h_2 => cases hg
  rename_i d x2 w' hF
  cases hg
  obtain ⟨vr, hvr, L, eLo, evr⟩ := e.at_ i _ hi
  refine ⟨vr, hvr, ?_⟩
  obtain ⟨x, p, hv, hA, wa⟩ := e.wat T hk
  refine ⟨_, hv, ?_⟩
  show tt σ H _
  refine ht Lo H0 σ G H s ρ A _ _ _ hts e fun vs G1 H1 s1 r1 dv => ?_
  have e1 := e.step s1 r1
  obtain ⟨x', p', hv', hA', wa'⟩ := e1.wat T hk
  rw [hv] at hv'; cases hv'
  rw [hA] at hA'; cases hA'
  obtain ⟨v, hvj, hf, t1⟩ := e1.at_ j _ hj
  obtain ⟨gP, h0P, hPn, loP⟩ := e1.fp j P' (by rw [hf]; exact List.mem_cons_self)
  obtain ⟨gx, _, _, lox⟩ := e1.fp k x (by rw [hA]; exact List.mem_cons_self)
  obtain ⟨gp, _, _, lop⟩ := e1.fp k p (by rw [hA]; exact List.mem_cons_of_mem _ List.mem_cons_self)
  obtain ⟨L', eL', ro⟩ := r1 x1 rfl
  rw [eLo] at eL'
  cases eL'
  have ne : ∀ {y : Addr}, some y ≠ Lo → L ≠ y := fun {y} h z => h (by rw [← z]; exact eLo.symm)
  refine ⟨G1, L, x, p, vs, ds, x1, w, d, x2, w', by rw [evr, List.append_nil], ⟨e1.gr, ne loP, ne lox, ne lop, gP, gx, gp, t1, ro, wa'⟩, dv, hF, fun v G2 H2 sp tq ro2 w2 dv2 => ?_⟩
  have sp' : SqW P' x p Lo G1 H1 G2 H2 := by rw [eLo]; exact sp
  have row : RwOk K Lo G2 H2 (some x2) := fun y hy => by cases hy; exact ⟨L, eLo, ro2⟩
  obtain ⟨a, b⟩ := e1.sqW T hk hA hv hj sp' tq w2 row
  exact qk v A G2 H2 ((s1.sr e.low).trans a) b dv2
end
end Sb

/-! Seamboard, layer I5: methods that raise; calls whose arguments change things. -/
namespace Sb
open PySem PySem.Spec PyProof.Rows L2 LamX
section
variable {K : PySem.W.Frag} {mg : Str → Option Value} {E : XK}
def yErr0 (n : Str) : MY := fun s ρ => some (.er ⟨n, none⟩ s ρ)
theorem ys_err0 {pr : Bool} {n : Str} {C : Addr} (hm : mg n = some (.ref C)) : YS K mg E pr (tErr0 E C) (yErr0 n) := fun x p H0 D σ G H s ρ A o h e hA q => by
  cases h
  exact q σ (.ref C) none G H (.of (.refl e.gr)) e rfl ⟨hm, rfl⟩
def vCall (F : Fn) (t : MV (List Dt)) : MV Dt := vBnd t fun ds s ρ => match F ds with
  | some (.ok d) => some (.ok d, s, ρ)
  | _ => none
theorem xv_call {F : Fn} {tt : TA} {t : MV (List Dt)} (ht : XVA K mg E tt t) : XV K mg E (tCall (spF K mg F) [] E0 tt) (vCall F t) := fun Lo H0 σ G H s ρ A r s' ρ' Q hg e q => by
  show tt σ H _
  refine xv_at ht hg e q fun vs ds A1 G1 H1 s1 ρ1 sr1 dv hg e q => ?_
  split at hg
  case h_2 => cases hg
  rename_i d hF
  cases hg
  exact ⟨G1, ds, .ok d, e.gr, by rw [List.append_nil]; exact dv, hF, fun v G2 H2 st d2 => q v A1 G2 H2 (st.sq.sr e.low) (e.stp st) d2⟩
end
end Sb

namespace Sb
open PySem PySem.Spec PyProof.Rows L2
open LamX
def wns : List Str := ["BadFlips", "BadLit", "BadFaces", "BadCosts", "BadTold", "BadStory", "BadText", "BadBoard", "BadCount", "Odd", "TooMany", "BadName", "NoPoint"]
def f_word (a : Addr) (d : Option Addr) (x : Exn) : MS := (fSeq (fOwn 2 (fLst (fCons (fIsE a d x 1 "BadFlips") (fCons (fIsE a d x 1 "BadLit") (fCons (fIsE a d x 1 "BadFaces") (fCons (fIsE a d x 1 "BadCosts") fNil))))))
  (fSeq (fFz 2 (fOwn 2 (fOpN oCat (fVar 2) (fN (fLst (fCons (fIsE a d x 1 "BadTold") (fCons (fIsE a d x 1 "BadStory") (fCons (fIsE a d x 1 "BadText") fNil))))))))
  (fSeq (fApp 2 (fIsE a d x 1 "BadBoard"))
  (fSeq (fFz 2 (fOwn 2 (fOpN oCat (fVar 2) (fN (fLst (fCons (fIsE a d x 1 "BadCount") (fCons (fIsE a d x 1 "Odd") (fCons (fIsE a d x 1 "TooMany") (fCons (fIsE a d x 1 "BadName") fNil)))))))))
  (fSeq (fApp 2 (fIsE a d x 1 "NoPoint"))
  (fSeq (fFz 2 (fIfS (fOr (fB (fOp oNe (fCountB (fVar 2) (fCons (ret (.bool true)) fNil)) (ret (.int 1)))) (fNot (fB (fIsV a d 1))))
    (fRet (fTup (fCons (ret (.str "other")) fNil))) fNext))
  (fSeq (fFz 2 (fAsg (fIndexL (fVar 2) (fCons (ret (.bool true)) fNil)) (fgName 3)))
  (fSeq (fAsg (fOp oIxL (fN (fLst (fCons (ret (.str "flips")) (fCons (ret (.str "lit")) (fCons (ret (.str "faces")) (fCons (ret (.str "costs")) (fCons (ret (.str "told")) (fCons (ret (.str "story")) (fCons (ret (.str "text")) (fCons (ret (.str "board")) fNil)))))))))) (fCB oMin2 (fCons (fVar 3) (fCons (ret (.int 7)) fNil)))) (fgName 4))
  (fSeq (fIfS (fB (fOp oGt (fVar 3) (ret (.int 7))))
    (fRet (fTup (fCons (fOp oIxL (fN (fLst (fCons (ret (.str "count")) (fCons (ret (.str "odd")) (fCons (ret (.str "many")) (fCons (ret (.str "name")) (fCons (ret (.str "point")) fNil))))))) (fOp oSub (fVar 3) (ret (.int 8)))) fNil))) fNext)
  (fSeq (fIfS (fB (fOp oEq (fVar 3) (ret (.int 6))))
    (fRet (fTup (fCons (fVar 4) (fCons (fExA a d 1 "row") fNil)))) fNext)
  (fRet (fIf (fB (fOp oLt (fVar 3) (ret (.int 4)))) (fTup (fCons (fVar 4) (fCons (fExA a d 1 "place") fNil))) (fIf (fB (fOp oLt (fVar 3) (ret (.int 6)))) (fTup (fCons (fVar 4) (fCons (fExA a d 1 "number") fNil))) (fTup (fCons (fVar 4) fNil)))))))))))))))
def wordD (x : Exn) : Option Dt := match x.p with
  | none => if x.c = "BadBoard" then some (.tuple [.str "board"]) else if x.c = "BadCount" then some (.tuple [.str "count"]) else if x.c = "Odd" then some (.tuple [.str "odd"]) else if x.c = "TooMany" then some (.tuple [.str "many"]) else if x.c = "BadName" then some (.tuple [.str "name"]) else if x.c = "NoPoint" then some (.tuple [.str "point"]) else none
  | some (g, i) => if x.c = "BadFlips" ∧ g = "place" then some (.tuple [.str "flips", .int i]) else if x.c = "BadLit" ∧ g = "place" then some (.tuple [.str "lit", .int i]) else if x.c = "BadFaces" ∧ g = "place" then some (.tuple [.str "faces", .int i]) else if x.c = "BadCosts" ∧ g = "place" then some (.tuple [.str "costs", .int i]) else if x.c = "BadTold" ∧ g = "number" then some (.tuple [.str "told", .int i]) else if x.c = "BadStory" ∧ g = "number" then some (.tuple [.str "story", .int i]) else if x.c = "BadText" ∧ g = "row" then some (.tuple [.str "text", .int i]) else none
def dW (kn : List Str) (x : Exn) : Option Dt := if x.c ∈ kn then wordD x else none
def g_marks : ME (List Dt) := (fLc (fItL (fN (fPsortA 0))) (fgName 1) (ret true) (fTup (fCons (fVar 1) (fCons (fCB oLen (fCons (fPget 0 (fVar 1)) fNil)) fNil))) [1])
def YL_marks : Fy := runYL 1 2 g_marks
def g_told : ME (List Dt) := (fCBN oListOf (fCons (fFld 0 .t) fNil))
def YL_told : Fy := runYL 1 1 g_told
def x_require_lit : MS := (fSeq (fAsg (fCall F_first_misplaced (fCons (fVar 1) (fCons (fCall F_site_count (fCons (fVar 0) fNil)) fNil))) (fgName 2))
  (fIfS (fB (fOp oNotN (fVar 2) (ret .none)))
    (fErr "BadLit" "place" (fVar 2)) fNext))
def X_require_lit : Fn := runX 2 3 x_require_lit
def xy_w_beat : MY := (ySeq (yDrop (fCall X_require_lit (fCons (fFld 0 .b) (fCons (fVar 1) fNil))))
  (ySeq (yIf (fB (fOp oEq (fCB oLen (fCons (fFld 0 .t) fNil)) (ret (.int 5)))) (yErr0 "TooMany") yNext)
  (ySeq (ySetT (fTup (fStar (fFld 0 .t) (fCons (fVar 1) fNil))))
  (yRet (fCB oLen (fCons (fFld 0 .t) fNil))))))
def X_w_beat : Fy := runY 2 2 xy_w_beat
def xy_w_mark : MY := (ySeq (yIf (fNot (fB (fCall F_is_name (fCons (fVar 1) fNil)))) (yErr0 "BadName") yNext)
  (yMark 1))
def X_w_mark : Fy := runY 2 2 xy_w_mark
def xy_w_go : MY := (ySeq (yIf (fOr (fNot (fB (fIsi "str" (fVar 1)))) (fB (fPni 0 (fVar 1)))) (yErr0 "NoPoint") yNext)
  (ySetT (fPget 0 (fVar 1))))
def X_w_go : Fy := runY 2 2 xy_w_go
def kn : List Str := ["BadLit", "TooMany", "BadName", "NoPoint"]
def b__law_refuses (P : Addr) (q : Str) : MS := (fSeq (fSeq (fAsg (fOp oIxL (fN (fLst (fCons (ret (.str "")) (fCons (ret (.str "A")) (fCons (ret (.str "abcdefghi")) (fCons (ret (.str "a b")) (fCons (ret (.int 5)) (fCons (ret .none) (fCons (ret (.bool true)) (fCons (fTup (fCons (ret (.str "a")) fNil)) fNil)))))))))) (fCallR F__law_taken 0 (fCons (ret (.int 8)) fNil))) (fgName 3))
    (fOwnLV 4 (vCons (vWordY P q 5 (dW kn) X_w_mark 1 (fCons (fVar 3) fNil)) (vCons (vWordYD 5 P q (dW kn) X_w_go 1 (fCons (fVar 3) fNil)) vNil))))
    (fAppV 4 (vWordY P q 5 (dW kn) X_w_beat 1 (fCons (fTup (fCons (fVar 2) fNil)) fNil))))
def a__law_refuses (P : Addr) (q : Str) : MV Dt := (vOf (fLook (fOp oEq (fVar 4) (fN (fLst (fCons (fTup (fCons (ret (.str "name")) fNil)) (fCons (fTup (fCons (ret (.str "point")) fNil)) (fCons (fTup (fCons (ret (.str "lit")) (fCons (ret (.int 0)) fNil))) fNil))))))))
noncomputable def F__law_refuses (P : Addr) (q : Str) : Fw := runWTW 3 5 b__law_refuses a__law_refuses P q
noncomputable def f_law (P : Addr) (q : Str) (LO : Nat → Addr → Addr → Addr → HO) (df : Nat → Bool) (P1 : Addr) (q1 : Str) : MS := (fSeq (fAsg (fCallR F__law_board 1 (fCons (ret (.int 5)) fNil)) (fgName 2))
  (fSeq (fAsg (fOp oMul (fOp oIxT (fVar 2) (ret (.int 0))) (fOp oIxT (fVar 2) (ret (.int 1)))) (fgName 3))
  (fSeq (fTup4 4 5 6 7 (oWatch F_require_board F_require_count (fVar 2)) (oWatch F_require_board F_require_count (fVar 2)) (fTup fNil) oNewM)
  (fSeq (fFor (fRng1 (fCons (fCallR F__law_taken 1 (fCons (fOp oIxL (fN (fLst (fCons (ret (.int 13)) (fCons (ret (.int 40)) fNil)))) (fCallR F__law_taken 1 (fCons (ret (.int 2)) fNil))) fNil)) fNil)) (fgName 8)
    (fSeq (fAsg (fTup (fCons (fCallR F__law_taken 1 (fCons (ret (.int 7)) fNil)) (fCons (fCallR F__law_some 1 (fCons (fVar 3) (fCons (ret (.int 4)) fNil))) fNil))) (fgTup 2 (fgCons (fgName 9) (fgCons (fgName 10) fgNil))))
  (fSeq (fAsg (fOp oIxL (fN (fLst (fCons (ret (.str "a")) (fCons (ret (.str "b")) (fCons (ret (.str "abcdefgh")) (fCons (ret (.str "z")) fNil)))))) (fCallR F__law_taken 1 (fCons (ret (.int 4)) fNil))) (fgName 11))
  (fSeq (fIfS (fB (fOp oLt (fVar 9) (ret (.int 3))))
    (fSeq (fAsg (fIf (fB (fOp oEq (fCB oLen (fCons (fVar 6) fNil)) (ret (.int 5)))) (fTup (fCons (ret (.str "many")) fNil)) (ret .none)) (fgName 12))
  (fSeq (fIfV (vB (vOp oNe (vWordY P q 0 (dW kn) X_w_beat 4 (fCons (fVar 10) fNil)) (vOf (fVar 12))))
    (fRet (ret (.bool false))) fNext)
  (fSeq (fAsg (fOp oCatT (fVar 6) (fOp oRepT (fTup (fCons (fVar 10) fNil)) (fCB oInt (fCons (fOp oIsN (fVar 12) (ret .none)) fNil)))) (fgName 6))
  (fIfV (vAnd (vOf (fB (fOp oIsN (fVar 12) (ret .none)))) (vAnd (vB (vMeth Y_back 4 fNil)) (vB (vOp oNe (vMeth Y_beat 4 (fCons (fVar 10) fNil)) (vOf (fCB oLen (fCons (fVar 6) fNil)))))))
    (fRet (ret (.bool false))) fNext)))) (fIfS (fB (fOp oEq (fVar 9) (ret (.int 3))))
    (fSeq (fIfV (vB (vOp oNe (vMeth Y_back 4 fNil) (vOf (fOp oNe (fVar 6) (fTup fNil)))))
    (fRet (ret (.bool false))) fNext)
  (fAsg (fSlT (fVar 6) fNo (fSo (fUn oNeg (ret (.int 1))))) (fgName 6))) (fIfS (fB (fOp oEq (fVar 9) (ret (.int 4))))
    (fSeq (fDropV (vMeth Y_mark 4 (fCons (fVar 11) fNil)))
  (fDputO 7 (fVar 11) (fVar 6))) (fIfS (fB (fOp oEq (fVar 9) (ret (.int 5))))
    (fSeq (fIfV (vB (vOp oNe (vWordY P q 0 (dW kn) X_w_go 4 (fCons (fVar 11) fNil)) (vOf (fIf (fB (fDinO 7 (fVar 11))) (ret .none) (fTup (fCons (ret (.str "point")) fNil))))))
    (fRet (ret (.bool false))) fNext)
  (fAsg (fDget2O 7 (fVar 11) (fVar 6)) (fgName 6))) (fIfV (vNot (vB (fCallRTW P1 q1 (F__law_refuses P1 q1) 1 4 16 (fCons (fVar 3) fNil))))
    (fRet (ret (.bool false))) fNext)))))
  (fFor (fRng1 (fCons (ret (.int 2)) fNil)) (fgName 13)
    (fSeq (fLitLL 14 (fMethL YL_told 4 fNil) (fMethL YL_marks 4 fNil))
  (fSeq (fIfS (fLookT2 (fNot (fB (fCall F__law_alike (fCons (fVar 14) (fCons (fN (fLst (fCons (fN (fCBN oListOf (fCons (fVar 6) fNil))) (fCons (fN (fLc (fItL (fN (fDsort 7))) (fgName 15) (ret true) (fTup (fCons (fVar 15) (fCons (fCB oLen (fCons (fDgetS 7 (fVar 15)) fNil)) fNil))) [15])) fNil)))) fNil))))))
    (fRet (ret (.bool false))) fNext)
  (fSeq (fAppLL 14 (ret (.int 0)) (ret (.int 5)))
  (fAppLL 14 (ret (.int 1)) (ret (.int 5)))))))))))
  (fRetV (vCall F__law_alike (vCons (vLst (vCons (vOf (fN (fMethL YL_told 5 fNil))) (vCons (vOf (fN (fMethL YL_marks 5 fNil))) (vCons (vMeth Y_back 5 fNil) vNil)))) (vCons (vOf (fN (fLst (fCons (fN (fLst fNil)) (fCons (fN (fLst fNil)) (fCons (ret (.bool false)) fNil)))))) vNil))))))))
/-- what there is at the law's start, behind its row -/
def lawS (P : Addr) (q : Str) (P1 : Addr) (q1 : Str) : Ss := (some (.o (.t P q)) :: some .row :: List.replicate 14 none) ++ [some (.o (.t P1 q1))]
end Sb

/-! Seamboard: what a watch does, any beats and points (k12). -/
namespace Sb
open PySem PySem.Spec PyProof.Rows L2
variable {r c : Nat}
theorem cut_init2 {l : List Dt} {x : Dt} : cutD (l ++ [x]) none (some (-1)) = l := by
  have e1 : HT.sIx (l ++ [x]).length (l ++ [x]).length (some (-1)) = l.length := by
    show (if (-1 : Int) < 0 then ((-1 : Int) + (((l ++ [x]).length : Nat) : Int)).toNat else min (-1 : Int).toNat (l ++ [x]).length) = _
    rw [if_pos (by decide), List.length_append]
    show ((-1 : Int) + ((l.length + 1 : Nat) : Int)).toNat = _
    omega
  unfold cutD
  rw [HT.sIx_none, e1, List.drop_zero, Nat.sub_zero, List.take_left']
  rfl
/-- beats as a watch holds them -/
structure BT (r c : Nat) (ds : List Dt) : Prop where
  len : ds.length ≤ 5
  at_ : ∀ d ∈ ds, ∃ g, d = ti (sel (r * c) g)
theorem BT.nil : BT r c [] := ⟨Nat.zero_le _, fun d h => nomatch h⟩
theorem BT.shaped {ds : List Dt} (h : BT r c ds) : SeqAt.shaped (.tuple ds) = true := shaped_tup (m := 1) (by decide) fun d hd => by
  obtain ⟨g, rfl⟩ := h.at_ d hd
  exact small_ti _
theorem BT.add {ds : List Dt} (h : BT r c ds) (h5 : ds.length < 5) (g : Nat → Bool) : BT r c (ds ++ [ti (sel (r * c) g)]) := ⟨by rw [List.length_append]; show _ + 1 ≤ 5; omega, fun d hd => by
  rcases List.mem_append.mp hd with z | z
  · exact h.at_ d z
  · exact ⟨g, List.mem_singleton.mp z⟩⟩
theorem BT.drop {ds : List Dt} {d : Dt} (h : BT r c (ds ++ [d])) : BT r c ds := ⟨by have := h.len; rw [List.length_append] at this; omega, fun x hx => h.at_ x (List.mem_append_left _ hx)⟩
theorem eqv_nil : ∀ ds : List Dt, PyData.eqv (.tuple ds) (.tuple []) = decide (ds = [])
  | [] => rfl
  | d :: ds => by rw [decide_eq_false (by simp)]; rfl
theorem BT.eq_nil {ds : List Dt} (h : BT r c ds) : oEq (.tuple ds) (.tuple []) = some (.bool (decide (ds = []))) := by
  rw [oEq_e (by rw [h.shaped]; rfl), eqv_nil]
theorem BT.ne_nil {ds : List Dt} (h : BT r c ds) : oNe (.tuple ds) (.tuple []) = some (.bool (!decide (ds = []))) := by
  rw [oNe_e (by rw [h.shaped]; rfl), eqv_nil]
section
variable (b f l : Dt) (ps : List (Str × Dt))
theorem n_back0 : Y_back ⟨b, f, l, .tuple [], ps⟩ [] = some (.ok (.bool false), ⟨b, f, l, .tuple [], ps⟩) := w_back0 b f l ps
theorem n_back {ds : List Dt} {d : Dt} (h : BT r c (ds ++ [d])) : Y_back ⟨b, f, l, .tuple (ds ++ [d]), ps⟩ [] = some (.ok (.bool true), ⟨b, f, l, .tuple ds, ps⟩) := by
  have e : oEq (.tuple (ds ++ [d])) (.tuple []) = some (.bool false) := by rw [h.eq_nil, decide_eq_false (by simp)]
  have g : fB (fOp oEq (fFld 0 .t) (fTup fNil)) [some (.o (.w ⟨b, f, l, .tuple (ds ++ [d]), ps⟩))] none = some (.ok false, none) := fB_to (fOp_to (x := .tuple (ds ++ [d])) (y := .tuple []) rfl rfl e)
  refine runYn_rt (s := []) (ρ := none) rfl ?_
  show y_back [some (.o (.w ⟨b, f, l, .tuple (ds ++ [d]), ps⟩))] none = _
  unfold y_back
  refine (ySeq_to (s1 := [some (.o (.w ⟨b, f, l, .tuple (ds ++ [d]), ps⟩))]) (ρ1 := none) ((yIf_f g).trans rfl)).trans ?_
  refine (ySeq_to (s1 := [some (.o (.w ⟨b, f, l, .tuple ds, ps⟩))]) (ρ1 := none) ?_).trans rfl
  have e2 : fSlT (fFld 0 .t) fNo (fSo (fUn oNeg (ret (.int 1)))) [some (.o (.w ⟨b, f, l, .tuple (ds ++ [d]), ps⟩))] none = some (.ok (.tuple (cutD (ds ++ [d]) none (some (-1)))), none) := rfl
  rw [cut_init2] at e2
  exact (yOut_to e2).trans rfl
end
/-- the program's way of one more beat, up to its test -/
theorem len5 {ds : List Dt} (b f l : Dt) (ps : List (Str × Dt)) (x : Option Wv) : fB (fOp oEq (fCB oLen (fCons (fFld 0 .t) fNil)) (ret (.int 5))) [some (.o (.w ⟨b, f, l, .tuple ds, ps⟩)), x] none = some (.ok (decide (ds.length = 5)), none) := by
  refine fB_to (fOp_to (x := .int (ds.length : Nat)) (y := .int 5) (ρ1 := none) ?_ rfl ?_)
  · rw [fCB_e]
    exact (bnd_to (x := [.tuple ds]) (ρ1 := none) rfl).trans rfl
  · show some (PyData.bool ((ds.length : Int) == 5)) = _
    by_cases h : ds.length = 5
    · rw [decide_eq_true h, h]; rfl
    · rw [decide_eq_false h]
      have : ((ds.length : Int) == 5) = false := by rw [beq_eq_false_iff_ne]; omega
      rw [this]
theorem put_beat {ds : List Dt} (h5 : ds.length < 5) (b f l d : Dt) (ps : List (Str × Dt)) : ySeq (ySetT (fTup (fStar (fFld 0 .t) (fCons (fVar 1) fNil)))) (yRet (fCB oLen (fCons (fFld 0 .t) fNil))) [some (.o (.w ⟨b, f, l, .tuple ds, ps⟩)), dd d] none = some (.rt (.int ((ds.length + 1 : Nat) : Int)) [some (.o (.w ⟨b, f, l, .tuple (ds ++ [d]), ps⟩)), dd d] none) := by
  refine (ySeq_to (s1 := [some (.o (.w ⟨b, f, l, .tuple (ds ++ [d]), ps⟩)), dd d]) (ρ1 := none) ?_).trans ?_
  · have h : fTup (fStar (fFld 0 .t) (fCons (fVar 1) fNil)) [some (.o (.w ⟨b, f, l, .tuple ds, ps⟩)), dd d] none = some (.ok (.tuple (ds ++ [d])), none) := by
      rw [fTup_e]
      refine (bnd_to (x := ds ++ [d]) (ρ1 := none) rfl).trans ?_
      rw [if_pos (by rw [List.length_append]; show _ + 1 ≤ 100000; omega)]
      rfl
    exact (yOut_to h).trans rfl
  · have h : fCB oLen (fCons (fFld 0 .t) fNil) [some (.o (.w ⟨b, f, l, .tuple (ds ++ [d]), ps⟩)), dd d] none = some (.ok (.int ((ds.length + 1 : Nat) : Int)), none) := by
      rw [fCB_e]
      refine (bnd_to (x := [.tuple (ds ++ [d])]) (ρ1 := none) rfl).trans ?_
      show lft (some (PyData.int ((ds ++ [d]).length : Nat))) _ _ = _
      rw [List.length_append]; rfl
    exact (yOut_to h).trans rfl
theorem n_beat (hB : Brd r c) (f l : Dt) {ds : List Dt} (h5 : ds.length < 5) (g : Nat → Bool) (ps : List (Str × Dt)) : Y_beat ⟨bd r c, f, l, .tuple ds, ps⟩ [ti (sel (r * c) g)] = some (.ok (.int ((ds.length + 1 : Nat) : Int)), ⟨bd r c, f, l, .tuple (ds ++ [ti (sel (r * c) g)]), ps⟩) := by
  have v := v_require_lit hB g
  obtain ⟨d, hd⟩ : ∃ d, d = ti (sel (r * c) g) := ⟨_, rfl⟩
  rw [← hd] at v ⊢
  refine runYn_rt (s := [dd d]) (ρ := none) rfl ?_
  show y_beat [some (.o (.w ⟨bd r c, f, l, .tuple ds, ps⟩)), dd d] none = _
  unfold y_beat
  refine (ySeq_to (s1 := [some (.o (.w ⟨bd r c, f, l, .tuple ds, ps⟩)), dd d]) (ρ1 := none) ?_).trans ?_
  · exact (yOut_to (fCall_to (ds := [bd r c, d]) (ρ1 := none) rfl v)).trans rfl
  refine (ySeq_to (s1 := [some (.o (.w ⟨bd r c, f, l, .tuple ds, ps⟩)), dd d]) (ρ1 := none) ?_).trans (put_beat h5 _ _ _ _ _)
  have h := len5 (ds := ds) (bd r c) f l ps (dd d)
  rw [decide_eq_false (by omega)] at h
  exact (yIf_f h).trans rfl
/-! methods that may raise -/
theorem runY_at {np n : Nat} {b : MY} {t : Wt} {ds : List Dt} (h : ds.length + 1 = np) : runY np n b t ds = outY (b (argY n t ds) none) := if_pos h
theorem runY_rt {np n : Nat} {b : MY} {t t' : Wt} {ds : List Dt} {d : Dt} {s : Ss} {ρ : Ro} (h : ds.length + 1 = np) (e : b (argY n t ds) none = some (.rt d (some (.o (.w t')) :: s) ρ)) : runY np n b t ds = some (.ok d, t') := by rw [runY_at h, e]; rfl
theorem runY_nx {np n : Nat} {b : MY} {t t' : Wt} {ds : List Dt} {s : Ss} {ρ : Ro} (h : ds.length + 1 = np) (e : b (argY n t ds) none = some (.nx (some (.o (.w t')) :: s) ρ)) : runY np n b t ds = some (.ok .none, t') := by rw [runY_at h, e]; rfl
theorem runY_er {np n : Nat} {b : MY} {t t' : Wt} {ds : List Dt} {x : Exn} {s : Ss} {ρ : Ro} (h : ds.length + 1 = np) (e : b (argY n t ds) none = some (.er x (some (.o (.w t')) :: s) ρ)) : runY np n b t ds = some (.error x, t') := by rw [runY_at h, e]; rfl
theorem ySeq_err {a b : MY} {s s1 : Ss} {ρ ρ1 : Ro} {x : Exn} (h : a s ρ = some (.er x s1 ρ1)) : ySeq a b s ρ = some (.er x s1 ρ1) := by unfold ySeq; rw [h]
theorem yOut_er {α : Type} {e : ME α} {k : α → MY} {s : Ss} {ρ ρ1 : Ro} {x : Exn} (h : e s ρ = some (.error x, ρ1)) : yOut e k s ρ = some (.er x s ρ1) := by unfold yOut; rw [h]
def eM : Exn := ⟨"TooMany", none⟩
def eN : Exn := ⟨"BadName", none⟩
def eP : Exn := ⟨"NoPoint", none⟩
def eL : Exn := ⟨"BadLit", some ("place", ((0 : Nat) : Int))⟩
theorem le_lit : ∀ ds d, F_require_lit ds = some d → X_require_lit ds = some d := le_run (leS_seq (leS_rfl _) (leS_if (leS_never _) (leS_rfl _)))
theorem xn_lit_ok (hB : Brd r c) (g : Nat → Bool) : X_require_lit [bd r c, ti (sel (r * c) g)] = some (.ok .none) := le_lit _ _ (v_require_lit hB g)
theorem xn_lit_bad (hB : Brd r c) {d : Dt} (h : BadL ((r : Int) * c) d 0) : X_require_lit [bd r c, d] = some (.error eL) := by
  refine runX_er (ρ := none) rfl ?_
  show x_require_lit [dd (bd r c), dd d, none] none = _
  unfold BadL at h
  have sc := v_site_count hB
  unfold x_require_lit
  rw [fSeq_to (s1 := [dd (bd r c), dd d, di (0 : Nat)]) (ρ1 := none) (fAsg_to (fCall_to (ds := [d, .int ((r : Int) * c)]) (ρ1 := none) (fCons_to (d := d) rfl (fCons_to (fCall_to (ds := [bd r c]) (ρ1 := none) rfl sc) rfl)) h) rfl)]
  exact (fIf_t (ρ1 := none) (fB_to (b := true) (fOp_to (x := .int ((0 : Nat) : Int)) (y := .none) (ρ1 := none) rfl rfl rfl))).trans (fErr_pl rfl (by decide))
theorem x_beat_ok (hB : Brd r c) (f l : Dt) {ds : List Dt} (h5 : ds.length < 5) (g : Nat → Bool) (ps : List (Str × Dt)) : X_w_beat ⟨bd r c, f, l, .tuple ds, ps⟩ [ti (sel (r * c) g)] = some (.ok (.int ((ds.length + 1 : Nat) : Int)), ⟨bd r c, f, l, .tuple (ds ++ [ti (sel (r * c) g)]), ps⟩) := by
  have v := xn_lit_ok hB g
  obtain ⟨d, hd⟩ : ∃ d, d = ti (sel (r * c) g) := ⟨_, rfl⟩
  rw [← hd] at v ⊢
  refine runY_rt (s := [dd d]) (ρ := none) rfl ?_
  show xy_w_beat [some (.o (.w ⟨bd r c, f, l, .tuple ds, ps⟩)), dd d] none = _
  unfold xy_w_beat
  refine (ySeq_to (s1 := [some (.o (.w ⟨bd r c, f, l, .tuple ds, ps⟩)), dd d]) (ρ1 := none) ?_).trans ?_
  · exact (yOut_to (fCall_to (ds := [bd r c, d]) (ρ1 := none) rfl v)).trans rfl
  refine (ySeq_to (s1 := [some (.o (.w ⟨bd r c, f, l, .tuple ds, ps⟩)), dd d]) (ρ1 := none) ?_).trans (put_beat h5 _ _ _ _ _)
  have h := len5 (ds := ds) (bd r c) f l ps (dd d)
  rw [decide_eq_false (by omega)] at h
  exact (yIf_f h).trans rfl
theorem x_beat_many (hB : Brd r c) (f l : Dt) {ds : List Dt} (h5 : ds.length = 5) (g : Nat → Bool) (ps : List (Str × Dt)) : X_w_beat ⟨bd r c, f, l, .tuple ds, ps⟩ [ti (sel (r * c) g)] = some (.error eM, ⟨bd r c, f, l, .tuple ds, ps⟩) := by
  have v := xn_lit_ok hB g
  obtain ⟨d, hd⟩ : ∃ d, d = ti (sel (r * c) g) := ⟨_, rfl⟩
  rw [← hd] at v ⊢
  refine runY_er (s := [dd d]) (ρ := none) rfl ?_
  show xy_w_beat [some (.o (.w ⟨bd r c, f, l, .tuple ds, ps⟩)), dd d] none = _
  unfold xy_w_beat
  refine (ySeq_to (s1 := [some (.o (.w ⟨bd r c, f, l, .tuple ds, ps⟩)), dd d]) (ρ1 := none) ?_).trans ?_
  · exact (yOut_to (fCall_to (ds := [bd r c, d]) (ρ1 := none) rfl v)).trans rfl
  have h := len5 (ds := ds) (bd r c) f l ps (dd d)
  rw [decide_eq_true h5] at h
  exact ySeq_err ((yIf_t h).trans rfl)
theorem x_beat_lit (hB : Brd r c) (f l t : Dt) {d : Dt} (h : BadL ((r : Int) * c) d 0) (ps : List (Str × Dt)) : X_w_beat ⟨bd r c, f, l, t, ps⟩ [d] = some (.error eL, ⟨bd r c, f, l, t, ps⟩) := by
  refine runY_er (s := [dd d]) (ρ := none) rfl ?_
  show xy_w_beat [some (.o (.w ⟨bd r c, f, l, t, ps⟩)), dd d] none = _
  unfold xy_w_beat
  exact ySeq_err (yOut_er (fCall_er (ds := [bd r c, d]) (ρ1 := none) rfl (xn_lit_bad hB h)))
end Sb

/-! Seamboard: points by names (k12). -/
namespace Sb
open PySem PySem.Spec PyProof.Rows L2
variable {r c : Nat}
def nms : List Str := ["a", "b", "abcdefgh", "z"]
theorem nms_name {z : Str} (h : z ∈ nms) : F_is_name [.str z] = some (.ok (.bool true)) := by
  simp only [nms, List.mem_cons, List.not_mem_nil, or_false] at h
  rcases h with e | e | e | e <;> subst e <;> rfl
def bads : List Dt := [.str "", .str "A", .str "abcdefghi", .str "a b", .int 5, .none, .bool true, .tuple [.str "a"]]
theorem bads_name {d : Dt} (h : d ∈ bads) : F_is_name [d] = some (.ok (.bool false)) := by
  simp only [bads, List.mem_cons, List.not_mem_nil, or_false] at h
  rcases h with e | e | e | e | e | e | e | e <;> subst e <;> rfl
theorem bads_out {z : Str} (h : (.str z : Dt) ∈ bads) : z ∉ nms := by
  simp only [bads, List.mem_cons, List.not_mem_nil, or_false] at h
  rcases h with e | e | e | e | e | e | e | e <;> cases e <;> decide +kernel
/-- points as a watch holds them -/
structure PT (r c n : Nat) (ps : List (Str × Dt)) : Prop where
  len : ps.length ≤ n
  nd : (ps.map (·.1)).Nodup
  nm : ∀ q ∈ ps, q.1 ∈ nms
  bt : ∀ q ∈ ps, ∃ ds, BT r c ds ∧ q.2 = .tuple ds
theorem PT.nil : PT r c 0 [] := ⟨Nat.le_refl _, List.nodup_nil, (fun q h => nomatch h), (fun q h => nomatch h)⟩
theorem PT.mono {n m : Nat} {ps : List (Str × Dt)} (h : PT r c n ps) (hn : n ≤ m) : PT r c m ps := ⟨Nat.le_trans h.len hn, h.nd, h.nm, h.bt⟩
/-- what a mark makes of points -/
def put (ps : List (Str × Dt)) (z : Str) (t : Dt) : List (Str × Dt) := if (ps.any fun q => decide (q.1 = z)) = true then ps.map (fun q => if q.1 = z then (q.1, t) else q) else ps ++ [(z, t)]
theorem put_keys (ps : List (Str × Dt)) (z : Str) (t : Dt) : (ps.map fun q => if q.1 = z then (q.1, t) else q).map (·.1) = ps.map (·.1) := by
  rw [List.map_map]
  refine List.map_congr_left fun q _ => ?_
  show (if q.1 = z then (q.1, t) else q).1 = q.1
  split <;> rfl
theorem PT.put {n : Nat} {ps : List (Str × Dt)} (h : PT r c n ps) {z : Str} (hz : z ∈ nms) {ds : List Dt} (hb : BT r c ds) : PT r c (n + 1) (put ps z (.tuple ds)) := by
  unfold Sb.put
  split
  · refine ⟨by rw [List.length_map]; have := h.len; omega, by rw [put_keys]; exact h.nd, fun q hq => ?_, fun q hq => ?_⟩
    · obtain ⟨p, hp, rfl⟩ := List.mem_map.mp hq
      split
      · exact h.nm p hp
      · exact h.nm p hp
    · obtain ⟨p, hp, rfl⟩ := List.mem_map.mp hq
      split
      · exact ⟨ds, hb, rfl⟩
      · exact h.bt p hp
  · rename_i hn
    have hz' : ∀ q ∈ ps, q.1 ≠ z := fun q hq e => hn (List.any_eq_true.mpr ⟨q, hq, decide_eq_true e⟩)
    refine ⟨by rw [List.length_append]; have := h.len; show _ + 1 ≤ _; omega, ?_, fun q hq => ?_, fun q hq => ?_⟩
    · rw [List.map_append]
      refine List.nodup_append.mpr ⟨h.nd, List.nodup_cons.mpr ⟨List.not_mem_nil, List.nodup_nil⟩, fun a ha b hb e => ?_⟩
      obtain ⟨q, hq, rfl⟩ := List.mem_map.mp ha
      rw [List.mem_singleton.mp hb] at e
      exact hz' q hq e
    · rcases List.mem_append.mp hq with y | y
      · exact h.nm q y
      · rw [List.mem_singleton.mp y]; exact hz
    · rcases List.mem_append.mp hq with y | y
      · exact h.bt q y
      · rw [List.mem_singleton.mp y]; exact ⟨ds, hb, rfl⟩
theorem ptsK_put (ps : List (Str × Dt)) (z : Str) (t : Dt) : putD (ptsK ps) (.inr z) t = ptsK (put ps z t) := pts_put z t ps
theorem getP_some {ps : List (Str × Dt)} {z : Str} {d : Dt} (h : getK (ptsK ps) (.inr z) = some d) : (z, d) ∈ ps := by
  induction ps with
  | nil => cases h
  | cons q ps ih =>
    have e0 : ptsK (q :: ps) = (.inr q.1, q.2) :: ptsK ps := rfl
    rw [e0] at h
    unfold getK at h
    rw [List.find?_cons] at h
    by_cases e : q.1 = z
    · have : decide ((Sum.inr q.1 : Key) = Sum.inr z) = true := decide_eq_true (congrArg Sum.inr e)
      simp only [this] at h
      have : d = q.2 := (Option.some.inj h).symm
      rw [this, ← e]
      exact List.mem_cons_self
    · have : decide ((Sum.inr q.1 : Key) = Sum.inr z) = false := decide_eq_false fun y => e (Sum.inr.inj y)
      simp only [this] at h
      exact List.mem_cons_of_mem _ (ih h)
theorem getP_of {ps : List (Str × Dt)} {z : Str} (h : z ∈ ps.map (·.1)) : ∃ d, getK (ptsK ps) (.inr z) = some d := by
  induction ps with
  | nil => cases h
  | cons q ps ih =>
    have e0 : ptsK (q :: ps) = (.inr q.1, q.2) :: ptsK ps := rfl
    rw [e0]
    unfold getK
    rw [List.find?_cons]
    by_cases e : q.1 = z
    · have : decide ((Sum.inr q.1 : Key) = Sum.inr z) = true := decide_eq_true (congrArg Sum.inr e)
      simp only [this]
      exact ⟨_, rfl⟩
    · have : decide ((Sum.inr q.1 : Key) = Sum.inr z) = false := decide_eq_false fun y => e (Sum.inr.inj y)
      simp only [this]
      refine ih ?_
      rw [List.map_cons] at h
      rcases List.mem_cons.mp h with y | y
      · exact absurd y.symm e
      · exact y
/-! mark, go -/
theorem n_mark (b f l t : Dt) {ps : List (Str × Dt)} {z : Str} (hz : z ∈ nms) (hl : ps.length < 1000) : Y_mark ⟨b, f, l, t, ps⟩ [.str z] = some (.ok .none, ⟨b, f, l, t, put ps z t⟩) := by
  have v := nms_name hz
  refine runYn_nx (s := [dd (.str z)]) (ρ := none) rfl ?_
  show y_mark [some (.o (.w ⟨b, f, l, t, ps⟩)), dd (.str z)] none = _
  unfold y_mark
  refine (ySeq_to (s1 := [some (.o (.w ⟨b, f, l, t, ps⟩)), dd (.str z)]) (ρ1 := none) ?_).trans ?_
  · have h : fNot (fB (fCall F_is_name (fCons (fVar 1) fNil))) [some (.o (.w ⟨b, f, l, t, ps⟩)), dd (.str z)] none = some (.ok false, none) := fNot_to (b := true) (fB_to (fCall_to (ds := [.str z]) (ρ1 := none) rfl v))
    exact (yIf_f h).trans rfl
  · show (if ps.length < 100000 then _ else _) = _
    rw [if_pos (by omega)]
    rfl
theorem x_mark_bad (b f l t : Dt) (ps : List (Str × Dt)) {d : Dt} (hd : d ∈ bads) : X_w_mark ⟨b, f, l, t, ps⟩ [d] = some (.error eN, ⟨b, f, l, t, ps⟩) := by
  have v := bads_name hd
  refine runY_er (s := [dd d]) (ρ := none) rfl ?_
  show xy_w_mark [some (.o (.w ⟨b, f, l, t, ps⟩)), dd d] none = _
  unfold xy_w_mark
  have h : fNot (fB (fCall F_is_name (fCons (fVar 1) fNil))) [some (.o (.w ⟨b, f, l, t, ps⟩)), dd d] none = some (.ok true, none) := fNot_to (b := false) (fB_to (fCall_to (ds := [d]) (ρ1 := none) rfl v))
  exact ySeq_err ((yIf_t h).trans rfl)
theorem pni_at (b f l t : Dt) (ps : List (Str × Dt)) (z : Str) : fPni 0 (fVar 1) [some (.o (.w ⟨b, f, l, t, ps⟩)), dd (.str z)] none = some (.ok (.bool (!(getK (ptsK ps) (.inr z)).isSome)), none) := rfl
theorem x_go_ok (b f l t : Dt) {ps : List (Str × Dt)} {z : Str} {d : Dt} (h : getK (ptsK ps) (.inr z) = some d) : X_w_go ⟨b, f, l, t, ps⟩ [.str z] = some (.ok .none, ⟨b, f, l, d, ps⟩) := by
  refine runY_nx (s := [dd (.str z)]) (ρ := none) rfl ?_
  show xy_w_go [some (.o (.w ⟨b, f, l, t, ps⟩)), dd (.str z)] none = _
  unfold xy_w_go
  refine (ySeq_to (s1 := [some (.o (.w ⟨b, f, l, t, ps⟩)), dd (.str z)]) (ρ1 := none) ?_).trans ?_
  · have i : fNot (fB (fIsi "str" (fVar 1))) [some (.o (.w ⟨b, f, l, t, ps⟩)), dd (.str z)] none = some (.ok false, none) := rfl
    have p := pni_at b f l t ps z
    rw [h] at p
    have o : fOr (fNot (fB (fIsi "str" (fVar 1)))) (fB (fPni 0 (fVar 1))) [some (.o (.w ⟨b, f, l, t, ps⟩)), dd (.str z)] none = some (.ok false, none) := by
      rw [fOr_e, bnd_to i, if_neg (by decide)]
      exact fB_to p
    exact (yIf_f o).trans rfl
  · have p : fPget 0 (fVar 1) [some (.o (.w ⟨b, f, l, t, ps⟩)), dd (.str z)] none = some (.ok d, none) := by
      show lft (getK (ptsK ps) (.inr z)) [some (.o (.w ⟨b, f, l, t, ps⟩)), dd (.str z)] none = _
      rw [h]; rfl
    exact (yOut_to p).trans rfl
theorem x_go_no (b f l t : Dt) {ps : List (Str × Dt)} {z : Str} (h : getK (ptsK ps) (.inr z) = none) : X_w_go ⟨b, f, l, t, ps⟩ [.str z] = some (.error eP, ⟨b, f, l, t, ps⟩) := by
  refine runY_er (s := [dd (.str z)]) (ρ := none) rfl ?_
  show xy_w_go [some (.o (.w ⟨b, f, l, t, ps⟩)), dd (.str z)] none = _
  unfold xy_w_go
  have i : fNot (fB (fIsi "str" (fVar 1))) [some (.o (.w ⟨b, f, l, t, ps⟩)), dd (.str z)] none = some (.ok false, none) := rfl
  have p := pni_at b f l t ps z
  rw [h] at p
  have o : fOr (fNot (fB (fIsi "str" (fVar 1)))) (fB (fPni 0 (fVar 1))) [some (.o (.w ⟨b, f, l, t, ps⟩)), dd (.str z)] none = some (.ok true, none) := by
    rw [fOr_e, bnd_to i, if_neg (by decide)]
    exact fB_to p
  exact ySeq_err ((yIf_t o).trans rfl)
theorem getP_none {ps : List (Str × Dt)} {z : Str} (h : z ∉ ps.map (·.1)) : getK (ptsK ps) (.inr z) = none := by
  cases e : getK (ptsK ps) (.inr z) with
  | none => rfl
  | some d => exact absurd (List.mem_map.mpr ⟨_, getP_some e, rfl⟩) h
theorem x_go_bad (b f l t : Dt) {n : Nat} {ps : List (Str × Dt)} (hp : PT r c n ps) {d : Dt} (hd : d ∈ bads) : X_w_go ⟨b, f, l, t, ps⟩ [d] = some (.error eP, ⟨b, f, l, t, ps⟩) := by
  by_cases hs : ∃ z, d = .str z
  · obtain ⟨z, rfl⟩ := hs
    refine x_go_no b f l t (getP_none fun h => ?_)
    obtain ⟨q, hq, e⟩ := List.mem_map.mp h
    exact bads_out hd (e ▸ hp.nm q hq)
  · refine runY_er (s := [dd d]) (ρ := none) rfl ?_
    show xy_w_go [some (.o (.w ⟨b, f, l, t, ps⟩)), dd d] none = _
    unfold xy_w_go
    have i : fNot (fB (fIsi "str" (fVar 1))) [some (.o (.w ⟨b, f, l, t, ps⟩)), dd d] none = some (.ok true, none) := by
      cases d with
      | str z => exact absurd ⟨z, rfl⟩ hs
      | none => rfl
      | int _ => rfl
      | bool _ => rfl
      | list _ => rfl
      | tuple _ => rfl
      | dict _ => simp only [bads, List.mem_cons, List.not_mem_nil, or_false] at hd; rcases hd with e | e | e | e | e | e | e | e <;> cases e
    have o : fOr (fNot (fB (fIsi "str" (fVar 1)))) (fB (fPni 0 (fVar 1))) [some (.o (.w ⟨b, f, l, t, ps⟩)), dd d] none = some (.ok true, none) := by
      rw [fOr_e, bnd_to i, if_pos rfl]; rfl
    exact ySeq_err ((yIf_t o).trans rfl)
/-! sorted -/
theorem ltl_of {x y : Str} (h : ¬ x.cps.toList < y.cps.toList) (n : x ≠ y) : y.cps.toList < x.cps.toList := by
  by_cases q : y.cps.toList < x.cps.toList
  · exact q
  · refine absurd ?_ n
    have e : x.cps.toList = y.cps.toList := List.le_antisymm (List.not_lt.mp q) (List.not_lt.mp h)
    cases x; cases y
    congr 1
    exact Array.ext' e
theorem insS_mem {x y : Str} {l : List Str} : y ∈ insS x l ↔ y = x ∨ y ∈ l := by rw [(insS_perm x l).mem_iff]; exact List.mem_cons
theorem insS_sorted {x : Str} : ∀ {l : List Str}, x ∉ l → l.Pairwise (fun a b => a.cps.toList < b.cps.toList) → (insS x l).Pairwise (fun a b => a.cps.toList < b.cps.toList)
  | [], _, _ => List.pairwise_singleton _ _
  | y :: l, h, p => by
    obtain ⟨p1, p2⟩ := List.pairwise_cons.mp p
    unfold insS
    split
    · rename_i hlt
      refine List.pairwise_cons.mpr ⟨fun z hz => ?_, p⟩
      rcases List.mem_cons.mp hz with e | e
      · rw [e]; exact hlt
      · exact List.lt_trans hlt (p1 z e)
    · rename_i hlt
      have yx : y.cps.toList < x.cps.toList := ltl_of hlt fun e => h (e ▸ List.mem_cons_self)
      refine List.pairwise_cons.mpr ⟨fun z hz => ?_, insS_sorted (fun q => h (List.mem_cons_of_mem _ q)) p2⟩
      rcases insS_mem.mp hz with e | e
      · rw [e]; exact yx
      · exact p1 z e
theorem srtS_sorted : ∀ {l : List Str}, l.Nodup → (srtS l).Pairwise (fun a b => a.cps.toList < b.cps.toList)
  | [], _ => List.Pairwise.nil
  | x :: l, h => by
    obtain ⟨h1, h2⟩ := List.nodup_cons.mp h
    exact insS_sorted (fun q => h1 ((srtS_perm l).mem_iff.mp q)) (srtS_sorted h2)
theorem ltS_of : ∀ {l : List Str}, l.Pairwise (fun a b => a.cps.toList < b.cps.toList) → ltS l = true
  | [], _ => rfl
  | [_], _ => rfl
  | x :: y :: l, h => by
    obtain ⟨p1, p2⟩ := List.pairwise_cons.mp h
    show (decide (x.cps.toList < y.cps.toList) && ltS (y :: l)) = true
    rw [ltS_of p2, decide_eq_true (p1 y List.mem_cons_self)]; rfl
theorem ltS_srt {l : List Str} (h : l.Nodup) : ltS (srtS l) = true := ltS_of (srtS_sorted h)
end Sb

/-! Seamboard: what a watch tells; who refuses (k12). -/
namespace Sb
open PySem PySem.Spec PyProof.Rows L2
variable {r c : Nat}
theorem nms_ok {z : Str} (h : z ∈ nms) : okS z := by
  simp only [nms, List.mem_cons, List.not_mem_nil, or_false] at h
  rcases h with e | e | e | e <;> subst e <;> (intro x hx; revert x; decide +kernel)
theorem wf_lstN {n : Nat} {ds : List Dt} (hl : ds.length ≤ 50000) (h : ∀ d ∈ ds, wfA n d = true) : wfA (n + 1) (.list ds) = true := by
  show (decide (ds.length ≤ 50000) && ds.all (wfA n)) = true
  rw [Bool.and_eq_true, decide_eq_true_eq, List.all_eq_true]
  exact ⟨hl, h⟩
theorem wf_intN {n : Nat} (i : Int) : wfA n (.int i) = true := by cases n <;> rfl
/-- how many beats there are at a point -/
def lenP (ps : List (Str × Dt)) (z : Str) : Nat := match getK (ptsK ps) (.inr z) with
  | some (.tuple ds) => ds.length
  | _ => 0
def mkE (ps : List (Str × Dt)) : Dt → Dt
  | .str z => .tuple [.str z, .int (lenP ps z : Nat)]
  | d => d
/-- the marks, rising -/
def mkL (ps : List (Str × Dt)) : List Dt := ((srtS (ps.map (·.1))).map PyData.str).map (mkE ps)
theorem srt_in {ps : List (Str × Dt)} {z : Str} (h : z ∈ srtS (ps.map (·.1))) : z ∈ ps.map (·.1) := (srtS_perm _).mem_iff.mp h
theorem srt_len (ks : List Str) : (srtS ks).length = ks.length := (srtS_perm ks).length_eq
theorem PT.key {n : Nat} {ps : List (Str × Dt)} (h : PT r c n ps) {z : Str} (hz : z ∈ ps.map (·.1)) : z ∈ nms ∧ ∃ ds, BT r c ds ∧ getK (ptsK ps) (.inr z) = some (.tuple ds) ∧ lenP ps z = ds.length := by
  obtain ⟨d, hd⟩ := getP_of hz
  have hm := getP_some hd
  obtain ⟨ds, hb, e⟩ := h.bt _ hm
  have e : d = .tuple ds := e
  subst e
  exact ⟨h.nm _ hm, ds, hb, hd, by unfold lenP; rw [hd]⟩
theorem mkL_len (ps : List (Str × Dt)) : (mkL ps).length = ps.length := by unfold mkL; rw [List.length_map, List.length_map, srt_len, List.length_map]
theorem mkL_wf {n m : Nat} {ps : List (Str × Dt)} (h : PT r c n ps) : ∀ d ∈ mkL ps, wfA (m + 1) d = true := fun d hd => by
  unfold mkL at hd
  rw [List.map_map] at hd
  obtain ⟨z, hz, rfl⟩ := List.mem_map.mp hd
  show wfA (m + 1) (.tuple [.str z, .int _]) = true
  exact wf_pair (wf_str (nms_ok (h.key (srt_in hz)).1)) (wf_intN _)
theorem BT.wf {m : Nat} (hB : Brd r c) {ds : List Dt} (h : BT r c ds) : ∀ d ∈ ds, wfA (m + 1) d = true := fun d hd => by
  obtain ⟨g, rfl⟩ := h.at_ d hd
  have h25 := rc25 hB
  exact wf_ints _ (by have := sel_len (r * c) g; omega)
theorem two_alike (hB : Brd r c) {n : Nat} (hn : n ≤ 50) {ds : List Dt} (hb : BT r c ds) {ps : List (Str × Dt)} (hp : PT r c n ps) : F__law_alike [.list [.list ds, .list (mkL ps)], .list [.list ds, .list (mkL ps)]] = some (.ok (.bool true)) := by
  refine v_law_alike (wf_lstN (n := 5) (by show 2 ≤ 50000; decide) fun d hd => ?_)
  rcases List.mem_cons.mp hd with e | e
  · rw [e]; exact wf_lstN (n := 4) (by have := hb.len; omega) (hb.wf hB)
  · rw [List.mem_singleton.mp e]; exact wf_lstN (n := 4) (by rw [mkL_len]; have := hp.len; omega) (mkL_wf hp)
theorem n_marks (b f l t : Dt) {n : Nat} (hn : n ≤ 50) {ps : List (Str × Dt)} (hp : PT r c n ps) : YL_marks ⟨b, f, l, t, ps⟩ [] = some (.ok (.list (mkL ps)), ⟨b, f, l, t, ps⟩) := by
  obtain ⟨ks, hks⟩ : ∃ ks, ks = srtS (ps.map (·.1)) := ⟨_, rfl⟩
  have hl : ks.length = ps.length := by rw [hks, srt_len, List.length_map]
  have g : g_marks [some (.o (.w ⟨b, f, l, t, ps⟩)), none] none = some (.ok (mkL ps), none) := by
    unfold g_marks
    refine fLc_to (ds := ks.map PyData.str) (ρ1 := none) ?_ (by rw [List.length_map, hl]; have := hp.len; omega) ?_
    · have e : fPsortA 0 [some (.o (.w ⟨b, f, l, t, ps⟩)), none] none = some (.ok (ks.map PyData.str), none) := by
        show (if (ps.map (·.1)).length < 64 ∧ ltS (srtS (ps.map (·.1))) = true then some (Except.ok ((srtS (ps.map (·.1))).map PyData.str), none) else none) = _
        rw [if_pos ⟨by rw [List.length_map]; have := hp.len; omega, ltS_srt hp.nd⟩, ← hks]
      rw [fItL_e, bnd_to (fN_lc e)]
      rfl
    · have key := lcGo_map (s := [some (.o (.w ⟨b, f, l, t, ps⟩)), none]) (ρ := none) (tg := fgName 1) (e := fTup (fCons (fVar 1) (fCons (fCB oLen (fCons (fPget 0 (fVar 1)) fNil)) fNil))) (mkE ps) (ds := ks.map PyData.str) fun d hd => by
        obtain ⟨z, hz, rfl⟩ := List.mem_map.mp hd
        rw [hks] at hz
        obtain ⟨_, ds, _, hg, hlen⟩ := hp.key (srt_in hz)
        refine ⟨_, rfl, fTup_to (ds := [.str z, .int (lenP ps z : Nat)]) (fCons_to rfl (fCons_to (fCB_to (ds := [.tuple ds]) (fCons_to (d := .tuple ds) (ρ1 := none) ?_ rfl) (by rw [hlen]; rfl)) rfl)) (by show 2 ≤ 100000; decide)⟩
        show lft (getK (ptsK ps) (.inr z)) [some (.o (.w ⟨b, f, l, t, ps⟩)), dd (.str z)] none = _
        rw [hg]; rfl
      rw [hks] at key ⊢
      exact key
  show runYL 1 2 g_marks _ _ = _
  unfold runYL
  rw [if_pos (show ([] : List Dt).length + 1 = 1 from rfl)]
  show (match g_marks [some (.o (.w ⟨b, f, l, t, ps⟩)), none] none with
    | some (.ok es, _) => some (Except.ok (PyData.list es), (⟨b, f, l, t, ps⟩ : Wt))
    | _ => none) = _
  rw [g]
/-! words -/
theorem dw_M : dW kn eM = some (.tuple [.str "many"]) := by
  unfold dW
  rw [if_pos (show eM.c ∈ kn by show ("TooMany" : Str) ∈ kn; decide +kernel)]
  unfold wordD eM
  simp only []
  repeat (first | rw [if_pos (by decide +kernel)] | rw [if_neg (by decide +kernel)])
theorem dw_N : dW kn eN = some (.tuple [.str "name"]) := by
  unfold dW
  rw [if_pos (show eN.c ∈ kn by show ("BadName" : Str) ∈ kn; decide +kernel)]
  unfold wordD eN
  simp only []
  repeat (first | rw [if_pos (by decide +kernel)] | rw [if_neg (by decide +kernel)])
theorem dw_P : dW kn eP = some (.tuple [.str "point"]) := by
  unfold dW
  rw [if_pos (show eP.c ∈ kn by show ("NoPoint" : Str) ∈ kn; decide +kernel)]
  unfold wordD eP
  simp only []
  repeat (first | rw [if_pos (by decide +kernel)] | rw [if_neg (by decide +kernel)])
theorem dw_L : dW kn eL = some (.tuple [.str "lit", .int ((0 : Nat) : Int)]) := by
  unfold dW
  rw [if_pos (show eL.c ∈ kn by show ("BadLit" : Str) ∈ kn; decide +kernel)]
  unfold wordD eL
  simp only []
  repeat (first | rw [if_pos (by decide +kernel)] | rw [if_neg (by decide +kernel)])
/-! words of methods -/
section
variable {P : Addr} {q : Str} {s : Ss} {ρ ρ1 : Ro} {i j : Nat} {w : Exn → Option Dt} {F : Fy} {cw : Oc} {t t' : Wt} {κ : Wt → Oc} {ds : List Dt} {a : ME (List Dt)} {d : Dt} {x : Exn}
theorem vWordY_ok (hi : s[i]? = some (some (.o (.t P q)))) (hj : s[j]? = some (some (.o cw))) (hc : asW cw = some (t, κ)) (ha : a s ρ = some (.ok ds, ρ1)) (hF : F t ds = some (.ok d, t')) : vWordY P q i w F j a s ρ = some (.ok .none, s.set j (some (.o (κ t'))), ρ1) := by
  unfold vWordY
  rw [hi]
  simp only [and_self, if_true, hj, hc, ha, hF]
theorem vWordY_er (hi : s[i]? = some (some (.o (.t P q)))) (hj : s[j]? = some (some (.o cw))) (hc : asW cw = some (t, κ)) (ha : a s ρ = some (.ok ds, ρ1)) (hF : F t ds = some (.error x, t')) (hw : w x = some d) : vWordY P q i w F j a s ρ = some (.ok d, s.set j (some (.o (κ t'))), ρ1) := by
  unfold vWordY
  rw [hi]
  simp only [and_self, if_true, hj, hc, ha, hF, hw]
theorem vWordYD_er {co : Oc} (hi : s[i]? = some (some (.o co))) (ht : tabIn P q co = true) (hj : s[j]? = some (some (.o cw))) (hc : asW cw = some (t, κ)) (ha : a s ρ = some (.ok ds, ρ1)) (hF : F t ds = some (.error x, t')) (hw : w x = some d) : vWordYD i P q w F j a s ρ = some (.ok d, s.set j (some (.o (κ t'))), ρ1) := by
  unfold vWordYD
  rw [hi]
  simp only [ht, if_true, hj, hc, ha, hF, hw]
end
/-- the def that asks a watch for what it refuses -/
theorem d_refuses (hB : Brd r c) {x0 : Rw} (hx0 : 0 ≤ x0.i) {n m : Nat} (hm : m = r * c) {f l t : Dt} {ps : List (Str × Dt)} (hp : PT r c n ps) (P : Addr) (q : Str) : ∃ x', F__law_refuses P q x0 ⟨bd r c, f, l, t, ps⟩ [.int m] = some (.bool true, x', ⟨bd r c, f, l, t, ps⟩) ∧ 0 ≤ x'.i := by
  obtain ⟨k, x1, e1, hk, hx1⟩ := d_taken hx0 (m := 8) (by decide)
  refine ⟨x1, allA2_to fun x p => ?_, hx1⟩
  have hk8 : k < 8 := by omega
  obtain ⟨d, hd, hdb⟩ : ∃ d, bads[k]? = some d ∧ d ∈ bads := ⟨bads[k]'(by show k < 8; exact hk8), List.getElem?_eq_getElem _, List.getElem_mem _⟩
  obtain ⟨W, hW⟩ : ∃ W : Wt, W = ⟨bd r c, f, l, t, ps⟩ := ⟨_, rfl⟩
  rw [← hW]
  have ix : oIxL (.list bads) (.int (k : Nat)) = some d := by
    show atI bads (k : Int) = some d
    exact atI_in (by have : bads.length = 8 := rfl; omega) (by rw [Int.toNat_natCast]; exact hd)
  have t1 : (fAsg (fOp oIxL (fN (fLst (fCons (ret (.str "")) (fCons (ret (.str "A")) (fCons (ret (.str "abcdefghi")) (fCons (ret (.str "a b")) (fCons (ret (.int 5)) (fCons (ret .none) (fCons (ret (.bool true)) (fCons (fTup (fCons (ret (.str "a")) fNil)) fNil)))))))))) (fCallR F__law_taken 0 (fCons (ret (.int 8)) fNil))) (fgName 3)) [some .row, some (.o (.wx x p W)), di m, none, none, some (.o (.t P q))] (some x0) = some (.nx [some .row, some (.o (.wx x p W)), di m, dd d, none, some (.o (.t P q))] (some x1)) := fAsg_to (fOp_to (x := .list bads) (y := .int (k : Nat)) (ρ1 := some x0) rfl (fCallR_to rfl (fCons_to rfl rfl) e1) ix) rfl
  have badN : BadL ((r : Int) * c) (.tuple [.int (m : Nat)]) 0 := by
    refine badL_tup (l := []) (ds := []) List.Pairwise.nil (fun x hx => nomatch hx) ?_
    show (decide ((m : Int) < 0) || decide ((r : Int) * c ≤ (m : Int))) = true
    have hmi : (m : Int) = (r : Int) * c := by rw [hm, Int.natCast_mul]
    rw [hmi, decide_eq_true (Int.le_refl _), Bool.or_true]
  have w1 : vWordY P q 5 (dW kn) X_w_mark 1 (fCons (fVar 3) fNil) [some .row, some (.o (.wx x p W)), di m, dd d, none, some (.o (.t P q))] (some x1) = some (.ok (.tuple [.str "name"]), [some .row, some (.o (.wx x p W)), di m, dd d, none, some (.o (.t P q))], some x1) := vWordY_er (t := W) (ds := [d]) rfl rfl rfl rfl (by rw [hW]; exact x_mark_bad _ _ _ _ _ hdb) dw_N
  have w2 : vWordYD 5 P q (dW kn) X_w_go 1 (fCons (fVar 3) fNil) [some .row, some (.o (.wx x p W)), di m, dd d, none, some (.o (.t P q))] (some x1) = some (.ok (.tuple [.str "point"]), [some .row, some (.o (.wx x p W)), di m, dd d, none, some (.o (.t P q))], some x1) := vWordYD_er (t := W) (ds := [d]) rfl tabIn_t rfl rfl rfl (by rw [hW]; exact x_go_bad _ _ _ _ hp hdb) dw_P
  have t2 : fOwnLV 4 (vCons (vWordY P q 5 (dW kn) X_w_mark 1 (fCons (fVar 3) fNil)) (vCons (vWordYD 5 P q (dW kn) X_w_go 1 (fCons (fVar 3) fNil)) vNil)) [some .row, some (.o (.wx x p W)), di m, dd d, none, some (.o (.t P q))] (some x1) = some (.nx [some .row, some (.o (.wx x p W)), di m, dd d, some (.o (.l [.tuple [.str "name"], .tuple [.str "point"]])), some (.o (.t P q))] (some x1)) := by
    unfold fOwnLV
    rw [vCons_to w1 (vCons_to w2 (rfl : vNil _ _ = some (.ok [], _, _)))]
    rfl
  have w3 : vWordY P q 5 (dW kn) X_w_beat 1 (fCons (fTup (fCons (fVar 2) fNil)) fNil) [some .row, some (.o (.wx x p W)), di m, dd d, some (.o (.l [.tuple [.str "name"], .tuple [.str "point"]])), some (.o (.t P q))] (some x1) = some (.ok (.tuple [.str "lit", .int ((0 : Nat) : Int)]), [some .row, some (.o (.wx x p W)), di m, dd d, some (.o (.l [.tuple [.str "name"], .tuple [.str "point"]])), some (.o (.t P q))], some x1) := vWordY_er (t := W) (ds := [.tuple [.int m]]) rfl rfl rfl rfl (by rw [hW]; exact x_beat_lit hB _ _ _ badN _) dw_L
  have t3 : fAppV 4 (vWordY P q 5 (dW kn) X_w_beat 1 (fCons (fTup (fCons (fVar 2) fNil)) fNil)) [some .row, some (.o (.wx x p W)), di m, dd d, some (.o (.l [.tuple [.str "name"], .tuple [.str "point"]])), some (.o (.t P q))] (some x1) = some (.nx [some .row, some (.o (.wx x p W)), di m, dd d, some (.o (.l [.tuple [.str "name"], .tuple [.str "point"], .tuple [.str "lit", .int ((0 : Nat) : Int)]])), some (.o (.t P q))] (some x1)) := by
    unfold fAppV
    simp only [List.getElem?_cons_succ, List.getElem?_cons_zero]
    rw [w3]
    rfl
  have tb : b__law_refuses P q [some .row, some (.o (.wx x p W)), di m, none, none, some (.o (.t P q))] (some x0) = some (.nx [some .row, some (.o (.wx x p W)), di m, dd d, some (.o (.l [.tuple [.str "name"], .tuple [.str "point"], .tuple [.str "lit", .int ((0 : Nat) : Int)]])), some (.o (.t P q))] (some x1)) := by
    unfold b__law_refuses
    exact (fSeq_to ((fSeq_to t1).trans t2)).trans t3
  have eq : oEq (.list [.tuple [.str "name"], .tuple [.str "point"], .tuple [.str "lit", .int ((0 : Nat) : Int)]]) (.list [.tuple [.str "name"], .tuple [.str "point"], .tuple [.str "lit", .int 0]]) = some (.bool true) := by
    rw [oEq_e (by decide +kernel)]
    exact congrArg (fun z => some (PyData.bool z)) (by decide +kernel)
  have ta : a__law_refuses P q [some .row, some (.o (.wx x p W)), di m, dd d, some (.o (.l [.tuple [.str "name"], .tuple [.str "point"], .tuple [.str "lit", .int ((0 : Nat) : Int)]])), some (.o (.t P q))] (some x1) = some (.ok (.bool true), [some .row, some (.o (.wx x p W)), di m, dd d, some (.o (.l [.tuple [.str "name"], .tuple [.str "point"], .tuple [.str "lit", .int ((0 : Nat) : Int)]])), some (.o (.t P q))], some x1) := by
    unfold a__law_refuses
    refine vOf_to ?_
    unfold fLook
    have e : fOp oEq (fVar 4) (fN (fLst (fCons (fTup (fCons (ret (.str "name")) fNil)) (fCons (fTup (fCons (ret (.str "point")) fNil)) (fCons (fTup (fCons (ret (.str "lit")) (fCons (ret (.int 0)) fNil))) fNil))))) (thS [some .row, some (.o (.wx x p W)), di m, dd d, some (.o (.l [.tuple [.str "name"], .tuple [.str "point"], .tuple [.str "lit", .int ((0 : Nat) : Int)]])), some (.o (.t P q))]) none = some (.ok (.bool true), none) := fOp_to (x := .list [.tuple [.str "name"], .tuple [.str "point"], .tuple [.str "lit", .int ((0 : Nat) : Int)]]) (y := .list [.tuple [.str "name"], .tuple [.str "point"], .tuple [.str "lit", .int 0]]) (ρ1 := none) rfl rfl eq
    rw [e]
    rfl
  show runWTX 3 5 b__law_refuses a__law_refuses P q x p x0 W [.int m] = _
  unfold runWTX
  rw [if_pos (show [PyData.int (m : Nat)].length + 2 = 3 from rfl)]
  rw [show ((some Wv.row :: some (Wv.o (.wx x p W)) :: argS (5 - 1) [PyData.int (m : Nat)]).set 5 (some (Wv.o (.t P q)))) = [some .row, some (.o (.wx x p W)), di m, none, none, some (.o (.t P q))] from rfl, tb]
  simp only []
  rw [ta]
  show (if P = P ∧ q = q ∧ x = x ∧ p = p then some (PyData.bool true, x1, W) else none) = _
  rw [if_pos ⟨rfl, rfl, rfl, rfl⟩]
end Sb

namespace Sb
open PySem PySem.Spec PyProof.Rows L2
def c1 : MS := (fAsg (fCallR F__law_board 1 (fCons (ret (.int 5)) fNil)) (fgName 2))
def c2 : MS := (fAsg (fOp oMul (fOp oIxT (fVar 2) (ret (.int 0))) (fOp oIxT (fVar 2) (ret (.int 1)))) (fgName 3))
def c3 : MS := (fTup4 4 5 6 7 (oWatch F_require_board F_require_count (fVar 2)) (oWatch F_require_board F_require_count (fVar 2)) (fTup fNil) oNewM)
def c4b1 : MS := (fAsg (fTup (fCons (fCallR F__law_taken 1 (fCons (ret (.int 7)) fNil)) (fCons (fCallR F__law_some 1 (fCons (fVar 3) (fCons (ret (.int 4)) fNil))) fNil))) (fgTup 2 (fgCons (fgName 9) (fgCons (fgName 10) fgNil))))
def c4b2 : MS := (fAsg (fOp oIxL (fN (fLst (fCons (ret (.str "a")) (fCons (ret (.str "b")) (fCons (ret (.str "abcdefgh")) (fCons (ret (.str "z")) fNil)))))) (fCallR F__law_taken 1 (fCons (ret (.int 4)) fNil))) (fgName 11))
def c4b3t1 : MS := (fAsg (fIf (fB (fOp oEq (fCB oLen (fCons (fVar 6) fNil)) (ret (.int 5)))) (fTup (fCons (ret (.str "many")) fNil)) (ret .none)) (fgName 12))
noncomputable def c4b3t2 (P : Addr) (q : Str) (LO : Nat → Addr → Addr → Addr → HO) (df : Nat → Bool) (P1 : Addr) (q1 : Str) : MS := (fIfV (vB (vOp oNe (vWordY P q 0 (dW kn) X_w_beat 4 (fCons (fVar 10) fNil)) (vOf (fVar 12)))) (fRet (ret (.bool false))) fNext)
def c4b3t3 : MS := (fAsg (fOp oCatT (fVar 6) (fOp oRepT (fTup (fCons (fVar 10) fNil)) (fCB oInt (fCons (fOp oIsN (fVar 12) (ret .none)) fNil)))) (fgName 6))
def c4b3t4 : MS := (fIfV (vAnd (vOf (fB (fOp oIsN (fVar 12) (ret .none)))) (vAnd (vB (vMeth Y_back 4 fNil)) (vB (vOp oNe (vMeth Y_beat 4 (fCons (fVar 10) fNil)) (vOf (fCB oLen (fCons (fVar 6) fNil))))))) (fRet (ret (.bool false))) fNext)
noncomputable def c4b3t (P : Addr) (q : Str) (LO : Nat → Addr → Addr → Addr → HO) (df : Nat → Bool) (P1 : Addr) (q1 : Str) : MS := (fSeq c4b3t1 (fSeq (c4b3t2 P q LO df P1 q1) (fSeq c4b3t3 c4b3t4)))
noncomputable def c4b3 (P : Addr) (q : Str) (LO : Nat → Addr → Addr → Addr → HO) (df : Nat → Bool) (P1 : Addr) (q1 : Str) : MS := (fIfS (fB (fOp oLt (fVar 9) (ret (.int 3)))) (c4b3t P q LO df P1 q1) (fIfS (fB (fOp oEq (fVar 9) (ret (.int 3)))) (fSeq (fIfV (vB (vOp oNe (vMeth Y_back 4 fNil) (vOf (fOp oNe (fVar 6) (fTup fNil))))) (fRet (ret (.bool false))) fNext) (fAsg (fSlT (fVar 6) fNo (fSo (fUn oNeg (ret (.int 1))))) (fgName 6))) (fIfS (fB (fOp oEq (fVar 9) (ret (.int 4)))) (fSeq (fDropV (vMeth Y_mark 4 (fCons (fVar 11) fNil))) (fDputO 7 (fVar 11) (fVar 6))) (fIfS (fB (fOp oEq (fVar 9) (ret (.int 5)))) (fSeq (fIfV (vB (vOp oNe (vWordY P q 0 (dW kn) X_w_go 4 (fCons (fVar 11) fNil)) (vOf (fIf (fB (fDinO 7 (fVar 11))) (ret .none) (fTup (fCons (ret (.str "point")) fNil)))))) (fRet (ret (.bool false))) fNext) (fAsg (fDget2O 7 (fVar 11) (fVar 6)) (fgName 6))) (fIfV (vNot (vB (fCallRTW P1 q1 (F__law_refuses P1 q1) 1 4 16 (fCons (fVar 3) fNil)))) (fRet (ret (.bool false))) fNext)))))
def c4b4b1 : MS := (fLitLL 14 (fMethL YL_told 4 fNil) (fMethL YL_marks 4 fNil))
def c4b4b2 : MS := (fIfS (fLookT2 (fNot (fB (fCall F__law_alike (fCons (fVar 14) (fCons (fN (fLst (fCons (fN (fCBN oListOf (fCons (fVar 6) fNil))) (fCons (fN (fLc (fItL (fN (fDsort 7))) (fgName 15) (ret true) (fTup (fCons (fVar 15) (fCons (fCB oLen (fCons (fDgetS 7 (fVar 15)) fNil)) fNil))) [15])) fNil)))) fNil)))))) (fRet (ret (.bool false))) fNext)
def c4b4b3 : MS := (fAppLL 14 (ret (.int 0)) (ret (.int 5)))
def c4b4b4 : MS := (fAppLL 14 (ret (.int 1)) (ret (.int 5)))
def c4b4b : MS := (fSeq c4b4b1 (fSeq c4b4b2 (fSeq c4b4b3 c4b4b4)))
def c4b4 : MS := (fFor (fRng1 (fCons (ret (.int 2)) fNil)) (fgName 13) c4b4b)
noncomputable def c4b (P : Addr) (q : Str) (LO : Nat → Addr → Addr → Addr → HO) (df : Nat → Bool) (P1 : Addr) (q1 : Str) : MS := (fSeq c4b1 (fSeq c4b2 (fSeq (c4b3 P q LO df P1 q1) c4b4)))
noncomputable def c4 (P : Addr) (q : Str) (LO : Nat → Addr → Addr → Addr → HO) (df : Nat → Bool) (P1 : Addr) (q1 : Str) : MS := (fFor (fRng1 (fCons (fCallR F__law_taken 1 (fCons (fOp oIxL (fN (fLst (fCons (ret (.int 13)) (fCons (ret (.int 40)) fNil)))) (fCallR F__law_taken 1 (fCons (ret (.int 2)) fNil))) fNil)) fNil)) (fgName 8) (c4b P q LO df P1 q1))
def c5 : MS := (fRetV (vCall F__law_alike (vCons (vLst (vCons (vOf (fN (fMethL YL_told 5 fNil))) (vCons (vOf (fN (fMethL YL_marks 5 fNil))) (vCons (vMeth Y_back 5 fNil) vNil)))) (vCons (vOf (fN (fLst (fCons (fN (fLst fNil)) (fCons (fN (fLst fNil)) (fCons (ret (.bool false)) fNil)))))) vNil))))
theorem law_cut (P : Addr) (q : Str) (LO : Nat → Addr → Addr → Addr → HO) (df : Nat → Bool) (P1 : Addr) (q1 : Str) : f_law P q LO df P1 q1 = (fSeq c1 (fSeq c2 (fSeq c3 (fSeq (c4 P q LO df P1 q1) c5)))) := rfl
def wt (r c : Nat) (ds : List Dt) (ps : List (Str × Dt)) : Wt := ⟨bd r c, .int 1, .int 1, .tuple ds, ps⟩
def ws (P : Addr) (q : Str) (P1 : Addr) (q1 : Str) (r c : Nat) (w : Wt) (b : Dt) (k : List (Key × Dt)) (x8 x9 x10 x11 x12 x13 x14 x15 : Option Wv) : Ss := [some (.o (.t P q)), some .row, dd (bd r c), di (r * c : Nat), some (.o (.w w)), some (.o (.w (wt r c [] []))), dd b, some (.o (.m k)), x8, x9, x10, x11, x12, x13, x14, x15, some (.o (.t P1 q1))]
variable {r c : Nat} {P P1 : Addr} {q q1 : Str} {LO : Nat → Addr → Addr → Addr → HO} {df : Nat → Bool}
theorem fIfE_t {g : ME Bool} {a b : ME Dt} {s : Ss} {ρ ρ1 : Ro} (h : g s ρ = some (.ok true, ρ1)) : fIf g a b s ρ = a s ρ1 := by unfold fIf; rw [bnd_to h]; rfl
theorem fIfE_f {g : ME Bool} {a b : ME Dt} {s : Ss} {ρ ρ1 : Ro} (h : g s ρ = some (.ok false, ρ1)) : fIf g a b s ρ = b s ρ1 := by unfold fIf; rw [bnd_to h]; rfl
theorem oRepT_e {x : List Dt} {k : Nat} (h : k ≤ 1000) (h2 : x.length ≤ 100 ∧ 1 ≤ x.length) : oRepT (.tuple x) (.int (k : Int)) = some (.tuple (List.replicate k x).flatten) := by
  show (if 0 ≤ (k : Int) ∧ (k : Int) ≤ 1000 ∧ x.length ≤ 100 ∧ 1 ≤ x.length then some (PyData.tuple (List.replicate (k : Int).toNat x).flatten) else none) = _
  rw [if_pos (by omega), Int.toNat_natCast]
theorem ne_many : oNe (.tuple [.str "many"]) (.tuple [.str "many"]) = some (.bool false) := oNe_same (shaped_w0 (by decide +kernel))
theorem ne_point : oNe (.tuple [.str "point"]) (.tuple [.str "point"]) = some (.bool false) := oNe_same (shaped_w0 (by decide +kernel))
theorem ne_nn : oNe .none .none = some (.bool false) := rfl
theorem ne_int (i : Int) : oNe (.int i) (.int i) = some (.bool false) := oNe_same rfl
theorem ne_bool (b : Bool) : oNe (.bool b) (.bool b) = some (.bool false) := oNe_same rfl
theorem d_even_int (k m : Nat) : oLt (.int (k : Int)) (.int (m : Int)) = some (.bool (decide (k < m))) := by
  show some (PyData.bool (decide ((k : Int) < m))) = _
  by_cases h : k < m
  · rw [decide_eq_true h, decide_eq_true (by omega)]
  · rw [decide_eq_false h, decide_eq_false (by omega)]
theorem eq_nat (k m : Nat) : oEq (.int (k : Int)) (.int (m : Int)) = some (.bool (decide (k = m))) := by
  show some (PyData.bool ((k : Int) == (m : Int))) = _
  by_cases h : k = m
  · rw [decide_eq_true h, h]; simp
  · rw [decide_eq_false h]
    have : ((k : Int) == (m : Int)) = false := by rw [beq_eq_false_iff_ne]; omega
    rw [this]
/-- a beat more -/
theorem way_beat (hB : Brd r c) {ds : List Dt} (hb : BT r c ds) (ps : List (Str × Dt)) (g : Nat → Bool) {ρ : Ro} (x8 x9 x11 x12 x13 x14 x15 : Option Wv) : ∃ ds' y12, BT r c ds' ∧ c4b3t P q LO df P1 q1 (ws P q P1 q1 r c (wt r c ds ps) (.tuple ds) (ptsK ps) x8 x9 (dd (ti (sel (r * c) g))) x11 x12 x13 x14 x15) ρ = some (.nx (ws P q P1 q1 r c (wt r c ds' ps) (.tuple ds') (ptsK ps) x8 x9 (dd (ti (sel (r * c) g))) x11 y12 x13 x14 x15) ρ) := by
  have okB := x_beat_ok hB (.int 1) (.int 1) (ds := ds) (g := g) (ps := ps)
  have mnB := x_beat_many hB (.int 1) (.int 1) (ds := ds) (g := g) (ps := ps)
  have yB := n_beat hB (.int 1) (.int 1) (ds := ds) (g := g) (ps := ps)
  have ad := fun h => hb.add h g
  have bk := fun (h : BT r c (ds ++ [ti (sel (r * c) g)])) => n_back (bd r c) (.int 1) (.int 1) ps h
  obtain ⟨d, hd⟩ : ∃ d, d = ti (sel (r * c) g) := ⟨_, rfl⟩
  rw [← hd] at okB mnB yB ad bk ⊢
  have l5 : oEq (.int (ds.length : Nat)) (.int 5) = some (.bool (decide (ds.length = 5))) := eq_nat ds.length 5
  by_cases h5 : ds.length = 5
  · refine ⟨ds, dd (.tuple [.str "many"]), hb, ?_⟩
    rw [decide_eq_true h5] at l5
    have t1 : c4b3t1 (ws P q P1 q1 r c (wt r c ds ps) (.tuple ds) (ptsK ps) x8 x9 (dd d) x11 x12 x13 x14 x15) ρ = some (.nx (ws P q P1 q1 r c (wt r c ds ps) (.tuple ds) (ptsK ps) x8 x9 (dd d) x11 (dd (.tuple [.str "many"])) x13 x14 x15) ρ) := fAsg_to ((fIfE_t (fB_to (fOp_to (x := .int (ds.length : Nat)) (y := .int 5) (ρ1 := ρ) (fCB_to (ds := [.tuple ds]) rfl rfl) rfl l5))).trans rfl) rfl
    have t2 : c4b3t2 P q LO df P1 q1 (ws P q P1 q1 r c (wt r c ds ps) (.tuple ds) (ptsK ps) x8 x9 (dd d) x11 (dd (.tuple [.str "many"])) x13 x14 x15) ρ = some (.nx (ws P q P1 q1 r c (wt r c ds ps) (.tuple ds) (ptsK ps) x8 x9 (dd d) x11 (dd (.tuple [.str "many"])) x13 x14 x15) ρ) := by
      unfold c4b3t2
      exact (fIfV_f (ρ1 := ρ) (vB_to (vOp_to (vWordY_er (t := wt r c ds ps) (ds := [d]) (ρ1 := ρ) rfl rfl rfl rfl (mnB h5) dw_M) (vOf_to (v := .tuple [.str "many"]) rfl) ne_many))).trans rfl
    have rp : oRepT (.tuple [d]) (.int 0) = some (.tuple []) := (oRepT_e (k := 0) (by decide) ⟨by show 1 ≤ 100; decide, Nat.le_refl 1⟩)
    have ct : oCatT (.tuple ds) (.tuple []) = some (.tuple ds) := by rw [oCatT_e (by have := hb.len; show _ + 0 ≤ 100000; omega), List.append_nil]
    have t3 : c4b3t3 (ws P q P1 q1 r c (wt r c ds ps) (.tuple ds) (ptsK ps) x8 x9 (dd d) x11 (dd (.tuple [.str "many"])) x13 x14 x15) ρ = some (.nx (ws P q P1 q1 r c (wt r c ds ps) (.tuple ds) (ptsK ps) x8 x9 (dd d) x11 (dd (.tuple [.str "many"])) x13 x14 x15) ρ) := fAsg_to (fOp_to (x := .tuple ds) (y := .tuple []) (ρ1 := ρ) rfl (fOp_to (x := .tuple [d]) (y := .int 0) (ρ1 := ρ) rfl (fCB_to (ds := [.bool false]) rfl rfl) rp) ct) rfl
    have t4 : c4b3t4 (ws P q P1 q1 r c (wt r c ds ps) (.tuple ds) (ptsK ps) x8 x9 (dd d) x11 (dd (.tuple [.str "many"])) x13 x14 x15) ρ = some (.nx (ws P q P1 q1 r c (wt r c ds ps) (.tuple ds) (ptsK ps) x8 x9 (dd d) x11 (dd (.tuple [.str "many"])) x13 x14 x15) ρ) := by
      unfold c4b3t4
      exact (fIfV_f (ρ1 := ρ) (vAnd_f (vOf_to (fB_to (b := false) rfl)))).trans rfl
    unfold c4b3t
    rw [fSeq_to t1, fSeq_to t2, fSeq_to t3, t4]
  · have h4 : ds.length < 5 := by have := hb.len; omega
    refine ⟨ds ++ [d], dd .none, ad h4, ?_⟩
    rw [decide_eq_false h5] at l5
    have t1 : c4b3t1 (ws P q P1 q1 r c (wt r c ds ps) (.tuple ds) (ptsK ps) x8 x9 (dd d) x11 x12 x13 x14 x15) ρ = some (.nx (ws P q P1 q1 r c (wt r c ds ps) (.tuple ds) (ptsK ps) x8 x9 (dd d) x11 (dd .none) x13 x14 x15) ρ) := fAsg_to ((fIfE_f (fB_to (fOp_to (x := .int (ds.length : Nat)) (y := .int 5) (ρ1 := ρ) (fCB_to (ds := [.tuple ds]) rfl rfl) rfl l5))).trans rfl) rfl
    have t2 : c4b3t2 P q LO df P1 q1 (ws P q P1 q1 r c (wt r c ds ps) (.tuple ds) (ptsK ps) x8 x9 (dd d) x11 (dd .none) x13 x14 x15) ρ = some (.nx (ws P q P1 q1 r c (wt r c (ds ++ [d]) ps) (.tuple ds) (ptsK ps) x8 x9 (dd d) x11 (dd .none) x13 x14 x15) ρ) := by
      unfold c4b3t2
      exact (fIfV_f (ρ1 := ρ) (vB_to (vOp_to (vWordY_ok (t := wt r c ds ps) (ds := [d]) (ρ1 := ρ) rfl rfl rfl rfl (okB h4)) (vOf_to (v := .none) rfl) ne_nn))).trans rfl
    have rp : oRepT (.tuple [d]) (.int 1) = some (.tuple [d]) := (oRepT_e (k := 1) (by decide) ⟨by show 1 ≤ 100; decide, Nat.le_refl 1⟩)
    have ct : oCatT (.tuple ds) (.tuple [d]) = some (.tuple (ds ++ [d])) := oCatT_e (by show _ + 1 ≤ 100000; omega)
    have t3 : c4b3t3 (ws P q P1 q1 r c (wt r c (ds ++ [d]) ps) (.tuple ds) (ptsK ps) x8 x9 (dd d) x11 (dd .none) x13 x14 x15) ρ = some (.nx (ws P q P1 q1 r c (wt r c (ds ++ [d]) ps) (.tuple (ds ++ [d])) (ptsK ps) x8 x9 (dd d) x11 (dd .none) x13 x14 x15) ρ) := fAsg_to (fOp_to (x := .tuple ds) (y := .tuple [d]) (ρ1 := ρ) rfl (fOp_to (x := .tuple [d]) (y := .int 1) (ρ1 := ρ) rfl (fCB_to (ds := [.bool true]) rfl rfl) rp) ct) rfl
    have ll : (ds ++ [d]).length = ds.length + 1 := by rw [List.length_append]; rfl
    have t4 : c4b3t4 (ws P q P1 q1 r c (wt r c (ds ++ [d]) ps) (.tuple (ds ++ [d])) (ptsK ps) x8 x9 (dd d) x11 (dd .none) x13 x14 x15) ρ = some (.nx (ws P q P1 q1 r c (wt r c (ds ++ [d]) ps) (.tuple (ds ++ [d])) (ptsK ps) x8 x9 (dd d) x11 (dd .none) x13 x14 x15) ρ) := by
      unfold c4b3t4
      have b1 : vMeth Y_back 4 fNil (ws P q P1 q1 r c (wt r c (ds ++ [d]) ps) (.tuple (ds ++ [d])) (ptsK ps) x8 x9 (dd d) x11 (dd .none) x13 x14 x15) ρ = some (.ok (.bool true), ws P q P1 q1 r c (wt r c ds ps) (.tuple (ds ++ [d])) (ptsK ps) x8 x9 (dd d) x11 (dd .none) x13 x14 x15, ρ) := vMeth_to (t := wt r c (ds ++ [d]) ps) (ds := []) rfl rfl (bk (ad h4))
      have b2 : vMeth Y_beat 4 (fCons (fVar 10) fNil) (ws P q P1 q1 r c (wt r c ds ps) (.tuple (ds ++ [d])) (ptsK ps) x8 x9 (dd d) x11 (dd .none) x13 x14 x15) ρ = some (.ok (.int ((ds.length + 1 : Nat) : Int)), ws P q P1 q1 r c (wt r c (ds ++ [d]) ps) (.tuple (ds ++ [d])) (ptsK ps) x8 x9 (dd d) x11 (dd .none) x13 x14 x15, ρ) := vMeth_to (t := wt r c ds ps) (ds := [d]) rfl rfl (yB h4)
      exact (fIfV_f (ρ1 := ρ) (vAnd_t (ρ1 := ρ) (vOf_to (fB_to (b := true) rfl)) (vAnd_t (vB_to b1) (vB_to (vOp_to b2 (vOf_to (v := .int ((ds.length + 1 : Nat) : Int)) (ρ1 := ρ) (fCB_to (ds := [.tuple (ds ++ [d])]) rfl (by rw [← ll]; rfl))) (ne_int _)))))).trans rfl
    unfold c4b3t
    rw [fSeq_to t1, fSeq_to t2, fSeq_to t3, t4]
theorem way_of {k : Nat} {s : Ss} {ρ : Ro} (h9 : s[9]? = some (di k)) : c4b3 P q LO df P1 q1 s ρ = (if k < 3 then c4b3t P q LO df P1 q1 s ρ else if k = 3 then fSeq (fIfV (vB (vOp oNe (vMeth Y_back 4 fNil) (vOf (fOp oNe (fVar 6) (fTup fNil))))) (fRet (ret (.bool false))) fNext) (fAsg (fSlT (fVar 6) fNo (fSo (fUn oNeg (ret (.int 1))))) (fgName 6)) s ρ else if k = 4 then fSeq (fDropV (vMeth Y_mark 4 (fCons (fVar 11) fNil))) (fDputO 7 (fVar 11) (fVar 6)) s ρ else if k = 5 then fSeq (fIfV (vB (vOp oNe (vWordY P q 0 (dW kn) X_w_go 4 (fCons (fVar 11) fNil)) (vOf (fIf (fB (fDinO 7 (fVar 11))) (ret .none) (fTup (fCons (ret (.str "point")) fNil)))))) (fRet (ret (.bool false))) fNext) (fAsg (fDget2O 7 (fVar 11) (fVar 6)) (fgName 6)) s ρ else fIfV (vNot (vB (fCallRTW P1 q1 (F__law_refuses P1 q1) 1 4 16 (fCons (fVar 3) fNil)))) (fRet (ret (.bool false))) fNext s ρ) := by
  have v9 : fVar 9 s ρ = some (.ok (.int k), ρ) := by rw [fVar_at, h9]
  have te : ∀ m : Nat, fB (fOp oEq (fVar 9) (ret (.int (m : Int)))) s ρ = some (.ok (decide (k = m)), ρ) := fun m => fB_to (fOp_to v9 rfl (eq_nat k m))
  unfold c4b3
  by_cases h3 : k < 3
  · have e := d_even_int k 3
    rw [decide_eq_true h3] at e
    rw [if_pos h3, fIf_t (fB_to (fOp_to v9 (rfl : ret (.int 3) s ρ = _) e))]
  rw [if_neg h3]
  have e := d_even_int k 3
  rw [decide_eq_false h3] at e
  rw [fIf_f (fB_to (fOp_to v9 (rfl : ret (.int 3) s ρ = _) e))]
  by_cases h : k = 3
  · have t := te 3
    rw [decide_eq_true h] at t
    rw [if_pos h]
    exact fIf_t t
  have t := te 3
  rw [decide_eq_false h] at t
  rw [if_neg h]
  refine (fIf_f t).trans ?_
  by_cases h : k = 4
  · have t := te 4
    rw [decide_eq_true h] at t
    rw [if_pos h]
    exact fIf_t t
  have t := te 4
  rw [decide_eq_false h] at t
  rw [if_neg h]
  refine (fIf_f t).trans ?_
  by_cases h : k = 5
  · have t := te 5
    rw [decide_eq_true h] at t
    rw [if_pos h]
    exact fIf_t t
  have t := te 5
  rw [decide_eq_false h] at t
  rw [if_neg h]
  exact fIf_f t
theorem cut_none : cutD ([] : List Dt) none (some (-1)) = [] := rfl
/-- any deed -/
theorem way_ok (hB : Brd r c) {ds : List Dt} (hb : BT r c ds) {n : Nat} {ps : List (Str × Dt)} (hn : n ≤ 100) (hp : PT r c n ps) (g : Nat → Bool) {z : Str} (hz : z ∈ nms) (k : Nat) {x : Rw} (hx : 0 ≤ x.i) (x8 x12 x13 x14 x15 : Option Wv) : ∃ ds' ps' y12 x', BT r c ds' ∧ PT r c (n + 1) ps' ∧ 0 ≤ x'.i ∧ c4b3 P q LO df P1 q1 (ws P q P1 q1 r c (wt r c ds ps) (.tuple ds) (ptsK ps) x8 (di k) (dd (ti (sel (r * c) g))) (dd (.str z)) x12 x13 x14 x15) (some x) = some (.nx (ws P q P1 q1 r c (wt r c ds' ps') (.tuple ds') (ptsK ps') x8 (di k) (dd (ti (sel (r * c) g))) (dd (.str z)) y12 x13 x14 x15) (some x')) := by
  rw [way_of (k := k) rfl]
  by_cases h3 : k < 3
  · obtain ⟨ds', y12, hb', e⟩ := way_beat (P := P) (q := q) (P1 := P1) (q1 := q1) (LO := LO) (df := df) hB hb ps g (ρ := some x) x8 (di k) (dd (.str z)) x12 x13 x14 x15
    exact ⟨ds', ps, y12, x, hb', hp.mono (Nat.le_succ n), hx, by rw [if_pos h3]; exact e⟩
  rw [if_neg h3]
  by_cases h : k = 3
  · rw [if_pos h]
    by_cases h0 : ds = []
    · subst h0
      refine ⟨[], ps, x12, x, .nil, hp.mono (Nat.le_succ n), hx, ?_⟩
      have b1 : vMeth Y_back 4 fNil (ws P q P1 q1 r c (wt r c [] ps) (.tuple []) (ptsK ps) x8 (di k) (dd (ti (sel (r * c) g))) (dd (.str z)) x12 x13 x14 x15) (some x) = some (.ok (.bool false), ws P q P1 q1 r c (wt r c [] ps) (.tuple []) (ptsK ps) x8 (di k) (dd (ti (sel (r * c) g))) (dd (.str z)) x12 x13 x14 x15, some x) := vMeth_to (t := wt r c [] ps) (ds := []) rfl rfl (n_back0 _ _ _ _)
      rw [fSeq_to (s1 := ws P q P1 q1 r c (wt r c [] ps) (.tuple []) (ptsK ps) x8 (di k) (dd (ti (sel (r * c) g))) (dd (.str z)) x12 x13 x14 x15) (ρ1 := some x) ((fIfV_f (vB_to (vOp_to b1 (vOf_to (v := .bool false) (fOp_to (x := .tuple []) (y := .tuple []) (ρ1 := some x) rfl rfl rfl)) (ne_bool _)))).trans rfl)]
      exact fAsg_to (fSlT_to (ds := []) (hi := some (-1)) (ρ1 := some x) rfl rfl (fSo_to rfl)) (by rw [cut_none]; rfl)
    · obtain ⟨i, d, rfl⟩ : ∃ i d, ds = i ++ [d] := ⟨ds.dropLast, ds.getLast h0, (List.dropLast_concat_getLast h0).symm⟩
      refine ⟨i, ps, x12, x, hb.drop, hp.mono (Nat.le_succ n), hx, ?_⟩
      have ne := hb.ne_nil
      rw [decide_eq_false (by simp)] at ne
      have b1 : vMeth Y_back 4 fNil (ws P q P1 q1 r c (wt r c (i ++ [d]) ps) (.tuple (i ++ [d])) (ptsK ps) x8 (di k) (dd (ti (sel (r * c) g))) (dd (.str z)) x12 x13 x14 x15) (some x) = some (.ok (.bool true), ws P q P1 q1 r c (wt r c i ps) (.tuple (i ++ [d])) (ptsK ps) x8 (di k) (dd (ti (sel (r * c) g))) (dd (.str z)) x12 x13 x14 x15, some x) := vMeth_to (t := wt r c (i ++ [d]) ps) (ds := []) rfl rfl (n_back _ _ _ _ hb)
      rw [fSeq_to (s1 := ws P q P1 q1 r c (wt r c i ps) (.tuple (i ++ [d])) (ptsK ps) x8 (di k) (dd (ti (sel (r * c) g))) (dd (.str z)) x12 x13 x14 x15) (ρ1 := some x) ((fIfV_f (vB_to (vOp_to b1 (vOf_to (v := .bool true) (fOp_to (x := .tuple (i ++ [d])) (y := .tuple []) (ρ1 := some x) rfl rfl ne)) (ne_bool _)))).trans rfl)]
      exact fAsg_to (fSlT_to (ds := i ++ [d]) (hi := some (-1)) (ρ1 := some x) rfl rfl (fSo_to rfl)) (by rw [cut_init2]; rfl)
  rw [if_neg h]
  by_cases h : k = 4
  · rw [if_pos h]
    refine ⟨ds, put ps z (.tuple ds), x12, x, hb, hp.put hz hb, hx, ?_⟩
    have lp := hp.len
    have b1 : vMeth Y_mark 4 (fCons (fVar 11) fNil) (ws P q P1 q1 r c (wt r c ds ps) (.tuple ds) (ptsK ps) x8 (di k) (dd (ti (sel (r * c) g))) (dd (.str z)) x12 x13 x14 x15) (some x) = some (.ok .none, ws P q P1 q1 r c (wt r c ds (put ps z (.tuple ds))) (.tuple ds) (ptsK ps) x8 (di k) (dd (ti (sel (r * c) g))) (dd (.str z)) x12 x13 x14 x15, some x) := vMeth_to (t := wt r c ds ps) (ds := [.str z]) rfl rfl (n_mark _ _ _ _ hz (by omega))
    rw [fSeq_to (fDropV_to b1)]
    unfold fDputO
    rw [fOut_to (x := .tuple ds) (ρ1 := some x) rfl]
    show fOut (fVar 11) _ _ _ = _
    rw [fOut_to (x := .str z) (ρ1 := some x) rfl]
    have lk : (ptsK ps).length < 100000 := by
      have : (ptsK ps).length = ps.length := by unfold ptsK; rw [List.length_map]
      omega
    simp only []
    rw [if_pos lk, ptsK_put]
    rfl
  rw [if_neg h]
  by_cases h : k = 5
  · rw [if_pos h]
    cases hg : getK (ptsK ps) (.inr z) with
    | some d =>
      obtain ⟨ds', hb', e⟩ := hp.bt _ (getP_some hg)
      have e : d = .tuple ds' := e
      subst e
      refine ⟨ds', ps, x12, x, hb', hp.mono (Nat.le_succ n), hx, ?_⟩
      have w1 : vWordY P q 0 (dW kn) X_w_go 4 (fCons (fVar 11) fNil) (ws P q P1 q1 r c (wt r c ds ps) (.tuple ds) (ptsK ps) x8 (di k) (dd (ti (sel (r * c) g))) (dd (.str z)) x12 x13 x14 x15) (some x) = some (.ok .none, ws P q P1 q1 r c (wt r c ds' ps) (.tuple ds) (ptsK ps) x8 (di k) (dd (ti (sel (r * c) g))) (dd (.str z)) x12 x13 x14 x15, some x) := vWordY_ok (t := wt r c ds ps) (ds := [.str z]) (ρ1 := some x) rfl rfl rfl rfl (x_go_ok _ _ _ _ hg)
      have di : fDinO 7 (fVar 11) (ws P q P1 q1 r c (wt r c ds' ps) (.tuple ds) (ptsK ps) x8 (di k) (dd (ti (sel (r * c) g))) (dd (.str z)) x12 x13 x14 x15) (some x) = some (.ok (.bool true), some x) := by
        unfold fDinO
        rw [bnd_to (x := .str z) (ρ1 := some x) rfl]
        show some (Except.ok (PyData.bool (getK (ptsK ps) (.inr z)).isSome), some x) = _
        rw [hg]; rfl
      rw [fSeq_to (s1 := ws P q P1 q1 r c (wt r c ds' ps) (.tuple ds) (ptsK ps) x8 (.some (.d (.int k))) (dd (ti (sel (r * c) g))) (dd (.str z)) x12 x13 x14 x15) (ρ1 := some x) ((fIfV_f (vB_to (vOp_to w1 (vOf_to (v := .none) ((fIfE_t (fB_to di)).trans rfl)) ne_nn))).trans rfl)]
      refine fAsg_to (d := .tuple ds') (ρ1 := some x) ?_ rfl
      unfold fDget2O
      show bnd (fVar 11) _ _ _ = _
      rw [bnd_to (x := .str z) (ρ1 := some x) rfl, bnd_to (x := .tuple ds) (ρ1 := some x) rfl]
      simp only [hg]
      rfl
    | none =>
      refine ⟨ds, ps, x12, x, hb, hp.mono (Nat.le_succ n), hx, ?_⟩
      have w1 : vWordY P q 0 (dW kn) X_w_go 4 (fCons (fVar 11) fNil) (ws P q P1 q1 r c (wt r c ds ps) (.tuple ds) (ptsK ps) x8 (di k) (dd (ti (sel (r * c) g))) (dd (.str z)) x12 x13 x14 x15) (some x) = some (.ok (.tuple [.str "point"]), ws P q P1 q1 r c (wt r c ds ps) (.tuple ds) (ptsK ps) x8 (di k) (dd (ti (sel (r * c) g))) (dd (.str z)) x12 x13 x14 x15, some x) := vWordY_er (t := wt r c ds ps) (ds := [.str z]) (ρ1 := some x) rfl rfl rfl rfl (x_go_no _ _ _ _ hg) dw_P
      have di : fDinO 7 (fVar 11) (ws P q P1 q1 r c (wt r c ds ps) (.tuple ds) (ptsK ps) x8 (di k) (dd (ti (sel (r * c) g))) (dd (.str z)) x12 x13 x14 x15) (some x) = some (.ok (.bool false), some x) := by
        unfold fDinO
        rw [bnd_to (x := .str z) (ρ1 := some x) rfl]
        show some (Except.ok (PyData.bool (getK (ptsK ps) (.inr z)).isSome), some x) = _
        rw [hg]; rfl
      rw [fSeq_to (s1 := ws P q P1 q1 r c (wt r c ds ps) (.tuple ds) (ptsK ps) x8 (.some (.d (.int k))) (dd (ti (sel (r * c) g))) (dd (.str z)) x12 x13 x14 x15) (ρ1 := some x) ((fIfV_f (vB_to (vOp_to w1 (vOf_to (v := .tuple [.str "point"]) ((fIfE_f (fB_to di)).trans rfl)) ne_point))).trans rfl)]
      refine fAsg_to (d := .tuple ds) (ρ1 := some x) ?_ rfl
      unfold fDget2O
      show bnd (fVar 11) _ _ _ = _
      rw [bnd_to (x := .str z) (ρ1 := some x) rfl, bnd_to (x := .tuple ds) (ρ1 := some x) rfl]
      simp only [hg]
      rfl
  rw [if_neg h]
  obtain ⟨x', e, hx'⟩ := d_refuses hB hx (m := r * c) rfl (f := .int 1) (l := .int 1) (t := .tuple ds) hp P1 q1
  refine ⟨ds, ps, x12, x', hb, hp.mono (Nat.le_succ n), hx', ?_⟩
  have cl : fCallRTW P1 q1 (F__law_refuses P1 q1) 1 4 16 (fCons (fVar 3) fNil) (ws P q P1 q1 r c (wt r c ds ps) (.tuple ds) (ptsK ps) x8 (di k) (dd (ti (sel (r * c) g))) (dd (.str z)) x12 x13 x14 x15) (some x) = some (.ok (.bool true), ws P q P1 q1 r c (wt r c ds ps) (.tuple ds) (ptsK ps) x8 (di k) (dd (ti (sel (r * c) g))) (dd (.str z)) x12 x13 x14 x15, some x') := by
    unfold fCallRTW
    show (if P1 = P1 ∧ q1 = q1 then _ else none) = _
    rw [if_pos ⟨rfl, rfl⟩]
    rw [show fCons (fVar 3) fNil (ws P q P1 q1 r c (wt r c ds ps) (.tuple ds) (ptsK ps) x8 (di k) (dd (ti (sel (r * c) g))) (dd (.str z)) x12 x13 x14 x15) (some x) = some (.ok [.int (r * c : Nat)], some x) from rfl]
    simp only []
    rw [show F__law_refuses P1 q1 x (wt r c ds ps) [.int (r * c : Nat)] = some (.bool true, x', wt r c ds ps) from e]
    rfl
  exact (fIfV_f (vNot_to (b := true) (vB_to cl))).trans rfl
theorem txK_pts : ∀ ps : List (Str × Dt), txK (ptsK ps) = some (ps.map (·.1))
  | [] => rfl
  | q :: ps => by
    show (txK (ptsK ps)).map (q.1 :: ·) = _
    rw [txK_pts ps]; rfl
/-- what is told is so, and may be changed -/
theorem again_ok (hB : Brd r c) {ds : List Dt} (hb : BT r c ds) {n : Nat} {ps : List (Str × Dt)} (hn : n ≤ 50) (hp : PT r c n ps) {ρ : Ro} (x8 x9 x10 x11 x12 x13 x14 x15 : Option Wv) : c4b4b (ws P q P1 q1 r c (wt r c ds ps) (.tuple ds) (ptsK ps) x8 x9 x10 x11 x12 x13 x14 x15) ρ = some (.nx (ws P q P1 q1 r c (wt r c ds ps) (.tuple ds) (ptsK ps) x8 x9 x10 x11 x12 x13 (some (.o (.ll [ds ++ [.int 5], mkL ps ++ [.int 5]]))) x15) ρ) := by
  have lm := mkL_len ps
  have lb := hb.len
  have lp := hp.len
  obtain ⟨M, hM⟩ : ∃ M, M = mkL ps := ⟨_, rfl⟩
  have al := two_alike hB hn hb hp
  have mk := n_marks (bd r c) (.int 1) (.int 1) (.tuple ds) hn hp
  rw [← hM] at al mk lm ⊢
  have m1 : fMethL YL_told 4 fNil (ws P q P1 q1 r c (wt r c ds ps) (.tuple ds) (ptsK ps) x8 x9 x10 x11 x12 x13 x14 x15) ρ = some (.ok ds, ρ) := rfl
  have m2 : fMethL YL_marks 4 fNil (ws P q P1 q1 r c (wt r c ds ps) (.tuple ds) (ptsK ps) x8 x9 x10 x11 x12 x13 x14 x15) ρ = some (.ok M, ρ) := by
    unfold fMethL
    show bnd fNil _ _ _ = _
    rw [bnd_to (x := []) (ρ1 := ρ) rfl]
    rw [show YL_marks (wt r c ds ps) [] = some (.ok (.list M), wt r c ds ps) from mk]
    rfl
  have t1 : c4b4b1 (ws P q P1 q1 r c (wt r c ds ps) (.tuple ds) (ptsK ps) x8 x9 x10 x11 x12 x13 x14 x15) ρ = some (.nx (ws P q P1 q1 r c (wt r c ds ps) (.tuple ds) (ptsK ps) x8 x9 x10 x11 x12 x13 (some (.o (.ll [ds, M]))) x15) ρ) := by
    unfold c4b4b1 fLitLL
    rw [m1]
    simp only []
    rw [m2]
    rfl
  have t2 : c4b4b2 (ws P q P1 q1 r c (wt r c ds ps) (.tuple ds) (ptsK ps) x8 x9 x10 x11 x12 x13 (some (.o (.ll [ds, M]))) x15) ρ = some (.nx (ws P q P1 q1 r c (wt r c ds ps) (.tuple ds) (ptsK ps) x8 x9 x10 x11 x12 x13 (some (.o (.ll [ds, M]))) x15) ρ) := by
    obtain ⟨Z, hZ⟩ : ∃ Z, Z = thS2 (ws P q P1 q1 r c (wt r c ds ps) (.tuple ds) (ptsK ps) x8 x9 x10 x11 x12 x13 (some (.o (.ll [ds, M]))) x15) := ⟨_, rfl⟩
    have v14 : fVar 14 Z none = some (.ok (.list [.list ds, .list M]), none) := by rw [hZ]; rfl
    have v6 : fVar 6 Z none = some (.ok (.tuple ds), none) := by rw [hZ]; rfl
    have z7 : Z[7]? = some (some (.m (ptsK ps))) := by rw [hZ]; rfl
    have a1 : fCBN oListOf (fCons (fVar 6) fNil) Z none = some (.ok ds, none) := by
      rw [fCBN_e, bnd_to (x := [.tuple ds]) (ρ1 := none) (fCons_to v6 rfl)]; rfl
    obtain ⟨ks, hks⟩ : ∃ ks, ks = srtS (ps.map (·.1)) := ⟨_, rfl⟩
    have so : fDsort 7 Z none = some (.ok (ks.map PyData.str), none) := by
      unfold fDsort
      rw [z7]
      simp only []
      rw [txK_pts]
      simp only []
      rw [if_pos ⟨by rw [List.length_map]; omega, ltS_srt hp.nd⟩, ← hks]
    have lc : fLc (fItL (fN (fDsort 7))) (fgName 15) (ret true) (fTup (fCons (fVar 15) (fCons (fCB oLen (fCons (fDgetS 7 (fVar 15)) fNil)) fNil))) [15] Z none = some (.ok M, none) := by
      refine fLc_to (ds := ks.map PyData.str) (ρ1 := none) ?_ (by rw [List.length_map, hks, srt_len, List.length_map]; omega) ?_
      · rw [fItL_e, bnd_to (fN_lc so)]; rfl
      · have key := lcGo_map (s := wipeS Z [15]) (ρ := none) (tg := fgName 15) (e := fTup (fCons (fVar 15) (fCons (fCB oLen (fCons (fDgetS 7 (fVar 15)) fNil)) fNil))) (mkE ps) (ds := ks.map PyData.str) fun d hd => by
          obtain ⟨z, hz, rfl⟩ := List.mem_map.mp hd
          rw [hks] at hz
          obtain ⟨_, dz, _, hg, hlen⟩ := hp.key (srt_in hz)
          refine ⟨(Z.set 15 none).set 15 (dd (.str z)), rfl, ?_⟩
          have lZ : Z.length = 17 := by rw [hZ]; rfl
          have v15 : fVar 15 ((Z.set 15 none).set 15 (dd (.str z))) none = some (.ok (.str z), none) := by
            rw [fVar_at, List.getElem?_set_self (by rw [List.length_set, lZ]; decide)]
          have z7' : ((Z.set 15 none).set 15 (dd (.str z)))[7]? = some (some (.m (ptsK ps))) := by
            rw [List.getElem?_set_ne (by decide), List.getElem?_set_ne (by decide), z7]
          have gt : fDgetS 7 (fVar 15) ((Z.set 15 none).set 15 (dd (.str z))) none = some (.ok (.tuple dz), none) := by
            unfold fDgetS
            rw [z7']
            simp only []
            rw [bnd_to v15]
            simp only [hg]
            rfl
          exact fTup_to (ds := [.str z, .int (lenP ps z : Nat)]) (fCons_to v15 (fCons_to (fCB_to (ds := [.tuple dz]) (fCons_to gt rfl) (by rw [hlen]; rfl)) rfl)) (by show 2 ≤ 100000; decide)
        rw [hM]
        unfold mkL
        rw [← hks]
        exact key
    have ag : fLst (fCons (fN (fCBN oListOf (fCons (fVar 6) fNil))) (fCons (fN (fLc (fItL (fN (fDsort 7))) (fgName 15) (ret true) (fTup (fCons (fVar 15) (fCons (fCB oLen (fCons (fDgetS 7 (fVar 15)) fNil)) fNil))) [15])) fNil)) Z none = some (.ok [.list ds, .list M], none) := fLst_to (fCons_to (fN_lc a1) (fCons_to (fN_lc lc) rfl)) (by show 2 ≤ 100000; decide)
    have te : fNot (fB (fCall F__law_alike (fCons (fVar 14) (fCons (fN (fLst (fCons (fN (fCBN oListOf (fCons (fVar 6) fNil))) (fCons (fN (fLc (fItL (fN (fDsort 7))) (fgName 15) (ret true) (fTup (fCons (fVar 15) (fCons (fCB oLen (fCons (fDgetS 7 (fVar 15)) fNil)) fNil))) [15])) fNil)))) fNil)))) Z none = some (.ok false, none) := fNot_to (b := true) (fB_to (fCall_to (ds := [.list [.list ds, .list M], .list [.list ds, .list M]]) (fCons_to v14 (fCons_to (fN_lc ag) rfl)) al))
    unfold c4b4b2
    refine (fIf_f (ρ1 := ρ) ?_).trans rfl
    unfold fLookT2
    rw [← hZ, te]
  have t3 : c4b4b3 (ws P q P1 q1 r c (wt r c ds ps) (.tuple ds) (ptsK ps) x8 x9 x10 x11 x12 x13 (some (.o (.ll [ds, M]))) x15) ρ = some (.nx (ws P q P1 q1 r c (wt r c ds ps) (.tuple ds) (ptsK ps) x8 x9 x10 x11 x12 x13 (some (.o (.ll [ds ++ [.int 5], M]))) x15) ρ) := by
    unfold c4b4b3 fAppLL
    show fOut (ret (PyData.int 0)) _ _ _ = _
    rw [fOut_to (x := .int 0) (ρ1 := ρ) rfl]
    show fOut (ret (PyData.int 5)) _ _ _ = _
    rw [fOut_to (x := .int 5) (ρ1 := ρ) rfl, if_pos (by omega)]
    rfl
  have t4 : c4b4b4 (ws P q P1 q1 r c (wt r c ds ps) (.tuple ds) (ptsK ps) x8 x9 x10 x11 x12 x13 (some (.o (.ll [ds ++ [.int 5], M]))) x15) ρ = some (.nx (ws P q P1 q1 r c (wt r c ds ps) (.tuple ds) (ptsK ps) x8 x9 x10 x11 x12 x13 (some (.o (.ll [ds ++ [.int 5], M ++ [.int 5]]))) x15) ρ) := by
    unfold c4b4b4 fAppLL
    show fOut (ret (PyData.int 1)) _ _ _ = _
    rw [fOut_to (x := .int 1) (ρ1 := ρ) rfl]
    show fOut (ret (PyData.int 5)) _ _ _ = _
    rw [fOut_to (x := .int 5) (ρ1 := ρ) rfl, if_pos (by omega)]
    rfl
  unfold c4b4b
  rw [fSeq_to t1, fSeq_to t2, fSeq_to t3, t4]
theorem nms_ix {k : Nat} (h : k < 4) : ∃ z, z ∈ nms ∧ oIxL (.list [.str "a", .str "b", .str "abcdefgh", .str "z"]) (.int (k : Nat)) = some (.str z) := by
  have : k = 0 ∨ k = 1 ∨ k = 2 ∨ k = 3 := by omega
  rcases this with e | e | e | e <;> subst e
  · exact ⟨"a", by decide +kernel, rfl⟩
  · exact ⟨"b", by decide +kernel, rfl⟩
  · exact ⟨"abcdefgh", by decide +kernel, rfl⟩
  · exact ⟨"z", by decide +kernel, rfl⟩
/-- a turn -/
theorem turn_ok (hB : Brd r c) {ds : List Dt} (hb : BT r c ds) {n : Nat} {ps : List (Str × Dt)} (hn : n < 50) (hp : PT r c n ps) {x : Rw} (hx : 0 ≤ x.i) (x8 x9 x10 x11 x12 x13 x14 x15 : Option Wv) : ∃ ds' ps' y9 y10 y11 y12 y13 y14 x', BT r c ds' ∧ PT r c (n + 1) ps' ∧ 0 ≤ x'.i ∧ c4b P q LO df P1 q1 (ws P q P1 q1 r c (wt r c ds ps) (.tuple ds) (ptsK ps) x8 x9 x10 x11 x12 x13 x14 x15) (some x) = some (.nx (ws P q P1 q1 r c (wt r c ds' ps') (.tuple ds') (ptsK ps') x8 y9 y10 y11 y12 y13 y14 x15) (some x')) := by
  have h25 := rc25 hB
  have h44 : 4 ≤ r * c := Nat.mul_le_mul hB.1 hB.2.2.1
  obtain ⟨k, x1, e1, hk, hx1⟩ := d_taken hx (m := 7) (by decide)
  obtain ⟨g, x2, e2, hx2, _⟩ := d_some hx1 (n := r * c) (t := 4) (by omega)
  obtain ⟨j, x3, e3, hj, hx3⟩ := d_taken hx2 (m := 4) (by decide)
  obtain ⟨z, hz, ez⟩ := nms_ix (k := j) (by omega)
  have t1 : c4b1 (ws P q P1 q1 r c (wt r c ds ps) (.tuple ds) (ptsK ps) x8 x9 x10 x11 x12 x13 x14 x15) (some x) = some (.nx (ws P q P1 q1 r c (wt r c ds ps) (.tuple ds) (ptsK ps) x8 (di k) (dd (ti (sel (r * c) g))) x11 x12 x13 x14 x15) (some x2)) := fAsg_to (d := .tuple [.int k, ti (sel (r * c) g)]) (fTup_to (fCons_to (fCallR_to rfl (fCons_to rfl rfl) e1) (fCons_to (fCallR_to rfl (fCons_to rfl (fCons_to rfl rfl)) e2) rfl)) (by show 2 ≤ 100000; decide)) rfl
  have t2 : c4b2 (ws P q P1 q1 r c (wt r c ds ps) (.tuple ds) (ptsK ps) x8 (di k) (dd (ti (sel (r * c) g))) x11 x12 x13 x14 x15) (some x2) = some (.nx (ws P q P1 q1 r c (wt r c ds ps) (.tuple ds) (ptsK ps) x8 (di k) (dd (ti (sel (r * c) g))) (dd (.str z)) x12 x13 x14 x15) (some x3)) := fAsg_to (fOp_to (x := .list [.str "a", .str "b", .str "abcdefgh", .str "z"]) (y := .int j) (ρ1 := some x2) rfl (fCallR_to rfl (fCons_to rfl rfl) e3) ez) rfl
  obtain ⟨ds', ps', y12, x4, hb', hp', hx4, t3⟩ := way_ok (P := P) (q := q) (P1 := P1) (q1 := q1) (LO := LO) (df := df) hB hb (by omega) hp g hz k hx3 x8 x12 x13 x14 x15
  have g1 := again_ok (P := P) (q := q) (P1 := P1) (q1 := q1) hB hb' (by omega) hp' (ρ := some x4) x8 (di k) (dd (ti (sel (r * c) g))) (dd (.str z)) y12 (di (0 : Nat)) x14 x15
  have g2 := again_ok (P := P) (q := q) (P1 := P1) (q1 := q1) hB hb' (by omega) hp' (ρ := some x4) x8 (di k) (dd (ti (sel (r * c) g))) (dd (.str z)) y12 (di (1 : Nat)) (some (.o (.ll [ds' ++ [.int 5], mkL ps' ++ [.int 5]]))) x15
  have t4 : c4b4 (ws P q P1 q1 r c (wt r c ds' ps') (.tuple ds') (ptsK ps') x8 (di k) (dd (ti (sel (r * c) g))) (dd (.str z)) y12 x13 x14 x15) (some x4) = some (.nx (ws P q P1 q1 r c (wt r c ds' ps') (.tuple ds') (ptsK ps') x8 (di k) (dd (ti (sel (r * c) g))) (dd (.str z)) y12 (di (1 : Nat)) (some (.o (.ll [ds' ++ [.int 5], mkL ps' ++ [.int 5]]))) x15) (some x4)) := by
    unfold c4b4
    rw [fFor_e]
    refine (fOut_to (x := [.int (0 : Nat), .int (1 : Nat)]) (ρ1 := some x4) rfl).trans ?_
    rw [forGo_cons]
    show (match c4b4b (ws P q P1 q1 r c (wt r c ds' ps') (.tuple ds') (ptsK ps') x8 (di k) (dd (ti (sel (r * c) g))) (dd (.str z)) y12 (di (0 : Nat)) x14 x15) (some x4) with
      | some (.nx s2 ρ2) => forGo (fgName 13) c4b4b [.int (1 : Nat)] s2 ρ2
      | some (.ct s2 ρ2) => forGo (fgName 13) c4b4b [.int (1 : Nat)] s2 ρ2
      | some (.bk s2 ρ2) => some (.nx s2 ρ2)
      | o => o) = _
    rw [g1]
    show forGo (fgName 13) c4b4b [.int (1 : Nat)] _ _ = _
    rw [forGo_cons]
    show (match c4b4b (ws P q P1 q1 r c (wt r c ds' ps') (.tuple ds') (ptsK ps') x8 (di k) (dd (ti (sel (r * c) g))) (dd (.str z)) y12 (di (1 : Nat)) (some (.o (.ll [ds' ++ [.int 5], mkL ps' ++ [.int 5]]))) x15) (some x4) with
      | some (.nx s2 ρ2) => forGo (fgName 13) c4b4b [] s2 ρ2
      | some (.ct s2 ρ2) => forGo (fgName 13) c4b4b [] s2 ρ2
      | some (.bk s2 ρ2) => some (.nx s2 ρ2)
      | o => o) = _
    rw [g2]
    rfl
  refine ⟨ds', ps', di k, dd (ti (sel (r * c) g)), dd (.str z), y12, di (1 : Nat), some (.o (.ll [ds' ++ [.int 5], mkL ps' ++ [.int 5]])), x4, hb', hp', hx4, ?_⟩
  unfold c4b
  rw [fSeq_to t1, fSeq_to t2, fSeq_to t3]
  exact t4
theorem law_true (ns : List Int) (h : ns.length ≤ 63) (P : Addr) (q : Str) (LO : Nat → Addr → Addr → Addr → HO) (df : Nat → Bool) (P1 : Addr) (q1 : Str) : ∃ ρ', f_law P q LO df P1 q1 (lawS P q P1 q1) (some ⟨ns, 0, 0, 0⟩) = some (.rt (.bool true) ρ') := by
  obtain ⟨r, c, xa, e1, hB, hr5, hc5, hxa⟩ := d_board (x := ⟨ns, 0, 0, 0⟩) (Int.le_refl 0) (m := 5) (by decide)
  have h25 := rc25 hB
  have m2 : oIC cMul (fun i j => i * j) (.int (r : Int)) (.int (c : Int)) = some (.int (r * c : Nat)) := by
    rw [oMul_i (.inl (by omega)), Int.natCast_mul]
  obtain ⟨n, hn⟩ : ∃ n, n = r * c := ⟨_, rfl⟩
  rw [← hn] at m2
  have t1 : c1 (lawS P q P1 q1) (some ⟨ns, 0, 0, 0⟩) = some (.nx [some (.o (.t P q)), some .row, dd (bd r c), none, none, none, none, none, none, none, none, none, none, none, none, none, some (.o (.t P1 q1))] (some xa)) := fAsg_to (fCallR_to rfl (fCons_to rfl rfl) e1) rfl
  have t2 : c2 [some (.o (.t P q)), some .row, dd (bd r c), none, none, none, none, none, none, none, none, none, none, none, none, none, some (.o (.t P1 q1))] (some xa) = some (.nx [some (.o (.t P q)), some .row, dd (bd r c), di n, none, none, none, none, none, none, none, none, none, none, none, none, some (.o (.t P1 q1))] (some xa)) := fAsg_to (fOp_to (fOp_to (x := bd r c) rfl rfl rfl) (fOp_to (x := bd r c) rfl rfl rfl) m2) rfl
  have wa : ∀ s : Ss, s[2]? = some (dd (bd r c)) → oWatch F_require_board F_require_count (fVar 2) s (some xa) = some (.w (wt r c [] []), some xa) := fun s hs => by
    have v2 : fVar 2 s (some xa) = some (.ok (bd r c), some xa) := by rw [fVar_at, hs]
    unfold oWatch
    rw [v2]
    simp only []
    rw [v_require_board hB, v_require_count (show (1 : Int) ≤ 1 ∧ (1 : Int) ≤ 9 by decide)]
    rfl
  have t3 : c3 [some (.o (.t P q)), some .row, dd (bd r c), di n, none, none, none, none, none, none, none, none, none, none, none, none, some (.o (.t P1 q1))] (some xa) = some (.nx (ws P q P1 q1 r c (wt r c [] []) (.tuple []) (ptsK []) none none none none none none none none) (some xa)) := by
    unfold c3 fTup4
    rw [wa _ rfl]
    simp only []
    rw [wa _ rfl, hn]
    rfl
  obtain ⟨b, xb, e4, hb4, hxb⟩ := d_taken hxa (m := 2) (by decide)
  obtain ⟨lim, hlim, eix⟩ : ∃ m : Int, (1 ≤ m ∧ m ≤ 40) ∧ oIxL (.list [.int 13, .int 40]) (.int (b : Nat)) = some (.int m) := by
    have : b = 0 ∨ b = 1 := by omega
    rcases this with e | e <;> subst e
    · exact ⟨13, by decide, rfl⟩
    · exact ⟨40, by decide, rfl⟩
  obtain ⟨t, xc, e5, ht, hxc⟩ := d_taken hxb (m := lim) (by omega)
  obtain ⟨s', ρ', eL, ⟨ds, ps, hbt, hpt, y8, y9, y10, y11, y12, y13, y14, y15, hs⟩, x', hρ, _⟩ := for_ex (j := 8) (n := t) (b := c4b P q LO df P1 q1) (s := ws P q P1 q1 r c (wt r c [] []) (.tuple []) (ptsK []) none none none none none none none none) (ρ := some xc) (fun i s ρ => (∃ ds ps, BT r c ds ∧ PT r c i ps ∧ ∃ z8 z9 z10 z11 z12 z13 z14 z15, s = ws P q P1 q1 r c (wt r c ds ps) (.tuple ds) (ptsK ps) z8 z9 z10 z11 z12 z13 z14 z15) ∧ ∃ x : Rw, ρ = some x ∧ 0 ≤ x.i) (fun i hi s ρ ⟨⟨ds, ps, hbt, hpt, z8, z9, z10, z11, z12, z13, z14, z15, hs⟩, x, hρ, hx⟩ => by
    subst hs hρ
    obtain ⟨ds', ps', y9, y10, y11, y12, y13, y14, x', hb', hp', hx', e⟩ := turn_ok (P := P) (q := q) (P1 := P1) (q1 := q1) (LO := LO) (df := df) hB hbt (n := i) (by omega) hpt hx (di i) z9 z10 z11 z12 z13 z14 z15
    exact ⟨_, _, .inl e, ⟨ds', ps', hb', hp', _, _, _, _, _, _, _, _, rfl⟩, x', rfl, hx'⟩) ⟨⟨[], [], .nil, .nil, _, _, _, _, _, _, _, _, rfl⟩, _, rfl, hxc⟩
  subst hs hρ
  refine ⟨some x', ?_⟩
  have t4 : c4 P q LO df P1 q1 (ws P q P1 q1 r c (wt r c [] []) (.tuple []) (ptsK []) none none none none none none none none) (some xa) = some (.nx (ws P q P1 q1 r c (wt r c ds ps) (.tuple ds) (ptsK ps) y8 y9 y10 y11 y12 y13 y14 y15) (some x')) := by
    unfold c4
    rw [fFor_e]
    exact (fOut_to (x := upto 0 t) (ρ1 := some xc) (fIt_to (n := t) (fCons_to (fCallR_to rfl (fCons_to (fOp_to (x := .list [.int 13, .int 40]) (y := .int b) (ρ1 := some xa) rfl (fCallR_to rfl (fCons_to rfl rfl) e4) eix) rfl) e5) rfl) (by omega))).trans eL
  have t5 : c5 (ws P q P1 q1 r c (wt r c ds ps) (.tuple ds) (ptsK ps) y8 y9 y10 y11 y12 y13 y14 y15) (some x') = some (.rt (.bool true) (some x')) := by
    have mk := n_marks (r := r) (c := c) (bd r c) (.int 1) (.int 1) (.tuple []) (Nat.zero_le 50) .nil
    have m1 : fMethL YL_told 5 fNil (ws P q P1 q1 r c (wt r c ds ps) (.tuple ds) (ptsK ps) y8 y9 y10 y11 y12 y13 y14 y15) (some x') = some (.ok [], some x') := rfl
    have m2 : fMethL YL_marks 5 fNil (ws P q P1 q1 r c (wt r c ds ps) (.tuple ds) (ptsK ps) y8 y9 y10 y11 y12 y13 y14 y15) (some x') = some (.ok [], some x') := by
      unfold fMethL
      show bnd fNil _ _ _ = _
      rw [bnd_to (x := []) (ρ1 := some x') rfl]
      rw [show YL_marks (wt r c [] []) [] = some (.ok (.list []), wt r c [] []) from mk]
      rfl
    have m3 : vMeth Y_back 5 fNil (ws P q P1 q1 r c (wt r c ds ps) (.tuple ds) (ptsK ps) y8 y9 y10 y11 y12 y13 y14 y15) (some x') = some (.ok (.bool false), ws P q P1 q1 r c (wt r c ds ps) (.tuple ds) (ptsK ps) y8 y9 y10 y11 y12 y13 y14 y15, some x') := vMeth_to (t := wt r c [] []) (ds := []) rfl rfl (n_back0 _ _ _ _)
    have al : F__law_alike [.list [.list [], .list [], .bool false], .list [.list [], .list [], .bool false]] = some (.ok (.bool true)) := v_law_alike (by decide +kernel)
    have vl : vCall F__law_alike (vCons (vLst (vCons (vOf (fN (fMethL YL_told 5 fNil))) (vCons (vOf (fN (fMethL YL_marks 5 fNil))) (vCons (vMeth Y_back 5 fNil) vNil)))) (vCons (vOf (fN (fLst (fCons (fN (fLst fNil)) (fCons (fN (fLst fNil)) (fCons (ret (.bool false)) fNil)))))) vNil)) (ws P q P1 q1 r c (wt r c ds ps) (.tuple ds) (ptsK ps) y8 y9 y10 y11 y12 y13 y14 y15) (some x') = some (.ok (.bool true), ws P q P1 q1 r c (wt r c ds ps) (.tuple ds) (ptsK ps) y8 y9 y10 y11 y12 y13 y14 y15, some x') := by
      unfold vCall vBnd
      rw [vCons_to (vLst_to (vCons_to (vOf_to (fN_lc m1)) (vCons_to (vOf_to (fN_lc m2)) (vCons_to m3 (rfl : vNil _ _ = some (.ok [], _, _))))) (by show 3 ≤ 100000; decide)) (vCons_to (vOf_to (v := .list [.list [], .list [], .bool false]) (ρ1 := some x') rfl) (rfl : vNil _ _ = some (.ok [], _, _)))]
      simp only []
      rw [al]
    unfold c5 fRetV
    rw [vl]
  rw [law_cut, fSeq_to t1, fSeq_to t2, fSeq_to t3, fSeq_to t4]
  exact t5
end Sb

namespace Sb
open PySem PySem.Spec PyProof.Rows L2
open LamX
def topS (i : Nat) : Stmt := PySem.Challenge.pw_seamboard_k12_watched_beat_by_beat.main.body.getD i (.Pass ⟨0, 0, 0, 0⟩)
abbrev s__law_taken : Stmt := topS 36
abbrev N__law_taken : List Str := ["_law_row", "_law_many", "_law_found", "_law_cell"]
theorem sc__law_taken : FnScope N__law_taken ["_law_row", "_law_many"] (defScope s__law_taken) := ⟨rfl, rfl, rfl, by decide +kernel, rfl, by decide +kernel, by decide +kernel⟩
theorem bi__law_taken : BindsAt "_law_taken" s__law_taken ["_law_row", "_law_many"] := fun _ _ _ _ _ _ us hl => match us, hl with | [_, _], _ => rfl
set_option maxHeartbeats 2000000 in
theorem ok__law_taken {P : Program} {w : World} {K : PySem.W.Frag} {mg : Str → Option Value} {base : Heap} (A : FnAt K mg "_law_taken" s__law_taken)  (b_len : mg "len" = none)  : Has P w K mg base "_law_taken" 1 ["_law_row", "_law_many"] (spW K mg F__law_taken) :=
  hasW (N := N__law_taken) A bi__law_taken sc__law_taken (by decide) fun cdv f A outer s H E hr => by
    have nd := sc__law_taken.nd
    refine ⟨_, (pss_cons (ps_if (pt_cmpR op_gt (pe_ix (ix_listK (K := K) (by rfl)) (pv 0) pe_int (fun _ _ => rfl)) pe_int (nomark _)) (pss_cons (ps_set (i := 2) nd rfl (by first | exact .inl rfl | exact .inr rfl) (pe_op op_mod (pe_ix (ix_listK (K := K) (by rfl)) (pv 0) pe_int (fun _ _ => rfl)) (pv 1)))
    (pss_cons (ps_asg (pe_op op_fdiv (pe_ix (ix_listK (K := K) (by rfl)) (pv 0) pe_int (fun _ _ => rfl)) (pv 1)) (pg_sub (pv 0) pe_int set_list))
    (pss_one (ps_ret (pv 2))))) pss_nil)
    (pss_cons (ps_asg (pe_op op_add (pe_ix (ix_listK (K := K) (by rfl)) (pv 0) pe_int (fun _ _ => rfl)) pe_int) (pg_sub (pv 0) pe_int set_list))
    (pss_cons (ps_if (pt_cmpR op_gt (pe_ix (ix_listK (K := K) (by rfl)) (pv 0) pe_int (fun _ _ => rfl)) (pe_callB (kc_len (K := K) (by rfl)) (by rfl) b_len (by decide +kernel) (pa_cons (pe_ix (ix_listK (K := K) (by rfl)) (pv 0) pe_int (fun _ _ => rfl)) pa_nil)) (nomark _)) (pss_cons (ps_asg (pe_op op_mod (pe_op op_add (pe_op op_mul (pe_ix (ix_listK (K := K) (by rfl)) (pv 0) pe_int (fun _ _ => rfl)) pe_int) pe_int) pe_int) (pg_sub (pv 0) pe_int set_list))
    (pss_one (ps_ret (pe_op op_mod (pe_op op_fdiv (pe_ix (ix_listK (K := K) (by rfl)) (pv 0) pe_int (fun _ _ => rfl)) pe_int) (pv 1))))) pss_nil)
    (pss_cons (ps_set (i := 3) nd rfl (by first | exact .inl rfl | exact .inr rfl) (pe_ix (ix_listK (K := K) (by rfl)) (pe_ix (ix_listK (K := K) (by rfl)) (pv 0) pe_int (fun _ _ => rfl)) (pe_op op_sub (pe_ix (ix_listK (K := K) (by rfl)) (pv 0) pe_int (fun _ _ => rfl)) pe_int) (fun _ _ => rfl)))
    (pss_cons (ps_asg (pe_op op_mod (pe_op op_add (pe_op op_add (pe_op op_mul (pe_ix (ix_listK (K := K) (by rfl)) (pv 0) pe_int (fun _ _ => rfl)) pe_int) (pv 3)) pe_int) pe_int) (pg_sub (pv 0) pe_int set_list))
    (pss_cons (ps_if (pt_cmpR op_ge (pv 3) (pe_op op_pow pe_int pe_int) (nomark _)) (pss_one (ps_asg (pe_op op_fdiv (pv 3) (pv 1)) (pg_sub (pv 0) pe_int set_list))) pss_nil)
    (pss_one (ps_ret (pe_op op_mod (pv 3) (pv 1)))))))))), ?_⟩
    exact (xs_seq (xs_if (xt_test (xe_op (rvo_B _) (xe_rowI 0 3) (xe_int _))) (xs_seq (xs_asg (xe_op rvo_mod (xe_rowI 0 3) (xe_var 1)) (xg_name 2))
  (xs_seq (xs_rowSet 0 3 (xe_op rvo_div (xe_rowI 0 3) (xe_var 1)))
  (xs_ret (xe_var 2)))) xs_next)
  (xs_seq (xs_rowSet 0 1 (xe_op (rvo_I _) (xe_rowI 0 1) (xe_int _)))
  (xs_seq (xs_if (xt_test (xe_op (rvo_B _) (xe_rowI 0 1) (xe_rowLen 0))) (xs_seq (xs_rowSet 0 2 (xe_op rvo_mod (xe_op (rvo_I _) (xe_op rvo_mul (xe_rowI 0 2) (xe_int _)) (xe_int _)) (xe_int _)))
  (xs_ret (xe_op rvo_mod (xe_op rvo_div (xe_rowI 0 2) (xe_int _)) (xe_var 1)))) xs_next)
  (xs_seq (xs_asg (xe_rowAt 0 (xe_op (rvo_I _) (xe_rowI 0 1) (xe_int _))) (xg_name 3))
  (xs_seq (xs_rowSet 0 2 (xe_op rvo_mod (xe_op (rvo_I _) (xe_op (rvo_I _) (xe_op rvo_mul (xe_rowI 0 2) (xe_int _)) (xe_var 3)) (xe_int _)) (xe_int _)))
  (xs_seq (xs_if (xt_test (xe_op (rvo_B _) (xe_var 3) (xe_op rvo_pow (xe_int _) (xe_int _)))) (xs_rowSet 0 3 (xe_op rvo_div (xe_var 3) (xe_var 1))) xs_next)
  (xs_ret (xe_op rvo_mod (xe_var 3) (xe_var 1)))))))))
abbrev s__law_board : Stmt := topS 39
abbrev N__law_board : List Str := ["_law_row", "_law_most"]
theorem sc__law_board : FnScope N__law_board ["_law_row", "_law_most"] (defScope s__law_board) := ⟨rfl, rfl, rfl, by decide +kernel, rfl, by decide +kernel, by decide +kernel⟩
theorem bi__law_board : BindsAt "_law_board" s__law_board ["_law_row", "_law_most"] := fun _ _ _ _ _ _ us hl => match us, hl with | [_, _], _ => rfl
set_option maxHeartbeats 2000000 in
theorem ok__law_board {P : Program} {w : World} {K : PySem.W.Frag} {mg : Str → Option Value} {base : Heap} (A : FnAt K mg "_law_board" s__law_board)    (h__law_taken : Has P w K mg base "_law_taken" 1 ["_law_row", "_law_many"] (spW K mg F__law_taken)) : Has P w K mg base "_law_board" 2 ["_law_row", "_law_most"] (spW K mg F__law_board) :=
  hasW (N := N__law_board) A bi__law_board sc__law_board (by decide) fun cdv f A outer s H E hr => by
    have nd := sc__law_board.nd
    refine ⟨_, (pss_one (ps_ret (pe_tup (pa_cons (pe_op op_add pe_int (ca h__law_taken hr (by rfl) (pa_cons (pv 0) (pa_cons (pe_op op_sub (pv 1) pe_int) pa_nil)))) (pa_cons (pe_op op_add pe_int (ca h__law_taken hr (by rfl) (pa_cons (pv 0) (pa_cons (pe_op op_sub (pv 1) pe_int) pa_nil)))) pa_nil))))), ?_⟩
    exact (xs_ret (xe_tup (xa_cons (xe_op (rvo_I _) (xe_int _) (xe_callR (xa_cons (xe_op (rvo_I _) (xe_var 1) (xe_int _)) xa_nil))) (xa_cons (xe_op (rvo_I _) (xe_int _) (xe_callR (xa_cons (xe_op (rvo_I _) (xe_var 1) (xe_int _)) xa_nil))) xa_nil))))
abbrev s__law_alike : Stmt := topS 37
abbrev N__law_alike : List Str := ["_law_one", "_law_due", "_law_k"]
theorem sc__law_alike : FnScope N__law_alike ["_law_one", "_law_due"] (defScope s__law_alike) := ⟨rfl, rfl, rfl, by decide +kernel, rfl, by decide +kernel, by decide +kernel⟩
theorem bi__law_alike : BindsAt "_law_alike" s__law_alike ["_law_one", "_law_due"] := fun _ _ _ _ _ _ us hl => match us, hl with | [_, _], _ => rfl
set_option maxHeartbeats 2000000 in
theorem okr__law_alike {P : Program} {w : World} {K : PySem.W.Frag} {mg : Str → Option Value} {base : Heap} (A : FnAt K mg "_law_alike" s__law_alike)  (b_isinstance : mg "isinstance" = none) (b_tuple : mg "tuple" = none) (b_list : mg "list" = none) (b_len : mg "len" = none) (b_range : mg "range" = none) (b_bool : mg "bool" = none)  : ∀ i : Nat, Has P w K mg base "_law_alike" (0 + i) ["_law_one", "_law_due"] (spF K mg (R__law_alike i))
  | 0 => has_no A bi__law_alike _
  | i + 1 => hasF (N := N__law_alike) A bi__law_alike sc__law_alike fun cdv f A2 outer s H E hr => by
    have h__law_alike := okr__law_alike (P := P) (w := w) (base := base) A (b_isinstance := b_isinstance) (b_tuple := b_tuple) (b_list := b_list) (b_len := b_len) (b_range := b_range) (b_bool := b_bool) i
    have nd := sc__law_alike.nd
    refine ⟨_, (pss_cons (ps_if (PW.pt (pw_and (pt_val (pe_callB (kc_isiT (K := K) (by rfl)) (by rfl) b_isinstance (by decide +kernel) (pa_cons (pv 0) (pa_cons (pe_tup (pa_cons (pe_bltn (v := .ty "tuple") (by rfl) b_tuple (by decide +kernel) rfl) (pa_cons (pe_bltn (v := .ty "list") (by rfl) b_list (by decide +kernel) rfl) pa_nil))) pa_nil)))) (pw_and1 (pt_val (pe_callB (kc_isiT (K := K) (by rfl)) (by rfl) b_isinstance (by decide +kernel) (pa_cons (pv 1) (pa_cons (pe_tup (pa_cons (pe_bltn (v := .ty "tuple") (by rfl) b_tuple (by decide +kernel) rfl) (pa_cons (pe_bltn (v := .ty "list") (by rfl) b_list (by decide +kernel) rfl) pa_nil))) pa_nil))))))) (pss_cons (ps_if (PW.pt (pw_or (pt_cmpR (op_neK (K := K) (by rfl) (by exact hr.units)) (pe_callB (kc_isi (K := K) (by rfl)) (by rfl) b_isinstance (by decide +kernel) (pa_cons (pv 0) (pa_cons (pe_bltn (v := .ty "tuple") (by rfl) b_tuple (by decide +kernel) rfl) pa_nil))) (pe_callB (kc_isi (K := K) (by rfl)) (by rfl) b_isinstance (by decide +kernel) (pa_cons (pv 1) (pa_cons (pe_bltn (v := .ty "tuple") (by rfl) b_tuple (by decide +kernel) rfl) pa_nil))) (nomark _)) (pw_or1 (pt_cmpR (op_neK (K := K) (by rfl) (by exact hr.units)) (pe_callB (kc_len (K := K) (by rfl)) (by rfl) b_len (by decide +kernel) (pa_cons (pv 0) pa_nil)) (pe_callB (kc_len (K := K) (by rfl)) (by rfl) b_len (by decide +kernel) (pa_cons (pv 1) pa_nil)) (nomark _))))) (pss_one (ps_ret pe_bl)) pss_nil)
    (pss_one (ps_ret (pe_cmpR (op_eqK (K := K) (by rfl) (by exact hr.units)) (pe_lc (own := [("_law_k", 2)]) (g := gName 2) (by rfl) nd (pi_range1 (by rfl) b_range (pa_cons (pe_callB (kc_len (K := K) (by rfl)) (by rfl) b_len (by decide +kernel) (pa_cons (pv 0) pa_nil)) pa_nil)) (blkOk_by (own := [("_law_k", 2)]) (N := N__law_alike) (sc := defScope s__law_alike) (by decide +kernel)) (fun _ _ _ _ _ => (pg_name (i := 2) nd rfl (by first | exact .inl rfl | exact .inr rfl))) (fun _ _ _ _ _ => (pts_one (pt_not (pt_val (ca h__law_alike hr (by rfl) (pa_cons (pe_ix (ix_orK (K := K) (by rfl)) (pv 0) (pv 2) (fun _ _ => rfl)) (pa_cons (pe_ix (ix_orK (K := K) (by rfl)) (pv 1) (pv 2) (fun _ _ => rfl)) pa_nil))))))) (fun _ _ _ _ _ => (pv 2))) (pe_lst pa_nil) (nomark _))))) pss_nil)
    (pss_one (ps_ret (pe_and (pe_cmpR (op_eqK (K := K) (by rfl) (by exact hr.units)) (pv 0) (pv 1) (nomark _)) (pe_one (pe_cmpR (op_eqK (K := K) (by rfl) (by exact hr.units)) (pe_callB (kc_isi (K := K) (by rfl)) (by rfl) b_isinstance (by decide +kernel) (pa_cons (pv 0) (pa_cons (pe_bltn (v := .ty "bool") (by rfl) b_bool (by decide +kernel) rfl) pa_nil))) (pe_callB (kc_isi (K := K) (by rfl)) (by rfl) b_isinstance (by decide +kernel) (pa_cons (pv 1) (pa_cons (pe_bltn (v := .ty "bool") (by rfl) b_bool (by decide +kernel) rfl) pa_nil))) (nomark _))))))), ?_⟩
    exact (xs_seq (xs_if (xt_and (xt_B (xe_isiTL (xe_var 0))) (xt_B (xe_isiTL (xe_var 1)))) (xs_seq (xs_if (xt_or (xt_test (xe_op rvo_ne (xe_isi (xe_var 0)) (xe_isi (xe_var 1)))) (xt_test (xe_op rvo_ne (xe_cb rco_len (xa_cons (xe_var 0) xa_nil)) (xe_cb rco_len (xa_cons (xe_var 1) xa_nil))))) (xs_ret (xe_bl _)) xs_next)
  (xs_ret (xe_op rvo_eq (xe_n (xn_lc (xi_rng1 (xa_cons (xe_cb rco_len (xa_cons (xe_var 0) xa_nil)) xa_nil)) (xg_name 2) (by decide) (xt_not (xt_B (xe_call (xa_cons (xe_op rvo_ixO (xe_var 0) (xe_var 2)) (xa_cons (xe_op rvo_ixO (xe_var 1) (xe_var 2)) xa_nil))))) (xe_var 2))) (xe_n (xn_lst xa_nil))))) xs_next)
  (xs_ret (xe_andV (xe_op rvo_eq (xe_var 0) (xe_var 1)) (xe_op rvo_eq (xe_isi (xe_var 0)) (xe_isi (xe_var 1))))))
theorem ok__law_alike {P : Program} {w : World} {K : PySem.W.Frag} {mg : Str → Option Value} {base : Heap} (A : FnAt K mg "_law_alike" s__law_alike)  (b_isinstance : mg "isinstance" = none) (b_tuple : mg "tuple" = none) (b_list : mg "list" = none) (b_len : mg "len" = none) (b_range : mg "range" = none) (b_bool : mg "bool" = none)  : Has P w K mg base "_law_alike" 7 ["_law_one", "_law_due"] (spF K mg F__law_alike) := okr__law_alike A (b_isinstance := b_isinstance) (b_tuple := b_tuple) (b_list := b_list) (b_len := b_len) (b_range := b_range) (b_bool := b_bool) 7
abbrev s__law_some : Stmt := topS 40
abbrev N__law_some : List Str := ["_law_row", "_law_many", "_law_most", "_law_found", "_law_k", "_law_one"]
theorem sc__law_some : FnScope N__law_some ["_law_row", "_law_many", "_law_most"] (defScope s__law_some) := ⟨rfl, rfl, rfl, by decide +kernel, rfl, by decide +kernel, by decide +kernel⟩
theorem bi__law_some : BindsAt "_law_some" s__law_some ["_law_row", "_law_many", "_law_most"] := fun _ _ _ _ _ _ us hl => match us, hl with | [_, _, _], _ => rfl
set_option maxHeartbeats 2000000 in
theorem ok__law_some {P : Program} {w : World} {K : PySem.W.Frag} {mg : Str → Option Value} {base : Heap} (A : FnAt K mg "_law_some" s__law_some)  (b_range : mg "range" = none) (b_min : mg "min" = none) (b_int : mg "int" = none) (b_tuple : mg "tuple" = none) (b_sorted : mg "sorted" = none)  (h__law_taken : Has P w K mg base "_law_taken" 1 ["_law_row", "_law_many"] (spW K mg F__law_taken)) : Has P w K mg base "_law_some" 2 ["_law_row", "_law_many", "_law_most"] (spW K mg F__law_some) :=
  hasW (N := N__law_some) A bi__law_some sc__law_some (by decide) fun cdv f A outer s H E hr => by
    have nd := sc__law_some.nd
    refine ⟨_, (pss_cons (ps_set (i := 3) nd rfl (by first | exact .inl rfl | exact .inr rfl) (pe_lst pa_nil))
    (pss_cons (ps_for PassesOwn.never rfl (pi_range1 (by rfl) b_range (pa_cons (ca h__law_taken hr (by rfl) (pa_cons (pv 0) (pa_cons (pe_op op_add (pe_callB (call_min2 rfl) (by rfl) b_min (by decide +kernel) (pa_cons (pv 1) (pa_cons (pv 2) pa_nil))) pe_int) pa_nil))) pa_nil)) (pg_name (i := 4) nd rfl (by first | exact .inl rfl | exact .inr rfl)) (pss_cons (ps_set (i := 5) nd rfl (by first | exact .inl rfl | exact .inr rfl) (ca h__law_taken hr (by rfl) (pa_cons (pv 0) (pa_cons (pv 1) pa_nil))))
    (pss_one (ps_set (i := 3) nd rfl (by first | exact .inl rfl | exact .inr rfl) (pe_op op_cat (pv 3) (pe_op op_rep (pe_lst (pa_cons (pv 5) pa_nil)) (pe_callTy call_int1 (by rfl) b_int (by decide +kernel) (pa_cons (pe_cmpR (op_niK (K := K) (by rfl)) (pv 5) (pv 3) (by rfl)) pa_nil))))))))
    (pss_one (ps_ret (pe_callTy (kc_tup (K := K) (by rfl)) (by rfl) b_tuple (by decide +kernel) (pa_cons (pe_callB (kc_sorted (K := K) (by rfl)) (by rfl) b_sorted (by decide +kernel) (pa_cons (pv 3) pa_nil)) pa_nil)))))), ?_⟩
    exact (xs_seq (xs_asg (xe_n (xn_lst xa_nil)) (xg_name 3))
  (xs_seq (xs_for (xi_rng1 (xa_cons (xe_callR (xa_cons (xe_op (rvo_I _) (xe_cb rco_min2 (xa_cons (xe_var 1) (xa_cons (xe_var 2) xa_nil))) (xe_int _)) xa_nil)) xa_nil)) (xg_name 4) (xs_seq (xs_asg (xe_callR (xa_cons (xe_var 1) xa_nil)) (xg_name 5))
  (xs_asg (xe_n (xn_op rvn_cat (xe_var 3) (xe_n (xn_op rvn_rep (xe_n (xn_lst (xa_cons (xe_var 5) xa_nil))) (xe_cb rco_int (xa_cons (xe_op rvo_ni (xe_var 5) (xe_var 3)) xa_nil)))))) (xg_name 3))))
  (xs_ret (xe_cb rco_tup (xa_cons (xe_n (xn_cb rcn_sorted (xa_cons (xe_var 3) xa_nil))) xa_nil)))))
abbrev s_is_name : Stmt := topS 33
abbrev N_is_name : List Str := ["thing", "sign"]
theorem sc_is_name : FnScope N_is_name ["thing"] (defScope s_is_name) := ⟨rfl, rfl, rfl, by decide +kernel, rfl, by decide +kernel, by decide +kernel⟩
theorem bi_is_name : BindsAt "is_name" s_is_name ["thing"] := fun _ _ _ _ _ _ us hl => match us, hl with | [_], _ => rfl
set_option maxHeartbeats 2000000 in
theorem ok_is_name {P : Program} {w : World} {K : PySem.W.Frag} {mg : Str → Option Value} {base : Heap} (A : FnAt K mg "is_name" s_is_name)  (b_isinstance : mg "isinstance" = none) (b_str : mg "str" = none) (b_len : mg "len" = none) (b_all : mg "all" = none) {q_MOST_LETTERS : Tok} (m_MOST_LETTERS : mg "MOST_LETTERS" = some (.int 8 q_MOST_LETTERS)) {q_LETTERS : Tok} (m_LETTERS : mg "LETTERS" = some (.str "abcdefghijklmnopqrstuvwxyz" q_LETTERS)) : Has P w K mg base "is_name" 1 ["thing"] (spF K mg F_is_name) :=
  hasF (N := N_is_name) A bi_is_name sc_is_name fun cdv f A outer s H E hr => by
    have nd := sc_is_name.nd
    refine ⟨_, (pss_cons (ps_if (PW.pt (pw_or (pt_not (pt_val (pe_callB (kc_isi (K := K) (by rfl)) (by rfl) b_isinstance (by decide +kernel) (pa_cons (pv 0) (pa_cons (pe_bltn (v := .ty "str") (by rfl) b_str (by decide +kernel) rfl) pa_nil))))) (pw_or1 (pt_not (pt_chain op_le op_le pe_int (pe_callB kc_lenS (by rfl) b_len (by decide +kernel) (pa_cons (pv 0) pa_nil)) (pe_glob (v := .int 8) (by rfl) m_MOST_LETTERS ⟨_, rfl⟩)))))) (pss_one (ps_ret pe_bl)) pss_nil)
    (pss_one (ps_ret (pe_callB (kc_all (K := K) (by rfl) rfl) (by rfl) b_all (by decide +kernel) (pa_cons (pe_lc (own := [("sign", 1)]) (g := gName 1) (tt := tYes) (by rfl) nd (pi_str (pv 0)) (blkOk_by (own := [("sign", 1)]) (N := N_is_name) (sc := defScope s_is_name) (by decide +kernel)) (fun _ _ _ _ _ => (pg_name (i := 1) nd rfl (by first | exact .inl rfl | exact .inr rfl))) (fun _ _ _ _ _ => pts_nil) (fun _ _ _ _ _ => (pe_cmpR op_inC (pv 1) (pe_glob (v := .str "abcdefghijklmnopqrstuvwxyz") (by rfl) m_LETTERS ⟨_, rfl⟩) (by rfl)))) pa_nil))))), ?_⟩
    exact (xs_seq (xs_if (xt_or (xt_not (xt_B (xe_isi (xe_var 0)))) (xt_not (xt_test (xe_chain (rvo_B _) (rvo_B _) (xe_int _) (xe_cb rco_lenS (xa_cons (xe_var 0) xa_nil)) (xe_int 8))))) (xs_ret (xe_bl _)) xs_next)
  (xs_ret (xe_cb rco_all (xa_cons (xe_n (xn_lc (xi_str (xe_var 0)) (xg_name 1) (by decide) xt_yes (xe_op rvo_inC (xe_var 1) (xe_str _)))) xa_nil))))
abbrev s_w_mark : Stmt := inClass (topS 34) 5
abbrev N_w_mark : List Str := ["self", "name"]
theorem sc_w_mark : FnScope N_w_mark ["self", "name"] (defScope s_w_mark) := ⟨rfl, rfl, rfl, by decide +kernel, rfl, by decide +kernel, by decide +kernel⟩
theorem bi_w_mark : ∀ (kV doc pm : Value) (an : Option Addr) (cdv ct : Value) (us : List Value), us.length = 2 → bindArgs (PySem.W.fnOf "mark" "Watch.mark" (defArgs s_w_mark) (defBody s_w_mark) (defScope s_w_mark) .none kV doc pm an cdv ct) ⟨us, []⟩ = pure ((["self", "name"] : List Str).zip us) := fun _ _ _ _ _ _ us hl => match us, hl with | [_, _], _ => rfl
set_option maxHeartbeats 2000000 in
theorem ok_w_mark {P : Program} {w : World} {K : PySem.W.Frag} {mg : Str → Option Value} {base : Heap} {C f : Addr} {fd : FuncData} (hF : Fun K "mark" "Watch.mark" s_w_mark f fd) (T : WTxt K C)    (h_is_name : Has P w K mg base "is_name" 1 ["thing"] (spF K mg F_is_name)) : FnOk P w K mg base CX0 3 f fd ["self", "name"] (spY K mg C false Y_mark) :=
  hasY (N := N_w_mark) hF T sc_w_mark (by decide) fun cdv A outer s H E hr => by
    have nd := sc_w_mark.nd
    refine ⟨_, (pss_cons (ps_if (pt_not (pt_val (ca h_is_name (hr.mono (by decide)) (by rfl) (pa_cons (pv 1) pa_nil)))) (pss_one ps_never) pss_nil)
    (pss_one (ps_dput hr.units1 (pe_fld (pv 0) rfl) (pv 1) (pe_fld (pv 0) rfl) rfl))), ?_⟩
    exact (ys_seq (ys_if (xt_not (xt_B (xe_call (xa_cons (xe_var 1) xa_nil)))) ys_never ys_next)
  (ys_mark T (j := 1)))
abbrev s_w_go : Stmt := inClass (topS 34) 6
abbrev N_w_go : List Str := ["self", "name"]
theorem sc_w_go : FnScope N_w_go ["self", "name"] (defScope s_w_go) := ⟨rfl, rfl, rfl, by decide +kernel, rfl, by decide +kernel, by decide +kernel⟩
theorem bi_w_go : ∀ (kV doc pm : Value) (an : Option Addr) (cdv ct : Value) (us : List Value), us.length = 2 → bindArgs (PySem.W.fnOf "go" "Watch.go" (defArgs s_w_go) (defBody s_w_go) (defScope s_w_go) .none kV doc pm an cdv ct) ⟨us, []⟩ = pure ((["self", "name"] : List Str).zip us) := fun _ _ _ _ _ _ us hl => match us, hl with | [_, _], _ => rfl
set_option maxHeartbeats 2000000 in
theorem ok_w_go {P : Program} {w : World} {K : PySem.W.Frag} {mg : Str → Option Value} {base : Heap} {C f : Addr} {fd : FuncData} (hF : Fun K "go" "Watch.go" s_w_go f fd) (T : WTxt K C)  (b_isinstance : mg "isinstance" = none) (b_str : mg "str" = none)  : FnOk P w K mg base CX0 3 f fd ["self", "name"] (spY K mg C false Y_go) :=
  hasY (N := N_w_go) hF T sc_w_go (by decide) fun cdv A outer s H E hr => by
    have nd := sc_w_go.nd
    refine ⟨_, (pss_cons (ps_if (PW.pt (pw_or (pt_not (pt_val (pe_callB (kc_isi (K := K) (by rfl)) (by rfl) b_isinstance (by decide +kernel) (pa_cons (pv 1) (pa_cons (pe_bltn (v := .ty "str") (by rfl) b_str (by decide +kernel) rfl) pa_nil))))) (pw_or1 (pt_cmp (pc_dnotin hr.units1 (pv 1) (pe_fld (pv 0) rfl)))))) (pss_one ps_never) pss_nil)
    (pss_one (ps_fld (pv 0) (pe_dget (by exact hr.units1) (pe_fldK (K := K) (by rfl) (pv 0) rfl) (pv 1) (fun _ _ => rfl)) rfl))), ?_⟩
    exact (ys_seq (ys_if (xt_or (xt_not (xt_B (xe_isi (xe_var 1)))) (xt_B (xe_pni T (xe_var 1)))) ys_never ys_next)
  (ys_setT T (xe_pget T (xe_var 1))))
abbrev s_is_whole : Stmt := topS 19
abbrev N_is_whole : List Str := ["thing"]
theorem sc_is_whole : FnScope N_is_whole ["thing"] (defScope s_is_whole) := ⟨rfl, rfl, rfl, by decide +kernel, rfl, by decide +kernel, by decide +kernel⟩
theorem bi_is_whole : BindsAt "is_whole" s_is_whole ["thing"] := fun _ _ _ _ _ _ us hl => match us, hl with | [_], _ => rfl
set_option maxHeartbeats 2000000 in
theorem ok_is_whole {P : Program} {w : World} {K : PySem.W.Frag} {mg : Str → Option Value} {base : Heap} (A : FnAt K mg "is_whole" s_is_whole)  (b_isinstance : mg "isinstance" = none) (b_int : mg "int" = none) (b_bool : mg "bool" = none)  : Has P w K mg base "is_whole" 1 ["thing"] (spF K mg F_is_whole) :=
  hasF (N := N_is_whole) A bi_is_whole sc_is_whole fun cdv f A outer s H E hr => by
    have nd := sc_is_whole.nd
    refine ⟨_, (pss_one (ps_ret (pe_and (pe_callB (kc_isi (K := K) (by rfl)) (by rfl) b_isinstance (by decide +kernel) (pa_cons (pv 0) (pa_cons (pe_bltn (v := .ty "int") (by rfl) b_int (by decide +kernel) rfl) pa_nil))) (pe_one (pe_not (pe_callB (kc_isi (K := K) (by rfl)) (by rfl) b_isinstance (by decide +kernel) (pa_cons (pv 0) (pa_cons (pe_bltn (v := .ty "bool") (by rfl) b_bool (by decide +kernel) rfl) pa_nil)))))))), ?_⟩
    exact (xs_ret (xe_andV (xe_isi (xe_var 0)) (xe_notV (xe_isi (xe_var 0)))))
abbrev s_first_misplaced : Stmt := topS 22
abbrev N_first_misplaced : List Str := ["things", "many", "lowest", "place", "thing"]
theorem sc_first_misplaced : FnScope N_first_misplaced ["things", "many"] (defScope s_first_misplaced) := ⟨rfl, rfl, rfl, by decide +kernel, rfl, by decide +kernel, by decide +kernel⟩
theorem bi_first_misplaced : BindsAt "first_misplaced" s_first_misplaced ["things", "many"] := fun _ _ _ _ _ _ us hl => match us, hl with | [_, _], _ => rfl
set_option maxHeartbeats 2000000 in
theorem ok_first_misplaced {P : Program} {w : World} {K : PySem.W.Frag} {mg : Str → Option Value} {base : Heap} (A : FnAt K mg "first_misplaced" s_first_misplaced)  (b_isinstance : mg "isinstance" = none) (b_tuple : mg "tuple" = none) (b_enumerate : mg "enumerate" = none)  (h_is_whole : Has P w K mg base "is_whole" 1 ["thing"] (spF K mg F_is_whole)) : Has P w K mg base "first_misplaced" 2 ["things", "many"] (spF K mg F_first_misplaced) :=
  hasF (N := N_first_misplaced) A bi_first_misplaced sc_first_misplaced fun cdv f A outer s H E hr => by
    have nd := sc_first_misplaced.nd
    refine ⟨_, (pss_cons (ps_if (pt_not (pt_val (pe_callB (kc_isi (K := K) (by rfl)) (by rfl) b_isinstance (by decide +kernel) (pa_cons (pv 0) (pa_cons (pe_bltn (v := .ty "tuple") (by rfl) b_tuple (by decide +kernel) rfl) pa_nil))))) (pss_one (ps_ret pe_int)) pss_nil)
    (pss_cons (ps_set (i := 2) nd rfl (by first | exact .inl rfl | exact .inr rfl) pe_int)
    (pss_cons (ps_for PassesOwn.never rfl (pi_enumTK (K := K) (by rfl) (by rfl) b_enumerate (pa_cons (pv 0) pa_nil)) (pg_tup (by rfl) (pgs_cons (pg_name (i := 3) nd rfl (by first | exact .inl rfl | exact .inr rfl)) (pgs_cons (pg_name (i := 4) nd rfl (by first | exact .inl rfl | exact .inr rfl)) pgs_nil))) (pss_cons (ps_if (PW.pt (pw_or (pt_not (pt_val (ca h_is_whole hr (by rfl) (pa_cons (pv 4) pa_nil)))) (pw_or (pt_cmpR op_lt (pv 4) (pv 2) (nomark _)) (pw_or1 (pt_cmpR op_ge (pv 4) (pv 1) (nomark _)))))) (pss_one (ps_ret (pv 3))) pss_nil)
    (pss_one (ps_set (i := 2) nd rfl (by first | exact .inl rfl | exact .inr rfl) (pe_op op_add (pv 4) pe_int)))))
    (pss_one (ps_ret pe_non))))), ?_⟩
    exact (xs_seq (xs_if (xt_not (xt_B (xe_isi (xe_var 0)))) (xs_ret (xe_int _)) xs_next)
  (xs_seq (xs_asg (xe_int _) (xg_name 2))
  (xs_seq (xs_for (xi_enumT (xe_var 0)) (xg_tup (K := K) (n := 2) (xgs_cons (xg_name 3) (xgs_cons (xg_name 4) xgs_nil))) (xs_seq (xs_if (xt_or (xt_not (xt_B (xe_call (xa_cons (xe_var 4) xa_nil)))) (xt_or (xt_test (xe_op (rvo_B _) (xe_var 4) (xe_var 2))) (xt_test (xe_op (rvo_B _) (xe_var 4) (xe_var 1))))) (xs_ret (xe_var 3)) xs_next)
  (xs_asg (xe_op (rvo_I _) (xe_var 4) (xe_int _)) (xg_name 2))))
  (xs_ret xe_non))))
abbrev s_site_count : Stmt := topS 24
abbrev N_site_count : List Str := ["board"]
theorem sc_site_count : FnScope N_site_count ["board"] (defScope s_site_count) := ⟨rfl, rfl, rfl, by decide +kernel, rfl, by decide +kernel, by decide +kernel⟩
theorem bi_site_count : BindsAt "site_count" s_site_count ["board"] := fun _ _ _ _ _ _ us hl => match us, hl with | [_], _ => rfl
set_option maxHeartbeats 2000000 in
theorem ok_site_count {P : Program} {w : World} {K : PySem.W.Frag} {mg : Str → Option Value} {base : Heap} (A : FnAt K mg "site_count" s_site_count)    : Has P w K mg base "site_count" 1 ["board"] (spF K mg F_site_count) :=
  hasF (N := N_site_count) A bi_site_count sc_site_count fun cdv f A outer s H E hr => by
    have nd := sc_site_count.nd
    refine ⟨_, (pss_one (ps_ret (pe_op op_mul (pe_ix (ix_tupK (K := K) (by rfl)) (pv 0) pe_int (fun _ _ => rfl)) (pe_ix (ix_tupK (K := K) (by rfl)) (pv 0) pe_int (fun _ _ => rfl))))), ?_⟩
    exact (xs_ret (xe_op rvo_mul (xe_op rvo_ixT (xe_var 0) (xe_int _)) (xe_op rvo_ixT (xe_var 0) (xe_int _))))
abbrev s_require_lit : Stmt := topS 23
abbrev N_require_lit : List Str := ["board", "lit", "place"]
theorem sc_require_lit : FnScope N_require_lit ["board", "lit"] (defScope s_require_lit) := ⟨rfl, rfl, rfl, by decide +kernel, rfl, by decide +kernel, by decide +kernel⟩
theorem bi_require_lit : BindsAt "require_lit" s_require_lit ["board", "lit"] := fun _ _ _ _ _ _ us hl => match us, hl with | [_, _], _ => rfl
set_option maxHeartbeats 2000000 in
theorem ok_require_lit {P : Program} {w : World} {K : PySem.W.Frag} {mg : Str → Option Value} {base : Heap} (A : FnAt K mg "require_lit" s_require_lit)    (h_first_misplaced : Has P w K mg base "first_misplaced" 2 ["things", "many"] (spF K mg F_first_misplaced)) (h_site_count : Has P w K mg base "site_count" 1 ["board"] (spF K mg F_site_count)) : Has P w K mg base "require_lit" 3 ["board", "lit"] (spF K mg F_require_lit) :=
  hasF (N := N_require_lit) A bi_require_lit sc_require_lit fun cdv f A outer s H E hr => by
    have nd := sc_require_lit.nd
    refine ⟨_, (pss_cons (ps_set (i := 2) nd rfl (by first | exact .inl rfl | exact .inr rfl) (ca h_first_misplaced hr (by rfl) (pa_cons (pv 1) (pa_cons (ca h_site_count (hr.mono (by decide)) (by rfl) (pa_cons (pv 0) pa_nil)) pa_nil))))
    (pss_one (ps_if (pt_cmpR op_notN (pv 2) pe_non (nomark _)) (pss_one ps_never) pss_nil))), ?_⟩
    exact (xs_seq (xs_asg (xe_call (xa_cons (xe_var 1) (xa_cons (xe_call (xa_cons (xe_var 0) xa_nil)) xa_nil))) (xg_name 2))
  (xs_if (xt_test (xe_op rvo_notN (xe_var 2) xe_non)) xs_never xs_next))
abbrev s_w_beat : Stmt := inClass (topS 34) 1
abbrev N_w_beat : List Str := ["self", "lit"]
theorem sc_w_beat : FnScope N_w_beat ["self", "lit"] (defScope s_w_beat) := ⟨rfl, rfl, rfl, by decide +kernel, rfl, by decide +kernel, by decide +kernel⟩
theorem bi_w_beat : ∀ (kV doc pm : Value) (an : Option Addr) (cdv ct : Value) (us : List Value), us.length = 2 → bindArgs (PySem.W.fnOf "beat" "Watch.beat" (defArgs s_w_beat) (defBody s_w_beat) (defScope s_w_beat) .none kV doc pm an cdv ct) ⟨us, []⟩ = pure ((["self", "lit"] : List Str).zip us) := fun _ _ _ _ _ _ us hl => match us, hl with | [_, _], _ => rfl
set_option maxHeartbeats 2000000 in
theorem ok_w_beat {P : Program} {w : World} {K : PySem.W.Frag} {mg : Str → Option Value} {base : Heap} {C f : Addr} {fd : FuncData} (hF : Fun K "beat" "Watch.beat" s_w_beat f fd) (T : WTxt K C)  (b_len : mg "len" = none) {q_MOST_BEATS : Tok} (m_MOST_BEATS : mg "MOST_BEATS" = some (.int 5 q_MOST_BEATS)) (h_require_lit : Has P w K mg base "require_lit" 3 ["board", "lit"] (spF K mg F_require_lit)) : FnOk P w K mg base CX0 4 f fd ["self", "lit"] (spY K mg C false Y_beat) :=
  hasY (N := N_w_beat) hF T sc_w_beat (by decide) fun cdv A outer s H E hr => by
    have nd := sc_w_beat.nd
    refine ⟨_, (pss_cons (ps_expr (ca h_require_lit hr (by rfl) (pa_cons (pe_fld (pv 0) rfl) (pa_cons (pv 1) pa_nil))))
    (pss_cons (ps_if (pt_cmpR (op_eqK (K := K) (by rfl) (by exact hr.units)) (pe_callB (kc_len (K := K) (by rfl)) (by rfl) b_len (by decide +kernel) (pa_cons (pe_fld (pv 0) rfl) pa_nil)) (pe_glob (v := .int 5) (by rfl) m_MOST_BEATS ⟨_, rfl⟩) (nomark _)) (pss_one ps_never) pss_nil)
    (pss_cons (ps_fld (pv 0) (pe_tup (pa_starK (K := K) (by rfl) (pe_fld (pv 0) rfl) (pa_cons (pv 1) pa_nil))) rfl)
    (pss_one (ps_ret (pe_callB (kc_len (K := K) (by rfl)) (by rfl) b_len (by decide +kernel) (pa_cons (pe_fld (pv 0) rfl) pa_nil))))))), ?_⟩
    exact (ys_seq (ys_drop (xe_call (xa_cons (xe_fld T .b) (xa_cons (xe_var 1) xa_nil))))
  (ys_seq (ys_if (xt_test (xe_op rvo_eq (xe_cb rco_len (xa_cons (xe_fld T .t) xa_nil)) (xe_int 5))) ys_never ys_next)
  (ys_seq (ys_setT T (xe_tup (xa_star (xe_fld T .t) (xa_cons (xe_var 1) xa_nil))))
  (ys_ret (xe_cb rco_len (xa_cons (xe_fld T .t) xa_nil))))))
abbrev s_is_side : Stmt := topS 20
abbrev N_is_side : List Str := ["thing"]
theorem sc_is_side : FnScope N_is_side ["thing"] (defScope s_is_side) := ⟨rfl, rfl, rfl, by decide +kernel, rfl, by decide +kernel, by decide +kernel⟩
theorem bi_is_side : BindsAt "is_side" s_is_side ["thing"] := fun _ _ _ _ _ _ us hl => match us, hl with | [_], _ => rfl
set_option maxHeartbeats 2000000 in
theorem ok_is_side {P : Program} {w : World} {K : PySem.W.Frag} {mg : Str → Option Value} {base : Heap} (A : FnAt K mg "is_side" s_is_side)   {q_LEAST_SIDE : Tok} (m_LEAST_SIDE : mg "LEAST_SIDE" = some (.int 2 q_LEAST_SIDE)) {q_MOST_SIDE : Tok} (m_MOST_SIDE : mg "MOST_SIDE" = some (.int 5 q_MOST_SIDE)) (h_is_whole : Has P w K mg base "is_whole" 1 ["thing"] (spF K mg F_is_whole)) : Has P w K mg base "is_side" 2 ["thing"] (spF K mg F_is_side) :=
  hasF (N := N_is_side) A bi_is_side sc_is_side fun cdv f A outer s H E hr => by
    have nd := sc_is_side.nd
    refine ⟨_, (pss_one (ps_ret (pe_and (ca h_is_whole hr (by rfl) (pa_cons (pv 0) pa_nil)) (pe_one (pe_chain op_le op_le (pe_glob (v := .int 2) (by rfl) m_LEAST_SIDE ⟨_, rfl⟩) (pv 0) (pe_glob (v := .int 5) (by rfl) m_MOST_SIDE ⟨_, rfl⟩)))))), ?_⟩
    exact (xs_ret (xe_andV (xe_call (xa_cons (xe_var 0) xa_nil)) (xe_chain (rvo_B _) (rvo_B _) (xe_int 2) (xe_var 0) (xe_int 5))))
abbrev s_require_board : Stmt := topS 21
abbrev N_require_board : List Str := ["board"]
theorem sc_require_board : FnScope N_require_board ["board"] (defScope s_require_board) := ⟨rfl, rfl, rfl, by decide +kernel, rfl, by decide +kernel, by decide +kernel⟩
theorem bi_require_board : BindsAt "require_board" s_require_board ["board"] := fun _ _ _ _ _ _ us hl => match us, hl with | [_], _ => rfl
set_option maxHeartbeats 2000000 in
theorem ok_require_board {P : Program} {w : World} {K : PySem.W.Frag} {mg : Str → Option Value} {base : Heap} (A : FnAt K mg "require_board" s_require_board)  (b_isinstance : mg "isinstance" = none) (b_tuple : mg "tuple" = none) (b_len : mg "len" = none)  (h_is_side : Has P w K mg base "is_side" 2 ["thing"] (spF K mg F_is_side)) : Has P w K mg base "require_board" 3 ["board"] (spF K mg F_require_board) :=
  hasF (N := N_require_board) A bi_require_board sc_require_board fun cdv f A outer s H E hr => by
    have nd := sc_require_board.nd
    refine ⟨_, (pss_cons (ps_if (PW.pt (pw_or (pt_not (pt_val (pe_callB (kc_isi (K := K) (by rfl)) (by rfl) b_isinstance (by decide +kernel) (pa_cons (pv 0) (pa_cons (pe_bltn (v := .ty "tuple") (by rfl) b_tuple (by decide +kernel) rfl) pa_nil))))) (pw_or1 (pt_cmpR (op_neK (K := K) (by rfl) (by exact hr.units)) (pe_callB (kc_len (K := K) (by rfl)) (by rfl) b_len (by decide +kernel) (pa_cons (pv 0) pa_nil)) pe_int (nomark _))))) (pss_one ps_never) pss_nil)
    (pss_one (ps_if (PW.pt (pw_or (pt_not (pt_val (ca h_is_side hr (by rfl) (pa_cons (pe_ix (ix_tupK (K := K) (by rfl)) (pv 0) pe_int (fun _ _ => rfl)) pa_nil)))) (pw_or1 (pt_not (pt_val (ca h_is_side hr (by rfl) (pa_cons (pe_ix (ix_tupK (K := K) (by rfl)) (pv 0) pe_int (fun _ _ => rfl)) pa_nil))))))) (pss_one ps_never) pss_nil))), ?_⟩
    exact (xs_seq (xs_if (xt_or (xt_not (xt_B (xe_isi (xe_var 0)))) (xt_test (xe_op rvo_ne (xe_cb rco_len (xa_cons (xe_var 0) xa_nil)) (xe_int _)))) xs_never xs_next)
  (xs_if (xt_or (xt_not (xt_B (xe_call (xa_cons (xe_op rvo_ixT (xe_var 0) (xe_int _)) xa_nil)))) (xt_not (xt_B (xe_call (xa_cons (xe_op rvo_ixT (xe_var 0) (xe_int _)) xa_nil))))) xs_never xs_next))
abbrev s_require_count : Stmt := topS 29
abbrev N_require_count : List Str := ["count"]
theorem sc_require_count : FnScope N_require_count ["count"] (defScope s_require_count) := ⟨rfl, rfl, rfl, by decide +kernel, rfl, by decide +kernel, by decide +kernel⟩
theorem bi_require_count : BindsAt "require_count" s_require_count ["count"] := fun _ _ _ _ _ _ us hl => match us, hl with | [_], _ => rfl
set_option maxHeartbeats 2000000 in
theorem ok_require_count {P : Program} {w : World} {K : PySem.W.Frag} {mg : Str → Option Value} {base : Heap} (A : FnAt K mg "require_count" s_require_count)   {q_LEAST_COUNT : Tok} (m_LEAST_COUNT : mg "LEAST_COUNT" = some (.int 1 q_LEAST_COUNT)) {q_MOST_COUNT : Tok} (m_MOST_COUNT : mg "MOST_COUNT" = some (.int 9 q_MOST_COUNT)) (h_is_whole : Has P w K mg base "is_whole" 1 ["thing"] (spF K mg F_is_whole)) : Has P w K mg base "require_count" 2 ["count"] (spF K mg F_require_count) :=
  hasF (N := N_require_count) A bi_require_count sc_require_count fun cdv f A outer s H E hr => by
    have nd := sc_require_count.nd
    refine ⟨_, (pss_one (ps_if (PW.pt (pw_or (pt_not (pt_val (ca h_is_whole hr (by rfl) (pa_cons (pv 0) pa_nil)))) (pw_or1 (pt_not (pt_chain op_le op_le (pe_glob (v := .int 1) (by rfl) m_LEAST_COUNT ⟨_, rfl⟩) (pv 0) (pe_glob (v := .int 9) (by rfl) m_MOST_COUNT ⟨_, rfl⟩)))))) (pss_one ps_never) pss_nil)), ?_⟩
    exact (xs_if (xt_or (xt_not (xt_B (xe_call (xa_cons (xe_var 0) xa_nil)))) (xt_not (xt_test (xe_chain (rvo_B _) (rvo_B _) (xe_int 1) (xe_var 0) (xe_int 9))))) xs_never xs_next)
abbrev s_w___init__ : Stmt := inClass (topS 34) 0
abbrev N_w___init__ : List Str := ["self", "board", "flip", "lie"]
theorem sc_w___init__ : FnScope N_w___init__ ["self", "board", "flip", "lie"] (defScope s_w___init__) := ⟨rfl, rfl, rfl, by decide +kernel, rfl, by decide +kernel, by decide +kernel⟩
theorem kcd_w___init__ : ∀ (D : Addr) (doc pm : Value) (an : Option Addr) (cdv ct : Value) (us mv ws : List Value), us.length = 2 → mv.length = 2 → ws.length = 0 →
      KwChain D ((["flip", "lie"] : List Str).zip mv) (bindArgs (PySem.W.fnOf "__init__" "Watch.__init__" (defArgs s_w___init__) (defBody s_w___init__) (defScope s_w___init__) .none (.ref D) doc pm an cdv ct) ⟨us, ([] : List Str).zip ws⟩) ((["self", "board", "flip", "lie"] : List Str).zip (us ++ mv ++ ws)) :=
  fun D doc pm an cdv ct us mv ws h1 h2 h3 => match us, mv, ws, h1, h2, h3 with | [_, _], [_, _], [], _, _, _ => ⟨_, _, _, _, _, _, rfl, rfl, ⟨_, _, _, _, _, _, rfl, rfl, rfl⟩⟩
set_option maxHeartbeats 2000000 in
theorem ok_w___init__ {P : Program} {w : World} {K : PySem.W.Frag} {mg : Str → Option Value} {base : Heap} {C f : Addr} {fd : FuncData} (hF : Fun K "__init__" "Watch.__init__" s_w___init__ f fd) (T : WTxt K C)    (h_require_board : Has P w K mg base "require_board" 3 ["board"] (spF K mg F_require_board)) (h_require_count : Has P w K mg base "require_count" 2 ["count"] (spF K mg F_require_count)) : FnOk P w K mg base CX0 4 f fd ["self", "board", "flip", "lie"] (spInit K C F_require_board F_require_count) := by
  refine hF.ok sc_w___init__ (fun vs H Q E h => ?_) (fun cdv A outer s H vs Q E hr h => ?_)
  · obtain ⟨_, _, _, _, _, _, _, _, _, rfl, _⟩ := h
    rfl
  · exact ⟨_, (pss_cons (ps_expr (ca h_require_board hr (by rfl) (pa_cons (pv 1) pa_nil)))
    (pss_cons (ps_expr (ca h_require_count (hr.mono (by decide)) (by rfl) (pa_cons (pv 2) pa_nil)))
    (pss_cons (ps_expr (ca h_require_count (hr.mono (by decide)) (by rfl) (pa_cons (pv 3) pa_nil)))
    (pss_cons (ps_fld (pv 0) (pv 1) rfl)
    (pss_cons (ps_fld (pv 0) (pv 2) rfl)
    (pss_cons (ps_fld (pv 0) (pv 3) rfl)
    (pss_cons (ps_fld (pv 0) (pe_tup pa_nil) rfl)
    (pss_one (ps_fld (pv 0) pe_dnewK rfl))))))))), init_go T h⟩
abbrev s_w_told : Stmt := inClass (topS 34) 3
abbrev N_w_told : List Str := ["self"]
theorem sc_w_told : FnScope N_w_told ["self"] (defScope s_w_told) := ⟨rfl, rfl, rfl, by decide +kernel, rfl, by decide +kernel, by decide +kernel⟩
theorem bi_w_told : ∀ (kV doc pm : Value) (an : Option Addr) (cdv ct : Value) (us : List Value), us.length = 1 → bindArgs (PySem.W.fnOf "told" "Watch.told" (defArgs s_w_told) (defBody s_w_told) (defScope s_w_told) .none kV doc pm an cdv ct) ⟨us, []⟩ = pure ((["self"] : List Str).zip us) := fun _ _ _ _ _ _ us hl => match us, hl with | [_], _ => rfl
set_option maxHeartbeats 2000000 in
theorem ok_w_told {P : Program} {w : World} {K : PySem.W.Frag} {mg : Str → Option Value} {base : Heap} {C f : Addr} {fd : FuncData} (hF : Fun K "told" "Watch.told" s_w_told f fd) (T : WTxt K C)  (b_list : mg "list" = none)  : FnOk P w K mg base CX0 1 f fd ["self"] (spYL K C YL_told) :=
  hasYL (N := N_w_told) hF T sc_w_told (by decide) fun cdv A outer s H E hr => by
    have nd := sc_w_told.nd
    refine ⟨_, (pss_one (ps_ret (pe_callTy (kc_list (K := K) (by rfl)) (by rfl) b_list (by decide +kernel) (pa_cons (pe_fld (pv 0) rfl) pa_nil)))), ?_⟩
    exact (xn_cb rcn_listOf (xa_cons (xe_fld T .t) xa_nil))
abbrev s_w_marks : Stmt := inClass (topS 34) 7
abbrev N_w_marks : List Str := ["self", "name"]
theorem sc_w_marks : FnScope N_w_marks ["self"] (defScope s_w_marks) := ⟨rfl, rfl, rfl, by decide +kernel, rfl, by decide +kernel, by decide +kernel⟩
theorem bi_w_marks : ∀ (kV doc pm : Value) (an : Option Addr) (cdv ct : Value) (us : List Value), us.length = 1 → bindArgs (PySem.W.fnOf "marks" "Watch.marks" (defArgs s_w_marks) (defBody s_w_marks) (defScope s_w_marks) .none kV doc pm an cdv ct) ⟨us, []⟩ = pure ((["self"] : List Str).zip us) := fun _ _ _ _ _ _ us hl => match us, hl with | [_], _ => rfl
set_option maxHeartbeats 2000000 in
theorem ok_w_marks {P : Program} {w : World} {K : PySem.W.Frag} {mg : Str → Option Value} {base : Heap} {C f : Addr} {fd : FuncData} (hF : Fun K "marks" "Watch.marks" s_w_marks f fd) (T : WTxt K C)  (b_len : mg "len" = none) (b_sorted : mg "sorted" = none)  : FnOk P w K mg base CX0 1 f fd ["self"] (spYL K C YL_marks) :=
  hasYL (N := N_w_marks) hF T sc_w_marks (by decide) fun cdv A outer s H E hr => by
    have nd := sc_w_marks.nd
    refine ⟨_, (pss_one (ps_ret (pe_lc (own := [("name", 1)]) (g := gName 1) (tt := tYes) (by rfl) nd (pi_listK (K := K) (by rfl) (pe_callB (kc_sortDS (by rfl)) (by rfl) b_sorted (by decide +kernel) (pa_cons (pe_fld (pv 0) rfl) pa_nil))) (blkOk_by (own := [("name", 1)]) (N := N_w_marks) (sc := defScope s_w_marks) (by decide +kernel)) (fun _ _ _ _ _ => (pg_name (i := 1) nd rfl (by first | exact .inl rfl | exact .inr rfl))) (fun _ _ _ _ _ => pts_nil) (fun _ _ _ _ _ => (pe_tup (pa_cons (pv 1) (pa_cons (pe_callB (kc_len (K := K) (by rfl)) (by rfl) b_len (by decide +kernel) (pa_cons (pe_dget (by exact hr.units1) (pe_fldK (K := K) (by rfl) (pv 0) rfl) (pv 1) (fun _ _ => rfl)) pa_nil)) pa_nil))))))), ?_⟩
    exact (xn_lc (xi_list (xe_n (xn_psortA T))) (xg_name 1) (by decide) xt_yes (xe_tup (xa_cons (xe_var 1) (xa_cons (xe_cb rco_len (xa_cons (xe_pget T (xe_var 1)) xa_nil)) xa_nil))))
abbrev s_w_back : Stmt := inClass (topS 34) 2
abbrev N_w_back : List Str := ["self"]
theorem sc_w_back : FnScope N_w_back ["self"] (defScope s_w_back) := ⟨rfl, rfl, rfl, by decide +kernel, rfl, by decide +kernel, by decide +kernel⟩
theorem bi_w_back : ∀ (kV doc pm : Value) (an : Option Addr) (cdv ct : Value) (us : List Value), us.length = 1 → bindArgs (PySem.W.fnOf "back" "Watch.back" (defArgs s_w_back) (defBody s_w_back) (defScope s_w_back) .none kV doc pm an cdv ct) ⟨us, []⟩ = pure ((["self"] : List Str).zip us) := fun _ _ _ _ _ _ us hl => match us, hl with | [_], _ => rfl
set_option maxHeartbeats 2000000 in
theorem ok_w_back {P : Program} {w : World} {K : PySem.W.Frag} {mg : Str → Option Value} {base : Heap} {C f : Addr} {fd : FuncData} (hF : Fun K "back" "Watch.back" s_w_back f fd) (T : WTxt K C)    : FnOk P w K mg base CX0 1 f fd ["self"] (spY K mg C false Y_back) :=
  hasY (N := N_w_back) hF T sc_w_back (by decide) fun cdv A outer s H E hr => by
    have nd := sc_w_back.nd
    refine ⟨_, (pss_cons (ps_if (pt_cmpR (op_eqK (K := K) (by rfl) (by exact hr.units)) (pe_fld (pv 0) rfl) (pe_tup pa_nil) (nomark _)) (pss_one (ps_ret pe_bl)) pss_nil)
    (pss_cons (ps_fld (pv 0) (pe_slice (sl_tupAK (K := K) (by rfl)) (pe_fld (pv 0) rfl) po_none (po_some (pe_un un_neg pe_int))) rfl)
    (pss_one (ps_ret pe_bl)))), ?_⟩
    exact (ys_seq (ys_if (xt_test (xe_op rvo_eq (xe_fld T .t) (xe_tup xa_nil))) (ys_ret (xe_bl _)) ys_next)
  (ys_seq (ys_setT T (xe_slT (xe_fld T .t) xo_no (xo_so (xe_un ruo_neg (xe_int _)))))
  (ys_ret (xe_bl _))))
abbrev s_e_BadLit : Stmt := inClass (topS 5) 0
theorem sc_e_BadLit : FnScope ["self", "place"] ["self", "place"] (defScope s_e_BadLit) := ⟨rfl, rfl, rfl, by decide +kernel, rfl, by decide +kernel, by decide +kernel⟩
theorem bi_e_BadLit : ∀ (kV doc pm : Value) (an : Option Addr) (cdv ct : Value) (us : List Value), us.length = 2 → bindArgs (PySem.W.fnOf "__init__" "BadLit.__init__" (defArgs s_e_BadLit) (defBody s_e_BadLit) (defScope s_e_BadLit) .none kV doc pm an cdv ct) ⟨us, []⟩ = pure ((["self", "place"] : List Str).zip us) := fun _ _ _ _ _ _ us hl => match us, hl with | [_, _], _ => rfl
theorem ok_e_BadLit {P : Program} {w : World} {K : PySem.W.Frag} {mg : Str → Option Value} {base : Heap} {f S : Addr} {fd : FuncData} (hF : Fun K "__init__" "BadLit.__init__" s_e_BadLit f fd) (hm : mg "SeamError" = some (.ref S)) (c : InitC K S) : FnOk P w K mg base CX0 1 f fd ["self", "place"] (spErr K "place") :=
  fn_err (A := "these sites can't be, from place ") (B := " on") hF sc_e_BadLit hm c (by decide +kernel) (by decide +kernel) fun cdv A0 outer s H E =>
    pss_cons (ps_expr (pe_seinit (by rfl) hm c (pa_cons (pv 0) (pa_cons (pe_joined (.cons pe_str (.cons (pe_fmt (pv 1)) (.cons pe_str .nil)))) pa_nil)))) (pss_one (ps_ost (pv 0) (pv 1)))
set_option maxHeartbeats 2000000 in
theorem okx_require_lit {P : Program} {w : World} {K : PySem.W.Frag} {mg : Str → Option Value} {base : Heap} (A : FnAt K mg "require_lit" s_require_lit)    (h_first_misplaced : Has P w K mg base "first_misplaced" 2 ["things", "many"] (spF K mg F_first_misplaced)) (h_site_count : Has P w K mg base "site_count" 1 ["board"] (spF K mg F_site_count)) {C_BadLit : Addr} (h_BadLit : HasE P w K mg base "BadLit" "place" C_BadLit 1) : HasX P w K mg base "require_lit" 3 ["board", "lit"] (spF K mg X_require_lit) :=
  hasX (N := N_require_lit) A bi_require_lit sc_require_lit fun cdv f A outer s H E hr => by
    have nd := sc_require_lit.nd
    refine ⟨_, (pss_cons (ps_set (i := 2) nd rfl (by first | exact .inl rfl | exact .inr rfl) (ca h_first_misplaced hr (by rfl) (pa_cons (pv 1) (pa_cons (ca h_site_count (hr.mono (by decide)) (by rfl) (pa_cons (pv 0) pa_nil)) pa_nil))))
    (pss_one (ps_if (pt_cmpR op_notN (pv 2) pe_non (nomark _)) (pss_one (ps_errX h_BadLit (hr.mono (by decide)) (by rfl) takesE (by rfl) (pa_cons (pv 2) pa_nil))) pss_nil))), ?_⟩
    exact (xs_seq (xs_asg (xe_callP pureF_run (xa_cons (xe_var 1) (xa_cons (xe_callP pureF_run (xa_cons (xe_var 0) xa_nil)) xa_nil))) (xg_name 2))
  (xs_if (xt_test (xe_op rvo_notN (xe_var 2) xe_non)) (xs_err h_BadLit.m h_BadLit.f (xe_var 2)) xs_next))
set_option maxHeartbeats 2000000 in
theorem okx_w_beat {P : Program} {w : World} {K : PySem.W.Frag} {mg : Str → Option Value} {base : Heap} {C f : Addr} {fd : FuncData} (hF : Fun K "beat" "Watch.beat" s_w_beat f fd) (T : WTxt K C)  (b_len : mg "len" = none) {q_MOST_BEATS : Tok} (m_MOST_BEATS : mg "MOST_BEATS" = some (.int 5 q_MOST_BEATS)) (h_require_lit : Has P w K mg base "require_lit" 3 ["board", "lit"] (spF K mg F_require_lit)) {C_TooMany : Addr} (o_TooMany : ErrO K mg "TooMany" C_TooMany) (hx_require_lit : HasX P w K mg base "require_lit" 3 ["board", "lit"] (spF K mg X_require_lit)) : FnOk P w K mg base (L2N.CX P w) 4 f fd ["self", "lit"] (spY K mg C false X_w_beat) :=
  hasYX (N := N_w_beat) hF T sc_w_beat (by decide) fun cdv A outer s H E hr => by
    have nd := sc_w_beat.nd
    refine ⟨_, (pss_cons (ps_expr (caX hx_require_lit hr takesE (by rfl) (pa_cons (pe_fld (pv 0) rfl) (pa_cons (pv 1) pa_nil))))
    (pss_cons (ps_if (pt_cmpR (op_eqK (K := K) (by rfl) (by exact hr.units)) (pe_callB (kc_len (K := K) (by rfl)) (by rfl) b_len (by decide +kernel) (pa_cons (pe_fld (pv 0) rfl) pa_nil)) (pe_glob (v := .int 5) (by rfl) m_MOST_BEATS ⟨_, rfl⟩) (nomark _)) (pss_one (ps_errO o_TooMany (by rfl) takesE (by rfl))) pss_nil)
    (pss_cons (ps_fld (pv 0) (pe_tup (pa_starK (K := K) (by rfl) (pe_fld (pv 0) rfl) (pa_cons (pv 1) pa_nil))) rfl)
    (pss_one (ps_ret (pe_callB (kc_len (K := K) (by rfl)) (by rfl) b_len (by decide +kernel) (pa_cons (pe_fld (pv 0) rfl) pa_nil))))))), ?_⟩
    exact (ys_seq (ys_drop (xe_call (xa_cons (xe_fld T .b) (xa_cons (xe_var 1) xa_nil))))
  (ys_seq (ys_if (xt_test (xe_op rvo_eq (xe_cb rco_len (xa_cons (xe_fld T .t) xa_nil)) (xe_int 5))) (ys_err0 o_TooMany.m) ys_next)
  (ys_seq (ys_setT T (xe_tup (xa_star (xe_fld T .t) (xa_cons (xe_var 1) xa_nil))))
  (ys_ret (xe_cb rco_len (xa_cons (xe_fld T .t) xa_nil))))))
set_option maxHeartbeats 2000000 in
theorem okx_w_mark {P : Program} {w : World} {K : PySem.W.Frag} {mg : Str → Option Value} {base : Heap} {C f : Addr} {fd : FuncData} (hF : Fun K "mark" "Watch.mark" s_w_mark f fd) (T : WTxt K C)    (h_is_name : Has P w K mg base "is_name" 1 ["thing"] (spF K mg F_is_name)) {C_BadName : Addr} (o_BadName : ErrO K mg "BadName" C_BadName) : FnOk P w K mg base (L2N.CX P w) 3 f fd ["self", "name"] (spY K mg C false X_w_mark) :=
  hasYX (N := N_w_mark) hF T sc_w_mark (by decide) fun cdv A outer s H E hr => by
    have nd := sc_w_mark.nd
    refine ⟨_, (pss_cons (ps_if (pt_not (pt_val (ca h_is_name (hr.mono (by decide)) (by rfl) (pa_cons (pv 1) pa_nil)))) (pss_one (ps_errO o_BadName (by rfl) takesE (by rfl))) pss_nil)
    (pss_one (ps_dput hr.units1 (pe_fld (pv 0) rfl) (pv 1) (pe_fld (pv 0) rfl) rfl))), ?_⟩
    exact (ys_seq (ys_if (xt_not (xt_B (xe_callP pureF_run (xa_cons (xe_var 1) xa_nil)))) (ys_err0 o_BadName.m) ys_next)
  (ys_mark T (j := 1)))
set_option maxHeartbeats 2000000 in
theorem okx_w_go {P : Program} {w : World} {K : PySem.W.Frag} {mg : Str → Option Value} {base : Heap} {C f : Addr} {fd : FuncData} (hF : Fun K "go" "Watch.go" s_w_go f fd) (T : WTxt K C)  (b_isinstance : mg "isinstance" = none) (b_str : mg "str" = none)  {C_NoPoint : Addr} (o_NoPoint : ErrO K mg "NoPoint" C_NoPoint) : FnOk P w K mg base (L2N.CX P w) 3 f fd ["self", "name"] (spY K mg C false X_w_go) :=
  hasYX (N := N_w_go) hF T sc_w_go (by decide) fun cdv A outer s H E hr => by
    have nd := sc_w_go.nd
    refine ⟨_, (pss_cons (ps_if (PW.pt (pw_or (pt_not (pt_val (pe_callB (kc_isi (K := K) (by rfl)) (by rfl) b_isinstance (by decide +kernel) (pa_cons (pv 1) (pa_cons (pe_bltn (v := .ty "str") (by rfl) b_str (by decide +kernel) rfl) pa_nil))))) (pw_or1 (pt_cmp (pc_dnotin hr.units1 (pv 1) (pe_fld (pv 0) rfl)))))) (pss_one (ps_errO o_NoPoint (by rfl) takesE (by rfl))) pss_nil)
    (pss_one (ps_fld (pv 0) (pe_dget (by exact hr.units1) (pe_fldK (K := K) (by rfl) (pv 0) rfl) (pv 1) (fun _ _ => rfl)) rfl))), ?_⟩
    exact (ys_seq (ys_if (xt_or (xt_not (xt_B (xe_isi (xe_var 1)))) (xt_B (xe_pni T (xe_var 1)))) (ys_err0 o_NoPoint.m) ys_next)
  (ys_setT T (xe_pget T (xe_var 1))))
abbrev s__law_word : Stmt := topS 38
abbrev N__law_word : List Str := ["_law_work", "e", "_law_kinds", "_law_at", "_law_word_here"]
theorem sc__law_word : FnScope N__law_word ["_law_work"] (defScope s__law_word) := ⟨rfl, rfl, rfl, by decide +kernel, rfl, by decide +kernel, by decide +kernel⟩
theorem bi__law_word : BindsAt "_law_word" s__law_word ["_law_work"] := fun _ _ _ _ _ _ us hl => match us, hl with | [_], _ => rfl
theorem fIsE_at (a : Addr) (d : Option Addr) (x : Exn) (m : Str) (p : Option (Str × Int)) (s : Ss) (o : Option Wv) (ρ : Ro) : fIsE a d x 1 m (o :: some (.o (.e a d p)) :: s) ρ = some (.ok (.bool (decide (x.c = m))), ρ) := if_pos ⟨rfl, rfl⟩
theorem fIsV_at (a : Addr) (d : Option Addr) (p : Option (Str × Int)) (s : Ss) (o : Option Wv) (ρ : Ro) : fIsV a d 1 (o :: some (.o (.e a d p)) :: s) ρ = some (.ok (.bool true), ρ) := if_pos ⟨rfl, rfl⟩
theorem fExA_at (a : Addr) (d : Option Addr) (f : Str) (n : Int) (s : Ss) (o : Option Wv) (ρ : Ro) : fExA a d 1 f (o :: some (.o (.e a d (some (f, n)))) :: s) ρ = some (.ok (.int n), ρ) := if_pos ⟨rfl, rfl, rfl⟩
theorem wv_0 (a : Addr) (d : Option Addr) (i : Int) : f_word a d ⟨"BadFlips", (some ("place", i))⟩ [none, some (.o (.e a d (some ("place", i)))), none, none, none] none = some (.rt (.tuple [.str "flips", .int i]) none) := by
  have h0 : ∀ (m : Str) (b : Bool), decide (("BadFlips" : Str) = m) = b → ∀ (s : Ss) (o : Option Wv) (ρ : Ro), fIsE a d ⟨"BadFlips", (some ("place", i))⟩ 1 m (o :: some (.o (.e a d (some ("place", i)))) :: s) ρ = some (.ok (.bool b), ρ) := fun m b h s o ρ => by rw [fIsE_at, h]
  have h1 := h0 "BadFlips" true (by decide +kernel)
  have h2 := h0 "BadLit" false (by decide +kernel)
  have h3 := h0 "BadFaces" false (by decide +kernel)
  have h4 := h0 "BadCosts" false (by decide +kernel)
  have h5 := h0 "BadTold" false (by decide +kernel)
  have h6 := h0 "BadStory" false (by decide +kernel)
  have h7 := h0 "BadText" false (by decide +kernel)
  have h8 := h0 "BadBoard" false (by decide +kernel)
  have h9 := h0 "BadCount" false (by decide +kernel)
  have h10 := h0 "Odd" false (by decide +kernel)
  have h11 := h0 "TooMany" false (by decide +kernel)
  have h12 := h0 "BadName" false (by decide +kernel)
  have h13 := h0 "NoPoint" false (by decide +kernel)
  unfold f_word
  refine (fSeq_to (s1 := [none, some (.o (.e a d (some ("place", i)))), (some (.o (.l [.bool true, .bool false, .bool false, .bool false]))), none, none]) (ρ1 := none) ?_).trans ?_
  · simp [fOwn, few, h1, h2, h3, h4, h5, h6, h7, h8, h9, h10, h11, h12, h13]
  refine (fSeq_to (s1 := [none, some (.o (.e a d (some ("place", i)))), (some (.o (.l [.bool true, .bool false, .bool false, .bool false, .bool false, .bool false, .bool false]))), none, none]) (ρ1 := none) ?_).trans ?_
  · simp [fOwn, few, oCat, h1, h2, h3, h4, h5, h6, h7, h8, h9, h10, h11, h12, h13]
  refine (fSeq_to (s1 := [none, some (.o (.e a d (some ("place", i)))), (some (.o (.l [.bool true, .bool false, .bool false, .bool false, .bool false, .bool false, .bool false, .bool false]))), none, none]) (ρ1 := none) ?_).trans ?_
  · exact fApp_at (h8 _ _ _)
  refine (fSeq_to (s1 := [none, some (.o (.e a d (some ("place", i)))), (some (.o (.l [.bool true, .bool false, .bool false, .bool false, .bool false, .bool false, .bool false, .bool false, .bool false, .bool false, .bool false, .bool false]))), none, none]) (ρ1 := none) ?_).trans ?_
  · simp [fOwn, few, oCat, h1, h2, h3, h4, h5, h6, h7, h8, h9, h10, h11, h12, h13]
  refine (fSeq_to (s1 := [none, some (.o (.e a d (some ("place", i)))), (some (.o (.l [.bool true, .bool false, .bool false, .bool false, .bool false, .bool false, .bool false, .bool false, .bool false, .bool false, .bool false, .bool false, .bool false]))), none, none]) (ρ1 := none) ?_).trans ?_
  · exact fApp_at (h13 _ _ _)
  refine (fSeq_to (s1 := [none, some (.o (.e a d (some ("place", i)))), (some (.d (.list [.bool true, .bool false, .bool false, .bool false, .bool false, .bool false, .bool false, .bool false, .bool false, .bool false, .bool false, .bool false, .bool false]))), none, none]) (ρ1 := none) ?_).trans ?_
  · rw [fFz_at]
    show fIfS _ _ _ [none, some (.o (.e a d (some ("place", i)))), (some (.d (.list [.bool true, .bool false, .bool false, .bool false, .bool false, .bool false, .bool false, .bool false, .bool false, .bool false, .bool false, .bool false, .bool false]))), none, none] none = _
    have g1 : fB (fOp oNe (fCountB (fVar 2) (fCons (ret (.bool true)) fNil)) (ret (.int 1))) [none, some (.o (.e a d (some ("place", i)))), (some (.d (.list [.bool true, .bool false, .bool false, .bool false, .bool false, .bool false, .bool false, .bool false, .bool false, .bool false, .bool false, .bool false, .bool false]))), none, none] none = some (.ok false, none) := by rfl
    have g2 : fNot (fB (fIsV a d 1)) [none, some (.o (.e a d (some ("place", i)))), (some (.d (.list [.bool true, .bool false, .bool false, .bool false, .bool false, .bool false, .bool false, .bool false, .bool false, .bool false, .bool false, .bool false, .bool false]))), none, none] none = some (.ok false, none) := by simp [fIsV_at]
    have g3 : fOr (fB (fOp oNe (fCountB (fVar 2) (fCons (ret (.bool true)) fNil)) (ret (.int 1)))) (fNot (fB (fIsV a d 1))) [none, some (.o (.e a d (some ("place", i)))), (some (.d (.list [.bool true, .bool false, .bool false, .bool false, .bool false, .bool false, .bool false, .bool false, .bool false, .bool false, .bool false, .bool false, .bool false]))), none, none] none = some (.ok false, none) := by
      rw [fOr_e, bnd_to g1, if_neg (by decide)]
      exact g2
    rw [fIfS_e, fOut_to g3]
    rfl
  refine (fSeq_to (s1 := [none, some (.o (.e a d (some ("place", i)))), (some (.d (.list [.bool true, .bool false, .bool false, .bool false, .bool false, .bool false, .bool false, .bool false, .bool false, .bool false, .bool false, .bool false, .bool false]))), (some (.d (.int 0))), none]) (ρ1 := none) ?_).trans ?_
  · rfl
  refine (fSeq_to (s1 := [none, some (.o (.e a d (some ("place", i)))), (some (.d (.list [.bool true, .bool false, .bool false, .bool false, .bool false, .bool false, .bool false, .bool false, .bool false, .bool false, .bool false, .bool false, .bool false]))), (some (.d (.int 0))), (some (.d (.str "flips")))]) (ρ1 := none) ?_).trans ?_
  · rfl
  refine (fSeq_to (s1 := [none, some (.o (.e a d (some ("place", i)))), (some (.d (.list [.bool true, .bool false, .bool false, .bool false, .bool false, .bool false, .bool false, .bool false, .bool false, .bool false, .bool false, .bool false, .bool false]))), (some (.d (.int 0))), (some (.d (.str "flips")))]) (ρ1 := none) ?_).trans ?_
  · rfl
  refine (fSeq_to (s1 := [none, some (.o (.e a d (some ("place", i)))), (some (.d (.list [.bool true, .bool false, .bool false, .bool false, .bool false, .bool false, .bool false, .bool false, .bool false, .bool false, .bool false, .bool false, .bool false]))), (some (.d (.int 0))), (some (.d (.str "flips")))]) (ρ1 := none) ?_).trans ?_
  · rfl
  rw [fRet_e]
  refine (fOut_to (x := .tuple [.str "flips", .int i]) (ρ1 := none) ?_).trans rfl
  simp [fExA_at]
theorem wv_1 (a : Addr) (d : Option Addr) (i : Int) : f_word a d ⟨"BadLit", (some ("place", i))⟩ [none, some (.o (.e a d (some ("place", i)))), none, none, none] none = some (.rt (.tuple [.str "lit", .int i]) none) := by
  have h0 : ∀ (m : Str) (b : Bool), decide (("BadLit" : Str) = m) = b → ∀ (s : Ss) (o : Option Wv) (ρ : Ro), fIsE a d ⟨"BadLit", (some ("place", i))⟩ 1 m (o :: some (.o (.e a d (some ("place", i)))) :: s) ρ = some (.ok (.bool b), ρ) := fun m b h s o ρ => by rw [fIsE_at, h]
  have h1 := h0 "BadFlips" false (by decide +kernel)
  have h2 := h0 "BadLit" true (by decide +kernel)
  have h3 := h0 "BadFaces" false (by decide +kernel)
  have h4 := h0 "BadCosts" false (by decide +kernel)
  have h5 := h0 "BadTold" false (by decide +kernel)
  have h6 := h0 "BadStory" false (by decide +kernel)
  have h7 := h0 "BadText" false (by decide +kernel)
  have h8 := h0 "BadBoard" false (by decide +kernel)
  have h9 := h0 "BadCount" false (by decide +kernel)
  have h10 := h0 "Odd" false (by decide +kernel)
  have h11 := h0 "TooMany" false (by decide +kernel)
  have h12 := h0 "BadName" false (by decide +kernel)
  have h13 := h0 "NoPoint" false (by decide +kernel)
  unfold f_word
  refine (fSeq_to (s1 := [none, some (.o (.e a d (some ("place", i)))), (some (.o (.l [.bool false, .bool true, .bool false, .bool false]))), none, none]) (ρ1 := none) ?_).trans ?_
  · simp [fOwn, few, h1, h2, h3, h4, h5, h6, h7, h8, h9, h10, h11, h12, h13]
  refine (fSeq_to (s1 := [none, some (.o (.e a d (some ("place", i)))), (some (.o (.l [.bool false, .bool true, .bool false, .bool false, .bool false, .bool false, .bool false]))), none, none]) (ρ1 := none) ?_).trans ?_
  · simp [fOwn, few, oCat, h1, h2, h3, h4, h5, h6, h7, h8, h9, h10, h11, h12, h13]
  refine (fSeq_to (s1 := [none, some (.o (.e a d (some ("place", i)))), (some (.o (.l [.bool false, .bool true, .bool false, .bool false, .bool false, .bool false, .bool false, .bool false]))), none, none]) (ρ1 := none) ?_).trans ?_
  · exact fApp_at (h8 _ _ _)
  refine (fSeq_to (s1 := [none, some (.o (.e a d (some ("place", i)))), (some (.o (.l [.bool false, .bool true, .bool false, .bool false, .bool false, .bool false, .bool false, .bool false, .bool false, .bool false, .bool false, .bool false]))), none, none]) (ρ1 := none) ?_).trans ?_
  · simp [fOwn, few, oCat, h1, h2, h3, h4, h5, h6, h7, h8, h9, h10, h11, h12, h13]
  refine (fSeq_to (s1 := [none, some (.o (.e a d (some ("place", i)))), (some (.o (.l [.bool false, .bool true, .bool false, .bool false, .bool false, .bool false, .bool false, .bool false, .bool false, .bool false, .bool false, .bool false, .bool false]))), none, none]) (ρ1 := none) ?_).trans ?_
  · exact fApp_at (h13 _ _ _)
  refine (fSeq_to (s1 := [none, some (.o (.e a d (some ("place", i)))), (some (.d (.list [.bool false, .bool true, .bool false, .bool false, .bool false, .bool false, .bool false, .bool false, .bool false, .bool false, .bool false, .bool false, .bool false]))), none, none]) (ρ1 := none) ?_).trans ?_
  · rw [fFz_at]
    show fIfS _ _ _ [none, some (.o (.e a d (some ("place", i)))), (some (.d (.list [.bool false, .bool true, .bool false, .bool false, .bool false, .bool false, .bool false, .bool false, .bool false, .bool false, .bool false, .bool false, .bool false]))), none, none] none = _
    have g1 : fB (fOp oNe (fCountB (fVar 2) (fCons (ret (.bool true)) fNil)) (ret (.int 1))) [none, some (.o (.e a d (some ("place", i)))), (some (.d (.list [.bool false, .bool true, .bool false, .bool false, .bool false, .bool false, .bool false, .bool false, .bool false, .bool false, .bool false, .bool false, .bool false]))), none, none] none = some (.ok false, none) := by rfl
    have g2 : fNot (fB (fIsV a d 1)) [none, some (.o (.e a d (some ("place", i)))), (some (.d (.list [.bool false, .bool true, .bool false, .bool false, .bool false, .bool false, .bool false, .bool false, .bool false, .bool false, .bool false, .bool false, .bool false]))), none, none] none = some (.ok false, none) := by simp [fIsV_at]
    have g3 : fOr (fB (fOp oNe (fCountB (fVar 2) (fCons (ret (.bool true)) fNil)) (ret (.int 1)))) (fNot (fB (fIsV a d 1))) [none, some (.o (.e a d (some ("place", i)))), (some (.d (.list [.bool false, .bool true, .bool false, .bool false, .bool false, .bool false, .bool false, .bool false, .bool false, .bool false, .bool false, .bool false, .bool false]))), none, none] none = some (.ok false, none) := by
      rw [fOr_e, bnd_to g1, if_neg (by decide)]
      exact g2
    rw [fIfS_e, fOut_to g3]
    rfl
  refine (fSeq_to (s1 := [none, some (.o (.e a d (some ("place", i)))), (some (.d (.list [.bool false, .bool true, .bool false, .bool false, .bool false, .bool false, .bool false, .bool false, .bool false, .bool false, .bool false, .bool false, .bool false]))), (some (.d (.int 1))), none]) (ρ1 := none) ?_).trans ?_
  · rfl
  refine (fSeq_to (s1 := [none, some (.o (.e a d (some ("place", i)))), (some (.d (.list [.bool false, .bool true, .bool false, .bool false, .bool false, .bool false, .bool false, .bool false, .bool false, .bool false, .bool false, .bool false, .bool false]))), (some (.d (.int 1))), (some (.d (.str "lit")))]) (ρ1 := none) ?_).trans ?_
  · rfl
  refine (fSeq_to (s1 := [none, some (.o (.e a d (some ("place", i)))), (some (.d (.list [.bool false, .bool true, .bool false, .bool false, .bool false, .bool false, .bool false, .bool false, .bool false, .bool false, .bool false, .bool false, .bool false]))), (some (.d (.int 1))), (some (.d (.str "lit")))]) (ρ1 := none) ?_).trans ?_
  · rfl
  refine (fSeq_to (s1 := [none, some (.o (.e a d (some ("place", i)))), (some (.d (.list [.bool false, .bool true, .bool false, .bool false, .bool false, .bool false, .bool false, .bool false, .bool false, .bool false, .bool false, .bool false, .bool false]))), (some (.d (.int 1))), (some (.d (.str "lit")))]) (ρ1 := none) ?_).trans ?_
  · rfl
  rw [fRet_e]
  refine (fOut_to (x := .tuple [.str "lit", .int i]) (ρ1 := none) ?_).trans rfl
  simp [fExA_at]
theorem wv_2 (a : Addr) (d : Option Addr) (i : Int) : f_word a d ⟨"BadFaces", (some ("place", i))⟩ [none, some (.o (.e a d (some ("place", i)))), none, none, none] none = some (.rt (.tuple [.str "faces", .int i]) none) := by
  have h0 : ∀ (m : Str) (b : Bool), decide (("BadFaces" : Str) = m) = b → ∀ (s : Ss) (o : Option Wv) (ρ : Ro), fIsE a d ⟨"BadFaces", (some ("place", i))⟩ 1 m (o :: some (.o (.e a d (some ("place", i)))) :: s) ρ = some (.ok (.bool b), ρ) := fun m b h s o ρ => by rw [fIsE_at, h]
  have h1 := h0 "BadFlips" false (by decide +kernel)
  have h2 := h0 "BadLit" false (by decide +kernel)
  have h3 := h0 "BadFaces" true (by decide +kernel)
  have h4 := h0 "BadCosts" false (by decide +kernel)
  have h5 := h0 "BadTold" false (by decide +kernel)
  have h6 := h0 "BadStory" false (by decide +kernel)
  have h7 := h0 "BadText" false (by decide +kernel)
  have h8 := h0 "BadBoard" false (by decide +kernel)
  have h9 := h0 "BadCount" false (by decide +kernel)
  have h10 := h0 "Odd" false (by decide +kernel)
  have h11 := h0 "TooMany" false (by decide +kernel)
  have h12 := h0 "BadName" false (by decide +kernel)
  have h13 := h0 "NoPoint" false (by decide +kernel)
  unfold f_word
  refine (fSeq_to (s1 := [none, some (.o (.e a d (some ("place", i)))), (some (.o (.l [.bool false, .bool false, .bool true, .bool false]))), none, none]) (ρ1 := none) ?_).trans ?_
  · simp [fOwn, few, h1, h2, h3, h4, h5, h6, h7, h8, h9, h10, h11, h12, h13]
  refine (fSeq_to (s1 := [none, some (.o (.e a d (some ("place", i)))), (some (.o (.l [.bool false, .bool false, .bool true, .bool false, .bool false, .bool false, .bool false]))), none, none]) (ρ1 := none) ?_).trans ?_
  · simp [fOwn, few, oCat, h1, h2, h3, h4, h5, h6, h7, h8, h9, h10, h11, h12, h13]
  refine (fSeq_to (s1 := [none, some (.o (.e a d (some ("place", i)))), (some (.o (.l [.bool false, .bool false, .bool true, .bool false, .bool false, .bool false, .bool false, .bool false]))), none, none]) (ρ1 := none) ?_).trans ?_
  · exact fApp_at (h8 _ _ _)
  refine (fSeq_to (s1 := [none, some (.o (.e a d (some ("place", i)))), (some (.o (.l [.bool false, .bool false, .bool true, .bool false, .bool false, .bool false, .bool false, .bool false, .bool false, .bool false, .bool false, .bool false]))), none, none]) (ρ1 := none) ?_).trans ?_
  · simp [fOwn, few, oCat, h1, h2, h3, h4, h5, h6, h7, h8, h9, h10, h11, h12, h13]
  refine (fSeq_to (s1 := [none, some (.o (.e a d (some ("place", i)))), (some (.o (.l [.bool false, .bool false, .bool true, .bool false, .bool false, .bool false, .bool false, .bool false, .bool false, .bool false, .bool false, .bool false, .bool false]))), none, none]) (ρ1 := none) ?_).trans ?_
  · exact fApp_at (h13 _ _ _)
  refine (fSeq_to (s1 := [none, some (.o (.e a d (some ("place", i)))), (some (.d (.list [.bool false, .bool false, .bool true, .bool false, .bool false, .bool false, .bool false, .bool false, .bool false, .bool false, .bool false, .bool false, .bool false]))), none, none]) (ρ1 := none) ?_).trans ?_
  · rw [fFz_at]
    show fIfS _ _ _ [none, some (.o (.e a d (some ("place", i)))), (some (.d (.list [.bool false, .bool false, .bool true, .bool false, .bool false, .bool false, .bool false, .bool false, .bool false, .bool false, .bool false, .bool false, .bool false]))), none, none] none = _
    have g1 : fB (fOp oNe (fCountB (fVar 2) (fCons (ret (.bool true)) fNil)) (ret (.int 1))) [none, some (.o (.e a d (some ("place", i)))), (some (.d (.list [.bool false, .bool false, .bool true, .bool false, .bool false, .bool false, .bool false, .bool false, .bool false, .bool false, .bool false, .bool false, .bool false]))), none, none] none = some (.ok false, none) := by rfl
    have g2 : fNot (fB (fIsV a d 1)) [none, some (.o (.e a d (some ("place", i)))), (some (.d (.list [.bool false, .bool false, .bool true, .bool false, .bool false, .bool false, .bool false, .bool false, .bool false, .bool false, .bool false, .bool false, .bool false]))), none, none] none = some (.ok false, none) := by simp [fIsV_at]
    have g3 : fOr (fB (fOp oNe (fCountB (fVar 2) (fCons (ret (.bool true)) fNil)) (ret (.int 1)))) (fNot (fB (fIsV a d 1))) [none, some (.o (.e a d (some ("place", i)))), (some (.d (.list [.bool false, .bool false, .bool true, .bool false, .bool false, .bool false, .bool false, .bool false, .bool false, .bool false, .bool false, .bool false, .bool false]))), none, none] none = some (.ok false, none) := by
      rw [fOr_e, bnd_to g1, if_neg (by decide)]
      exact g2
    rw [fIfS_e, fOut_to g3]
    rfl
  refine (fSeq_to (s1 := [none, some (.o (.e a d (some ("place", i)))), (some (.d (.list [.bool false, .bool false, .bool true, .bool false, .bool false, .bool false, .bool false, .bool false, .bool false, .bool false, .bool false, .bool false, .bool false]))), (some (.d (.int 2))), none]) (ρ1 := none) ?_).trans ?_
  · rfl
  refine (fSeq_to (s1 := [none, some (.o (.e a d (some ("place", i)))), (some (.d (.list [.bool false, .bool false, .bool true, .bool false, .bool false, .bool false, .bool false, .bool false, .bool false, .bool false, .bool false, .bool false, .bool false]))), (some (.d (.int 2))), (some (.d (.str "faces")))]) (ρ1 := none) ?_).trans ?_
  · rfl
  refine (fSeq_to (s1 := [none, some (.o (.e a d (some ("place", i)))), (some (.d (.list [.bool false, .bool false, .bool true, .bool false, .bool false, .bool false, .bool false, .bool false, .bool false, .bool false, .bool false, .bool false, .bool false]))), (some (.d (.int 2))), (some (.d (.str "faces")))]) (ρ1 := none) ?_).trans ?_
  · rfl
  refine (fSeq_to (s1 := [none, some (.o (.e a d (some ("place", i)))), (some (.d (.list [.bool false, .bool false, .bool true, .bool false, .bool false, .bool false, .bool false, .bool false, .bool false, .bool false, .bool false, .bool false, .bool false]))), (some (.d (.int 2))), (some (.d (.str "faces")))]) (ρ1 := none) ?_).trans ?_
  · rfl
  rw [fRet_e]
  refine (fOut_to (x := .tuple [.str "faces", .int i]) (ρ1 := none) ?_).trans rfl
  simp [fExA_at]
theorem wv_3 (a : Addr) (d : Option Addr) (i : Int) : f_word a d ⟨"BadCosts", (some ("place", i))⟩ [none, some (.o (.e a d (some ("place", i)))), none, none, none] none = some (.rt (.tuple [.str "costs", .int i]) none) := by
  have h0 : ∀ (m : Str) (b : Bool), decide (("BadCosts" : Str) = m) = b → ∀ (s : Ss) (o : Option Wv) (ρ : Ro), fIsE a d ⟨"BadCosts", (some ("place", i))⟩ 1 m (o :: some (.o (.e a d (some ("place", i)))) :: s) ρ = some (.ok (.bool b), ρ) := fun m b h s o ρ => by rw [fIsE_at, h]
  have h1 := h0 "BadFlips" false (by decide +kernel)
  have h2 := h0 "BadLit" false (by decide +kernel)
  have h3 := h0 "BadFaces" false (by decide +kernel)
  have h4 := h0 "BadCosts" true (by decide +kernel)
  have h5 := h0 "BadTold" false (by decide +kernel)
  have h6 := h0 "BadStory" false (by decide +kernel)
  have h7 := h0 "BadText" false (by decide +kernel)
  have h8 := h0 "BadBoard" false (by decide +kernel)
  have h9 := h0 "BadCount" false (by decide +kernel)
  have h10 := h0 "Odd" false (by decide +kernel)
  have h11 := h0 "TooMany" false (by decide +kernel)
  have h12 := h0 "BadName" false (by decide +kernel)
  have h13 := h0 "NoPoint" false (by decide +kernel)
  unfold f_word
  refine (fSeq_to (s1 := [none, some (.o (.e a d (some ("place", i)))), (some (.o (.l [.bool false, .bool false, .bool false, .bool true]))), none, none]) (ρ1 := none) ?_).trans ?_
  · simp [fOwn, few, h1, h2, h3, h4, h5, h6, h7, h8, h9, h10, h11, h12, h13]
  refine (fSeq_to (s1 := [none, some (.o (.e a d (some ("place", i)))), (some (.o (.l [.bool false, .bool false, .bool false, .bool true, .bool false, .bool false, .bool false]))), none, none]) (ρ1 := none) ?_).trans ?_
  · simp [fOwn, few, oCat, h1, h2, h3, h4, h5, h6, h7, h8, h9, h10, h11, h12, h13]
  refine (fSeq_to (s1 := [none, some (.o (.e a d (some ("place", i)))), (some (.o (.l [.bool false, .bool false, .bool false, .bool true, .bool false, .bool false, .bool false, .bool false]))), none, none]) (ρ1 := none) ?_).trans ?_
  · exact fApp_at (h8 _ _ _)
  refine (fSeq_to (s1 := [none, some (.o (.e a d (some ("place", i)))), (some (.o (.l [.bool false, .bool false, .bool false, .bool true, .bool false, .bool false, .bool false, .bool false, .bool false, .bool false, .bool false, .bool false]))), none, none]) (ρ1 := none) ?_).trans ?_
  · simp [fOwn, few, oCat, h1, h2, h3, h4, h5, h6, h7, h8, h9, h10, h11, h12, h13]
  refine (fSeq_to (s1 := [none, some (.o (.e a d (some ("place", i)))), (some (.o (.l [.bool false, .bool false, .bool false, .bool true, .bool false, .bool false, .bool false, .bool false, .bool false, .bool false, .bool false, .bool false, .bool false]))), none, none]) (ρ1 := none) ?_).trans ?_
  · exact fApp_at (h13 _ _ _)
  refine (fSeq_to (s1 := [none, some (.o (.e a d (some ("place", i)))), (some (.d (.list [.bool false, .bool false, .bool false, .bool true, .bool false, .bool false, .bool false, .bool false, .bool false, .bool false, .bool false, .bool false, .bool false]))), none, none]) (ρ1 := none) ?_).trans ?_
  · rw [fFz_at]
    show fIfS _ _ _ [none, some (.o (.e a d (some ("place", i)))), (some (.d (.list [.bool false, .bool false, .bool false, .bool true, .bool false, .bool false, .bool false, .bool false, .bool false, .bool false, .bool false, .bool false, .bool false]))), none, none] none = _
    have g1 : fB (fOp oNe (fCountB (fVar 2) (fCons (ret (.bool true)) fNil)) (ret (.int 1))) [none, some (.o (.e a d (some ("place", i)))), (some (.d (.list [.bool false, .bool false, .bool false, .bool true, .bool false, .bool false, .bool false, .bool false, .bool false, .bool false, .bool false, .bool false, .bool false]))), none, none] none = some (.ok false, none) := by rfl
    have g2 : fNot (fB (fIsV a d 1)) [none, some (.o (.e a d (some ("place", i)))), (some (.d (.list [.bool false, .bool false, .bool false, .bool true, .bool false, .bool false, .bool false, .bool false, .bool false, .bool false, .bool false, .bool false, .bool false]))), none, none] none = some (.ok false, none) := by simp [fIsV_at]
    have g3 : fOr (fB (fOp oNe (fCountB (fVar 2) (fCons (ret (.bool true)) fNil)) (ret (.int 1)))) (fNot (fB (fIsV a d 1))) [none, some (.o (.e a d (some ("place", i)))), (some (.d (.list [.bool false, .bool false, .bool false, .bool true, .bool false, .bool false, .bool false, .bool false, .bool false, .bool false, .bool false, .bool false, .bool false]))), none, none] none = some (.ok false, none) := by
      rw [fOr_e, bnd_to g1, if_neg (by decide)]
      exact g2
    rw [fIfS_e, fOut_to g3]
    rfl
  refine (fSeq_to (s1 := [none, some (.o (.e a d (some ("place", i)))), (some (.d (.list [.bool false, .bool false, .bool false, .bool true, .bool false, .bool false, .bool false, .bool false, .bool false, .bool false, .bool false, .bool false, .bool false]))), (some (.d (.int 3))), none]) (ρ1 := none) ?_).trans ?_
  · rfl
  refine (fSeq_to (s1 := [none, some (.o (.e a d (some ("place", i)))), (some (.d (.list [.bool false, .bool false, .bool false, .bool true, .bool false, .bool false, .bool false, .bool false, .bool false, .bool false, .bool false, .bool false, .bool false]))), (some (.d (.int 3))), (some (.d (.str "costs")))]) (ρ1 := none) ?_).trans ?_
  · rfl
  refine (fSeq_to (s1 := [none, some (.o (.e a d (some ("place", i)))), (some (.d (.list [.bool false, .bool false, .bool false, .bool true, .bool false, .bool false, .bool false, .bool false, .bool false, .bool false, .bool false, .bool false, .bool false]))), (some (.d (.int 3))), (some (.d (.str "costs")))]) (ρ1 := none) ?_).trans ?_
  · rfl
  refine (fSeq_to (s1 := [none, some (.o (.e a d (some ("place", i)))), (some (.d (.list [.bool false, .bool false, .bool false, .bool true, .bool false, .bool false, .bool false, .bool false, .bool false, .bool false, .bool false, .bool false, .bool false]))), (some (.d (.int 3))), (some (.d (.str "costs")))]) (ρ1 := none) ?_).trans ?_
  · rfl
  rw [fRet_e]
  refine (fOut_to (x := .tuple [.str "costs", .int i]) (ρ1 := none) ?_).trans rfl
  simp [fExA_at]
theorem wv_4 (a : Addr) (d : Option Addr) (i : Int) : f_word a d ⟨"BadTold", (some ("number", i))⟩ [none, some (.o (.e a d (some ("number", i)))), none, none, none] none = some (.rt (.tuple [.str "told", .int i]) none) := by
  have h0 : ∀ (m : Str) (b : Bool), decide (("BadTold" : Str) = m) = b → ∀ (s : Ss) (o : Option Wv) (ρ : Ro), fIsE a d ⟨"BadTold", (some ("number", i))⟩ 1 m (o :: some (.o (.e a d (some ("number", i)))) :: s) ρ = some (.ok (.bool b), ρ) := fun m b h s o ρ => by rw [fIsE_at, h]
  have h1 := h0 "BadFlips" false (by decide +kernel)
  have h2 := h0 "BadLit" false (by decide +kernel)
  have h3 := h0 "BadFaces" false (by decide +kernel)
  have h4 := h0 "BadCosts" false (by decide +kernel)
  have h5 := h0 "BadTold" true (by decide +kernel)
  have h6 := h0 "BadStory" false (by decide +kernel)
  have h7 := h0 "BadText" false (by decide +kernel)
  have h8 := h0 "BadBoard" false (by decide +kernel)
  have h9 := h0 "BadCount" false (by decide +kernel)
  have h10 := h0 "Odd" false (by decide +kernel)
  have h11 := h0 "TooMany" false (by decide +kernel)
  have h12 := h0 "BadName" false (by decide +kernel)
  have h13 := h0 "NoPoint" false (by decide +kernel)
  unfold f_word
  refine (fSeq_to (s1 := [none, some (.o (.e a d (some ("number", i)))), (some (.o (.l [.bool false, .bool false, .bool false, .bool false]))), none, none]) (ρ1 := none) ?_).trans ?_
  · simp [fOwn, few, h1, h2, h3, h4, h5, h6, h7, h8, h9, h10, h11, h12, h13]
  refine (fSeq_to (s1 := [none, some (.o (.e a d (some ("number", i)))), (some (.o (.l [.bool false, .bool false, .bool false, .bool false, .bool true, .bool false, .bool false]))), none, none]) (ρ1 := none) ?_).trans ?_
  · simp [fOwn, few, oCat, h1, h2, h3, h4, h5, h6, h7, h8, h9, h10, h11, h12, h13]
  refine (fSeq_to (s1 := [none, some (.o (.e a d (some ("number", i)))), (some (.o (.l [.bool false, .bool false, .bool false, .bool false, .bool true, .bool false, .bool false, .bool false]))), none, none]) (ρ1 := none) ?_).trans ?_
  · exact fApp_at (h8 _ _ _)
  refine (fSeq_to (s1 := [none, some (.o (.e a d (some ("number", i)))), (some (.o (.l [.bool false, .bool false, .bool false, .bool false, .bool true, .bool false, .bool false, .bool false, .bool false, .bool false, .bool false, .bool false]))), none, none]) (ρ1 := none) ?_).trans ?_
  · simp [fOwn, few, oCat, h1, h2, h3, h4, h5, h6, h7, h8, h9, h10, h11, h12, h13]
  refine (fSeq_to (s1 := [none, some (.o (.e a d (some ("number", i)))), (some (.o (.l [.bool false, .bool false, .bool false, .bool false, .bool true, .bool false, .bool false, .bool false, .bool false, .bool false, .bool false, .bool false, .bool false]))), none, none]) (ρ1 := none) ?_).trans ?_
  · exact fApp_at (h13 _ _ _)
  refine (fSeq_to (s1 := [none, some (.o (.e a d (some ("number", i)))), (some (.d (.list [.bool false, .bool false, .bool false, .bool false, .bool true, .bool false, .bool false, .bool false, .bool false, .bool false, .bool false, .bool false, .bool false]))), none, none]) (ρ1 := none) ?_).trans ?_
  · rw [fFz_at]
    show fIfS _ _ _ [none, some (.o (.e a d (some ("number", i)))), (some (.d (.list [.bool false, .bool false, .bool false, .bool false, .bool true, .bool false, .bool false, .bool false, .bool false, .bool false, .bool false, .bool false, .bool false]))), none, none] none = _
    have g1 : fB (fOp oNe (fCountB (fVar 2) (fCons (ret (.bool true)) fNil)) (ret (.int 1))) [none, some (.o (.e a d (some ("number", i)))), (some (.d (.list [.bool false, .bool false, .bool false, .bool false, .bool true, .bool false, .bool false, .bool false, .bool false, .bool false, .bool false, .bool false, .bool false]))), none, none] none = some (.ok false, none) := by rfl
    have g2 : fNot (fB (fIsV a d 1)) [none, some (.o (.e a d (some ("number", i)))), (some (.d (.list [.bool false, .bool false, .bool false, .bool false, .bool true, .bool false, .bool false, .bool false, .bool false, .bool false, .bool false, .bool false, .bool false]))), none, none] none = some (.ok false, none) := by simp [fIsV_at]
    have g3 : fOr (fB (fOp oNe (fCountB (fVar 2) (fCons (ret (.bool true)) fNil)) (ret (.int 1)))) (fNot (fB (fIsV a d 1))) [none, some (.o (.e a d (some ("number", i)))), (some (.d (.list [.bool false, .bool false, .bool false, .bool false, .bool true, .bool false, .bool false, .bool false, .bool false, .bool false, .bool false, .bool false, .bool false]))), none, none] none = some (.ok false, none) := by
      rw [fOr_e, bnd_to g1, if_neg (by decide)]
      exact g2
    rw [fIfS_e, fOut_to g3]
    rfl
  refine (fSeq_to (s1 := [none, some (.o (.e a d (some ("number", i)))), (some (.d (.list [.bool false, .bool false, .bool false, .bool false, .bool true, .bool false, .bool false, .bool false, .bool false, .bool false, .bool false, .bool false, .bool false]))), (some (.d (.int 4))), none]) (ρ1 := none) ?_).trans ?_
  · rfl
  refine (fSeq_to (s1 := [none, some (.o (.e a d (some ("number", i)))), (some (.d (.list [.bool false, .bool false, .bool false, .bool false, .bool true, .bool false, .bool false, .bool false, .bool false, .bool false, .bool false, .bool false, .bool false]))), (some (.d (.int 4))), (some (.d (.str "told")))]) (ρ1 := none) ?_).trans ?_
  · rfl
  refine (fSeq_to (s1 := [none, some (.o (.e a d (some ("number", i)))), (some (.d (.list [.bool false, .bool false, .bool false, .bool false, .bool true, .bool false, .bool false, .bool false, .bool false, .bool false, .bool false, .bool false, .bool false]))), (some (.d (.int 4))), (some (.d (.str "told")))]) (ρ1 := none) ?_).trans ?_
  · rfl
  refine (fSeq_to (s1 := [none, some (.o (.e a d (some ("number", i)))), (some (.d (.list [.bool false, .bool false, .bool false, .bool false, .bool true, .bool false, .bool false, .bool false, .bool false, .bool false, .bool false, .bool false, .bool false]))), (some (.d (.int 4))), (some (.d (.str "told")))]) (ρ1 := none) ?_).trans ?_
  · rfl
  rw [fRet_e]
  refine (fOut_to (x := .tuple [.str "told", .int i]) (ρ1 := none) ?_).trans rfl
  simp [fExA_at]
theorem wv_5 (a : Addr) (d : Option Addr) (i : Int) : f_word a d ⟨"BadStory", (some ("number", i))⟩ [none, some (.o (.e a d (some ("number", i)))), none, none, none] none = some (.rt (.tuple [.str "story", .int i]) none) := by
  have h0 : ∀ (m : Str) (b : Bool), decide (("BadStory" : Str) = m) = b → ∀ (s : Ss) (o : Option Wv) (ρ : Ro), fIsE a d ⟨"BadStory", (some ("number", i))⟩ 1 m (o :: some (.o (.e a d (some ("number", i)))) :: s) ρ = some (.ok (.bool b), ρ) := fun m b h s o ρ => by rw [fIsE_at, h]
  have h1 := h0 "BadFlips" false (by decide +kernel)
  have h2 := h0 "BadLit" false (by decide +kernel)
  have h3 := h0 "BadFaces" false (by decide +kernel)
  have h4 := h0 "BadCosts" false (by decide +kernel)
  have h5 := h0 "BadTold" false (by decide +kernel)
  have h6 := h0 "BadStory" true (by decide +kernel)
  have h7 := h0 "BadText" false (by decide +kernel)
  have h8 := h0 "BadBoard" false (by decide +kernel)
  have h9 := h0 "BadCount" false (by decide +kernel)
  have h10 := h0 "Odd" false (by decide +kernel)
  have h11 := h0 "TooMany" false (by decide +kernel)
  have h12 := h0 "BadName" false (by decide +kernel)
  have h13 := h0 "NoPoint" false (by decide +kernel)
  unfold f_word
  refine (fSeq_to (s1 := [none, some (.o (.e a d (some ("number", i)))), (some (.o (.l [.bool false, .bool false, .bool false, .bool false]))), none, none]) (ρ1 := none) ?_).trans ?_
  · simp [fOwn, few, h1, h2, h3, h4, h5, h6, h7, h8, h9, h10, h11, h12, h13]
  refine (fSeq_to (s1 := [none, some (.o (.e a d (some ("number", i)))), (some (.o (.l [.bool false, .bool false, .bool false, .bool false, .bool false, .bool true, .bool false]))), none, none]) (ρ1 := none) ?_).trans ?_
  · simp [fOwn, few, oCat, h1, h2, h3, h4, h5, h6, h7, h8, h9, h10, h11, h12, h13]
  refine (fSeq_to (s1 := [none, some (.o (.e a d (some ("number", i)))), (some (.o (.l [.bool false, .bool false, .bool false, .bool false, .bool false, .bool true, .bool false, .bool false]))), none, none]) (ρ1 := none) ?_).trans ?_
  · exact fApp_at (h8 _ _ _)
  refine (fSeq_to (s1 := [none, some (.o (.e a d (some ("number", i)))), (some (.o (.l [.bool false, .bool false, .bool false, .bool false, .bool false, .bool true, .bool false, .bool false, .bool false, .bool false, .bool false, .bool false]))), none, none]) (ρ1 := none) ?_).trans ?_
  · simp [fOwn, few, oCat, h1, h2, h3, h4, h5, h6, h7, h8, h9, h10, h11, h12, h13]
  refine (fSeq_to (s1 := [none, some (.o (.e a d (some ("number", i)))), (some (.o (.l [.bool false, .bool false, .bool false, .bool false, .bool false, .bool true, .bool false, .bool false, .bool false, .bool false, .bool false, .bool false, .bool false]))), none, none]) (ρ1 := none) ?_).trans ?_
  · exact fApp_at (h13 _ _ _)
  refine (fSeq_to (s1 := [none, some (.o (.e a d (some ("number", i)))), (some (.d (.list [.bool false, .bool false, .bool false, .bool false, .bool false, .bool true, .bool false, .bool false, .bool false, .bool false, .bool false, .bool false, .bool false]))), none, none]) (ρ1 := none) ?_).trans ?_
  · rw [fFz_at]
    show fIfS _ _ _ [none, some (.o (.e a d (some ("number", i)))), (some (.d (.list [.bool false, .bool false, .bool false, .bool false, .bool false, .bool true, .bool false, .bool false, .bool false, .bool false, .bool false, .bool false, .bool false]))), none, none] none = _
    have g1 : fB (fOp oNe (fCountB (fVar 2) (fCons (ret (.bool true)) fNil)) (ret (.int 1))) [none, some (.o (.e a d (some ("number", i)))), (some (.d (.list [.bool false, .bool false, .bool false, .bool false, .bool false, .bool true, .bool false, .bool false, .bool false, .bool false, .bool false, .bool false, .bool false]))), none, none] none = some (.ok false, none) := by rfl
    have g2 : fNot (fB (fIsV a d 1)) [none, some (.o (.e a d (some ("number", i)))), (some (.d (.list [.bool false, .bool false, .bool false, .bool false, .bool false, .bool true, .bool false, .bool false, .bool false, .bool false, .bool false, .bool false, .bool false]))), none, none] none = some (.ok false, none) := by simp [fIsV_at]
    have g3 : fOr (fB (fOp oNe (fCountB (fVar 2) (fCons (ret (.bool true)) fNil)) (ret (.int 1)))) (fNot (fB (fIsV a d 1))) [none, some (.o (.e a d (some ("number", i)))), (some (.d (.list [.bool false, .bool false, .bool false, .bool false, .bool false, .bool true, .bool false, .bool false, .bool false, .bool false, .bool false, .bool false, .bool false]))), none, none] none = some (.ok false, none) := by
      rw [fOr_e, bnd_to g1, if_neg (by decide)]
      exact g2
    rw [fIfS_e, fOut_to g3]
    rfl
  refine (fSeq_to (s1 := [none, some (.o (.e a d (some ("number", i)))), (some (.d (.list [.bool false, .bool false, .bool false, .bool false, .bool false, .bool true, .bool false, .bool false, .bool false, .bool false, .bool false, .bool false, .bool false]))), (some (.d (.int 5))), none]) (ρ1 := none) ?_).trans ?_
  · rfl
  refine (fSeq_to (s1 := [none, some (.o (.e a d (some ("number", i)))), (some (.d (.list [.bool false, .bool false, .bool false, .bool false, .bool false, .bool true, .bool false, .bool false, .bool false, .bool false, .bool false, .bool false, .bool false]))), (some (.d (.int 5))), (some (.d (.str "story")))]) (ρ1 := none) ?_).trans ?_
  · rfl
  refine (fSeq_to (s1 := [none, some (.o (.e a d (some ("number", i)))), (some (.d (.list [.bool false, .bool false, .bool false, .bool false, .bool false, .bool true, .bool false, .bool false, .bool false, .bool false, .bool false, .bool false, .bool false]))), (some (.d (.int 5))), (some (.d (.str "story")))]) (ρ1 := none) ?_).trans ?_
  · rfl
  refine (fSeq_to (s1 := [none, some (.o (.e a d (some ("number", i)))), (some (.d (.list [.bool false, .bool false, .bool false, .bool false, .bool false, .bool true, .bool false, .bool false, .bool false, .bool false, .bool false, .bool false, .bool false]))), (some (.d (.int 5))), (some (.d (.str "story")))]) (ρ1 := none) ?_).trans ?_
  · rfl
  rw [fRet_e]
  refine (fOut_to (x := .tuple [.str "story", .int i]) (ρ1 := none) ?_).trans rfl
  simp [fExA_at]
theorem wv_6 (a : Addr) (d : Option Addr) (i : Int) : f_word a d ⟨"BadText", (some ("row", i))⟩ [none, some (.o (.e a d (some ("row", i)))), none, none, none] none = some (.rt (.tuple [.str "text", .int i]) none) := by
  have h0 : ∀ (m : Str) (b : Bool), decide (("BadText" : Str) = m) = b → ∀ (s : Ss) (o : Option Wv) (ρ : Ro), fIsE a d ⟨"BadText", (some ("row", i))⟩ 1 m (o :: some (.o (.e a d (some ("row", i)))) :: s) ρ = some (.ok (.bool b), ρ) := fun m b h s o ρ => by rw [fIsE_at, h]
  have h1 := h0 "BadFlips" false (by decide +kernel)
  have h2 := h0 "BadLit" false (by decide +kernel)
  have h3 := h0 "BadFaces" false (by decide +kernel)
  have h4 := h0 "BadCosts" false (by decide +kernel)
  have h5 := h0 "BadTold" false (by decide +kernel)
  have h6 := h0 "BadStory" false (by decide +kernel)
  have h7 := h0 "BadText" true (by decide +kernel)
  have h8 := h0 "BadBoard" false (by decide +kernel)
  have h9 := h0 "BadCount" false (by decide +kernel)
  have h10 := h0 "Odd" false (by decide +kernel)
  have h11 := h0 "TooMany" false (by decide +kernel)
  have h12 := h0 "BadName" false (by decide +kernel)
  have h13 := h0 "NoPoint" false (by decide +kernel)
  unfold f_word
  refine (fSeq_to (s1 := [none, some (.o (.e a d (some ("row", i)))), (some (.o (.l [.bool false, .bool false, .bool false, .bool false]))), none, none]) (ρ1 := none) ?_).trans ?_
  · simp [fOwn, few, h1, h2, h3, h4, h5, h6, h7, h8, h9, h10, h11, h12, h13]
  refine (fSeq_to (s1 := [none, some (.o (.e a d (some ("row", i)))), (some (.o (.l [.bool false, .bool false, .bool false, .bool false, .bool false, .bool false, .bool true]))), none, none]) (ρ1 := none) ?_).trans ?_
  · simp [fOwn, few, oCat, h1, h2, h3, h4, h5, h6, h7, h8, h9, h10, h11, h12, h13]
  refine (fSeq_to (s1 := [none, some (.o (.e a d (some ("row", i)))), (some (.o (.l [.bool false, .bool false, .bool false, .bool false, .bool false, .bool false, .bool true, .bool false]))), none, none]) (ρ1 := none) ?_).trans ?_
  · exact fApp_at (h8 _ _ _)
  refine (fSeq_to (s1 := [none, some (.o (.e a d (some ("row", i)))), (some (.o (.l [.bool false, .bool false, .bool false, .bool false, .bool false, .bool false, .bool true, .bool false, .bool false, .bool false, .bool false, .bool false]))), none, none]) (ρ1 := none) ?_).trans ?_
  · simp [fOwn, few, oCat, h1, h2, h3, h4, h5, h6, h7, h8, h9, h10, h11, h12, h13]
  refine (fSeq_to (s1 := [none, some (.o (.e a d (some ("row", i)))), (some (.o (.l [.bool false, .bool false, .bool false, .bool false, .bool false, .bool false, .bool true, .bool false, .bool false, .bool false, .bool false, .bool false, .bool false]))), none, none]) (ρ1 := none) ?_).trans ?_
  · exact fApp_at (h13 _ _ _)
  refine (fSeq_to (s1 := [none, some (.o (.e a d (some ("row", i)))), (some (.d (.list [.bool false, .bool false, .bool false, .bool false, .bool false, .bool false, .bool true, .bool false, .bool false, .bool false, .bool false, .bool false, .bool false]))), none, none]) (ρ1 := none) ?_).trans ?_
  · rw [fFz_at]
    show fIfS _ _ _ [none, some (.o (.e a d (some ("row", i)))), (some (.d (.list [.bool false, .bool false, .bool false, .bool false, .bool false, .bool false, .bool true, .bool false, .bool false, .bool false, .bool false, .bool false, .bool false]))), none, none] none = _
    have g1 : fB (fOp oNe (fCountB (fVar 2) (fCons (ret (.bool true)) fNil)) (ret (.int 1))) [none, some (.o (.e a d (some ("row", i)))), (some (.d (.list [.bool false, .bool false, .bool false, .bool false, .bool false, .bool false, .bool true, .bool false, .bool false, .bool false, .bool false, .bool false, .bool false]))), none, none] none = some (.ok false, none) := by rfl
    have g2 : fNot (fB (fIsV a d 1)) [none, some (.o (.e a d (some ("row", i)))), (some (.d (.list [.bool false, .bool false, .bool false, .bool false, .bool false, .bool false, .bool true, .bool false, .bool false, .bool false, .bool false, .bool false, .bool false]))), none, none] none = some (.ok false, none) := by simp [fIsV_at]
    have g3 : fOr (fB (fOp oNe (fCountB (fVar 2) (fCons (ret (.bool true)) fNil)) (ret (.int 1)))) (fNot (fB (fIsV a d 1))) [none, some (.o (.e a d (some ("row", i)))), (some (.d (.list [.bool false, .bool false, .bool false, .bool false, .bool false, .bool false, .bool true, .bool false, .bool false, .bool false, .bool false, .bool false, .bool false]))), none, none] none = some (.ok false, none) := by
      rw [fOr_e, bnd_to g1, if_neg (by decide)]
      exact g2
    rw [fIfS_e, fOut_to g3]
    rfl
  refine (fSeq_to (s1 := [none, some (.o (.e a d (some ("row", i)))), (some (.d (.list [.bool false, .bool false, .bool false, .bool false, .bool false, .bool false, .bool true, .bool false, .bool false, .bool false, .bool false, .bool false, .bool false]))), (some (.d (.int 6))), none]) (ρ1 := none) ?_).trans ?_
  · rfl
  refine (fSeq_to (s1 := [none, some (.o (.e a d (some ("row", i)))), (some (.d (.list [.bool false, .bool false, .bool false, .bool false, .bool false, .bool false, .bool true, .bool false, .bool false, .bool false, .bool false, .bool false, .bool false]))), (some (.d (.int 6))), (some (.d (.str "text")))]) (ρ1 := none) ?_).trans ?_
  · rfl
  refine (fSeq_to (s1 := [none, some (.o (.e a d (some ("row", i)))), (some (.d (.list [.bool false, .bool false, .bool false, .bool false, .bool false, .bool false, .bool true, .bool false, .bool false, .bool false, .bool false, .bool false, .bool false]))), (some (.d (.int 6))), (some (.d (.str "text")))]) (ρ1 := none) ?_).trans ?_
  · rfl
  exact fSeq_rt (by
    rw [fIfS_e, fOut_to (x := true) (ρ1 := none) (by rfl), if_pos rfl, fRet_e]
    refine (fOut_to (x := .tuple [.str "text", .int i]) (ρ1 := none) ?_).trans rfl
    simp [fExA_at])
theorem wv_7 (a : Addr) (d : Option Addr) (i : Int) : f_word a d ⟨"BadBoard", none⟩ [none, some (.o (.e a d none)), none, none, none] none = some (.rt (.tuple [.str "board"]) none) := by
  have h0 : ∀ (m : Str) (b : Bool), decide (("BadBoard" : Str) = m) = b → ∀ (s : Ss) (o : Option Wv) (ρ : Ro), fIsE a d ⟨"BadBoard", none⟩ 1 m (o :: some (.o (.e a d none)) :: s) ρ = some (.ok (.bool b), ρ) := fun m b h s o ρ => by rw [fIsE_at, h]
  have h1 := h0 "BadFlips" false (by decide +kernel)
  have h2 := h0 "BadLit" false (by decide +kernel)
  have h3 := h0 "BadFaces" false (by decide +kernel)
  have h4 := h0 "BadCosts" false (by decide +kernel)
  have h5 := h0 "BadTold" false (by decide +kernel)
  have h6 := h0 "BadStory" false (by decide +kernel)
  have h7 := h0 "BadText" false (by decide +kernel)
  have h8 := h0 "BadBoard" true (by decide +kernel)
  have h9 := h0 "BadCount" false (by decide +kernel)
  have h10 := h0 "Odd" false (by decide +kernel)
  have h11 := h0 "TooMany" false (by decide +kernel)
  have h12 := h0 "BadName" false (by decide +kernel)
  have h13 := h0 "NoPoint" false (by decide +kernel)
  unfold f_word
  refine (fSeq_to (s1 := [none, some (.o (.e a d none)), (some (.o (.l [.bool false, .bool false, .bool false, .bool false]))), none, none]) (ρ1 := none) ?_).trans ?_
  · simp [fOwn, few, h1, h2, h3, h4, h5, h6, h7, h8, h9, h10, h11, h12, h13]
  refine (fSeq_to (s1 := [none, some (.o (.e a d none)), (some (.o (.l [.bool false, .bool false, .bool false, .bool false, .bool false, .bool false, .bool false]))), none, none]) (ρ1 := none) ?_).trans ?_
  · simp [fOwn, few, oCat, h1, h2, h3, h4, h5, h6, h7, h8, h9, h10, h11, h12, h13]
  refine (fSeq_to (s1 := [none, some (.o (.e a d none)), (some (.o (.l [.bool false, .bool false, .bool false, .bool false, .bool false, .bool false, .bool false, .bool true]))), none, none]) (ρ1 := none) ?_).trans ?_
  · exact fApp_at (h8 _ _ _)
  refine (fSeq_to (s1 := [none, some (.o (.e a d none)), (some (.o (.l [.bool false, .bool false, .bool false, .bool false, .bool false, .bool false, .bool false, .bool true, .bool false, .bool false, .bool false, .bool false]))), none, none]) (ρ1 := none) ?_).trans ?_
  · simp [fOwn, few, oCat, h1, h2, h3, h4, h5, h6, h7, h8, h9, h10, h11, h12, h13]
  refine (fSeq_to (s1 := [none, some (.o (.e a d none)), (some (.o (.l [.bool false, .bool false, .bool false, .bool false, .bool false, .bool false, .bool false, .bool true, .bool false, .bool false, .bool false, .bool false, .bool false]))), none, none]) (ρ1 := none) ?_).trans ?_
  · exact fApp_at (h13 _ _ _)
  refine (fSeq_to (s1 := [none, some (.o (.e a d none)), (some (.d (.list [.bool false, .bool false, .bool false, .bool false, .bool false, .bool false, .bool false, .bool true, .bool false, .bool false, .bool false, .bool false, .bool false]))), none, none]) (ρ1 := none) ?_).trans ?_
  · rw [fFz_at]
    show fIfS _ _ _ [none, some (.o (.e a d none)), (some (.d (.list [.bool false, .bool false, .bool false, .bool false, .bool false, .bool false, .bool false, .bool true, .bool false, .bool false, .bool false, .bool false, .bool false]))), none, none] none = _
    have g1 : fB (fOp oNe (fCountB (fVar 2) (fCons (ret (.bool true)) fNil)) (ret (.int 1))) [none, some (.o (.e a d none)), (some (.d (.list [.bool false, .bool false, .bool false, .bool false, .bool false, .bool false, .bool false, .bool true, .bool false, .bool false, .bool false, .bool false, .bool false]))), none, none] none = some (.ok false, none) := by rfl
    have g2 : fNot (fB (fIsV a d 1)) [none, some (.o (.e a d none)), (some (.d (.list [.bool false, .bool false, .bool false, .bool false, .bool false, .bool false, .bool false, .bool true, .bool false, .bool false, .bool false, .bool false, .bool false]))), none, none] none = some (.ok false, none) := by simp [fIsV_at]
    have g3 : fOr (fB (fOp oNe (fCountB (fVar 2) (fCons (ret (.bool true)) fNil)) (ret (.int 1)))) (fNot (fB (fIsV a d 1))) [none, some (.o (.e a d none)), (some (.d (.list [.bool false, .bool false, .bool false, .bool false, .bool false, .bool false, .bool false, .bool true, .bool false, .bool false, .bool false, .bool false, .bool false]))), none, none] none = some (.ok false, none) := by
      rw [fOr_e, bnd_to g1, if_neg (by decide)]
      exact g2
    rw [fIfS_e, fOut_to g3]
    rfl
  refine (fSeq_to (s1 := [none, some (.o (.e a d none)), (some (.d (.list [.bool false, .bool false, .bool false, .bool false, .bool false, .bool false, .bool false, .bool true, .bool false, .bool false, .bool false, .bool false, .bool false]))), (some (.d (.int 7))), none]) (ρ1 := none) ?_).trans ?_
  · rfl
  refine (fSeq_to (s1 := [none, some (.o (.e a d none)), (some (.d (.list [.bool false, .bool false, .bool false, .bool false, .bool false, .bool false, .bool false, .bool true, .bool false, .bool false, .bool false, .bool false, .bool false]))), (some (.d (.int 7))), (some (.d (.str "board")))]) (ρ1 := none) ?_).trans ?_
  · rfl
  refine (fSeq_to (s1 := [none, some (.o (.e a d none)), (some (.d (.list [.bool false, .bool false, .bool false, .bool false, .bool false, .bool false, .bool false, .bool true, .bool false, .bool false, .bool false, .bool false, .bool false]))), (some (.d (.int 7))), (some (.d (.str "board")))]) (ρ1 := none) ?_).trans ?_
  · rfl
  refine (fSeq_to (s1 := [none, some (.o (.e a d none)), (some (.d (.list [.bool false, .bool false, .bool false, .bool false, .bool false, .bool false, .bool false, .bool true, .bool false, .bool false, .bool false, .bool false, .bool false]))), (some (.d (.int 7))), (some (.d (.str "board")))]) (ρ1 := none) ?_).trans ?_
  · rfl
  rw [fRet_e]
  refine (fOut_to (x := .tuple [.str "board"]) (ρ1 := none) ?_).trans rfl
  simp
theorem wv_8 (a : Addr) (d : Option Addr) (i : Int) : f_word a d ⟨"BadCount", none⟩ [none, some (.o (.e a d none)), none, none, none] none = some (.rt (.tuple [.str "count"]) none) := by
  have h0 : ∀ (m : Str) (b : Bool), decide (("BadCount" : Str) = m) = b → ∀ (s : Ss) (o : Option Wv) (ρ : Ro), fIsE a d ⟨"BadCount", none⟩ 1 m (o :: some (.o (.e a d none)) :: s) ρ = some (.ok (.bool b), ρ) := fun m b h s o ρ => by rw [fIsE_at, h]
  have h1 := h0 "BadFlips" false (by decide +kernel)
  have h2 := h0 "BadLit" false (by decide +kernel)
  have h3 := h0 "BadFaces" false (by decide +kernel)
  have h4 := h0 "BadCosts" false (by decide +kernel)
  have h5 := h0 "BadTold" false (by decide +kernel)
  have h6 := h0 "BadStory" false (by decide +kernel)
  have h7 := h0 "BadText" false (by decide +kernel)
  have h8 := h0 "BadBoard" false (by decide +kernel)
  have h9 := h0 "BadCount" true (by decide +kernel)
  have h10 := h0 "Odd" false (by decide +kernel)
  have h11 := h0 "TooMany" false (by decide +kernel)
  have h12 := h0 "BadName" false (by decide +kernel)
  have h13 := h0 "NoPoint" false (by decide +kernel)
  unfold f_word
  refine (fSeq_to (s1 := [none, some (.o (.e a d none)), (some (.o (.l [.bool false, .bool false, .bool false, .bool false]))), none, none]) (ρ1 := none) ?_).trans ?_
  · simp [fOwn, few, h1, h2, h3, h4, h5, h6, h7, h8, h9, h10, h11, h12, h13]
  refine (fSeq_to (s1 := [none, some (.o (.e a d none)), (some (.o (.l [.bool false, .bool false, .bool false, .bool false, .bool false, .bool false, .bool false]))), none, none]) (ρ1 := none) ?_).trans ?_
  · simp [fOwn, few, oCat, h1, h2, h3, h4, h5, h6, h7, h8, h9, h10, h11, h12, h13]
  refine (fSeq_to (s1 := [none, some (.o (.e a d none)), (some (.o (.l [.bool false, .bool false, .bool false, .bool false, .bool false, .bool false, .bool false, .bool false]))), none, none]) (ρ1 := none) ?_).trans ?_
  · exact fApp_at (h8 _ _ _)
  refine (fSeq_to (s1 := [none, some (.o (.e a d none)), (some (.o (.l [.bool false, .bool false, .bool false, .bool false, .bool false, .bool false, .bool false, .bool false, .bool true, .bool false, .bool false, .bool false]))), none, none]) (ρ1 := none) ?_).trans ?_
  · simp [fOwn, few, oCat, h1, h2, h3, h4, h5, h6, h7, h8, h9, h10, h11, h12, h13]
  refine (fSeq_to (s1 := [none, some (.o (.e a d none)), (some (.o (.l [.bool false, .bool false, .bool false, .bool false, .bool false, .bool false, .bool false, .bool false, .bool true, .bool false, .bool false, .bool false, .bool false]))), none, none]) (ρ1 := none) ?_).trans ?_
  · exact fApp_at (h13 _ _ _)
  refine (fSeq_to (s1 := [none, some (.o (.e a d none)), (some (.d (.list [.bool false, .bool false, .bool false, .bool false, .bool false, .bool false, .bool false, .bool false, .bool true, .bool false, .bool false, .bool false, .bool false]))), none, none]) (ρ1 := none) ?_).trans ?_
  · rw [fFz_at]
    show fIfS _ _ _ [none, some (.o (.e a d none)), (some (.d (.list [.bool false, .bool false, .bool false, .bool false, .bool false, .bool false, .bool false, .bool false, .bool true, .bool false, .bool false, .bool false, .bool false]))), none, none] none = _
    have g1 : fB (fOp oNe (fCountB (fVar 2) (fCons (ret (.bool true)) fNil)) (ret (.int 1))) [none, some (.o (.e a d none)), (some (.d (.list [.bool false, .bool false, .bool false, .bool false, .bool false, .bool false, .bool false, .bool false, .bool true, .bool false, .bool false, .bool false, .bool false]))), none, none] none = some (.ok false, none) := by rfl
    have g2 : fNot (fB (fIsV a d 1)) [none, some (.o (.e a d none)), (some (.d (.list [.bool false, .bool false, .bool false, .bool false, .bool false, .bool false, .bool false, .bool false, .bool true, .bool false, .bool false, .bool false, .bool false]))), none, none] none = some (.ok false, none) := by simp [fIsV_at]
    have g3 : fOr (fB (fOp oNe (fCountB (fVar 2) (fCons (ret (.bool true)) fNil)) (ret (.int 1)))) (fNot (fB (fIsV a d 1))) [none, some (.o (.e a d none)), (some (.d (.list [.bool false, .bool false, .bool false, .bool false, .bool false, .bool false, .bool false, .bool false, .bool true, .bool false, .bool false, .bool false, .bool false]))), none, none] none = some (.ok false, none) := by
      rw [fOr_e, bnd_to g1, if_neg (by decide)]
      exact g2
    rw [fIfS_e, fOut_to g3]
    rfl
  refine (fSeq_to (s1 := [none, some (.o (.e a d none)), (some (.d (.list [.bool false, .bool false, .bool false, .bool false, .bool false, .bool false, .bool false, .bool false, .bool true, .bool false, .bool false, .bool false, .bool false]))), (some (.d (.int 8))), none]) (ρ1 := none) ?_).trans ?_
  · rfl
  refine (fSeq_to (s1 := [none, some (.o (.e a d none)), (some (.d (.list [.bool false, .bool false, .bool false, .bool false, .bool false, .bool false, .bool false, .bool false, .bool true, .bool false, .bool false, .bool false, .bool false]))), (some (.d (.int 8))), (some (.d (.str "board")))]) (ρ1 := none) ?_).trans ?_
  · rfl
  exact fSeq_rt (by rfl)
theorem wv_9 (a : Addr) (d : Option Addr) (i : Int) : f_word a d ⟨"Odd", none⟩ [none, some (.o (.e a d none)), none, none, none] none = some (.rt (.tuple [.str "odd"]) none) := by
  have h0 : ∀ (m : Str) (b : Bool), decide (("Odd" : Str) = m) = b → ∀ (s : Ss) (o : Option Wv) (ρ : Ro), fIsE a d ⟨"Odd", none⟩ 1 m (o :: some (.o (.e a d none)) :: s) ρ = some (.ok (.bool b), ρ) := fun m b h s o ρ => by rw [fIsE_at, h]
  have h1 := h0 "BadFlips" false (by decide +kernel)
  have h2 := h0 "BadLit" false (by decide +kernel)
  have h3 := h0 "BadFaces" false (by decide +kernel)
  have h4 := h0 "BadCosts" false (by decide +kernel)
  have h5 := h0 "BadTold" false (by decide +kernel)
  have h6 := h0 "BadStory" false (by decide +kernel)
  have h7 := h0 "BadText" false (by decide +kernel)
  have h8 := h0 "BadBoard" false (by decide +kernel)
  have h9 := h0 "BadCount" false (by decide +kernel)
  have h10 := h0 "Odd" true (by decide +kernel)
  have h11 := h0 "TooMany" false (by decide +kernel)
  have h12 := h0 "BadName" false (by decide +kernel)
  have h13 := h0 "NoPoint" false (by decide +kernel)
  unfold f_word
  refine (fSeq_to (s1 := [none, some (.o (.e a d none)), (some (.o (.l [.bool false, .bool false, .bool false, .bool false]))), none, none]) (ρ1 := none) ?_).trans ?_
  · simp [fOwn, few, h1, h2, h3, h4, h5, h6, h7, h8, h9, h10, h11, h12, h13]
  refine (fSeq_to (s1 := [none, some (.o (.e a d none)), (some (.o (.l [.bool false, .bool false, .bool false, .bool false, .bool false, .bool false, .bool false]))), none, none]) (ρ1 := none) ?_).trans ?_
  · simp [fOwn, few, oCat, h1, h2, h3, h4, h5, h6, h7, h8, h9, h10, h11, h12, h13]
  refine (fSeq_to (s1 := [none, some (.o (.e a d none)), (some (.o (.l [.bool false, .bool false, .bool false, .bool false, .bool false, .bool false, .bool false, .bool false]))), none, none]) (ρ1 := none) ?_).trans ?_
  · exact fApp_at (h8 _ _ _)
  refine (fSeq_to (s1 := [none, some (.o (.e a d none)), (some (.o (.l [.bool false, .bool false, .bool false, .bool false, .bool false, .bool false, .bool false, .bool false, .bool false, .bool true, .bool false, .bool false]))), none, none]) (ρ1 := none) ?_).trans ?_
  · simp [fOwn, few, oCat, h1, h2, h3, h4, h5, h6, h7, h8, h9, h10, h11, h12, h13]
  refine (fSeq_to (s1 := [none, some (.o (.e a d none)), (some (.o (.l [.bool false, .bool false, .bool false, .bool false, .bool false, .bool false, .bool false, .bool false, .bool false, .bool true, .bool false, .bool false, .bool false]))), none, none]) (ρ1 := none) ?_).trans ?_
  · exact fApp_at (h13 _ _ _)
  refine (fSeq_to (s1 := [none, some (.o (.e a d none)), (some (.d (.list [.bool false, .bool false, .bool false, .bool false, .bool false, .bool false, .bool false, .bool false, .bool false, .bool true, .bool false, .bool false, .bool false]))), none, none]) (ρ1 := none) ?_).trans ?_
  · rw [fFz_at]
    show fIfS _ _ _ [none, some (.o (.e a d none)), (some (.d (.list [.bool false, .bool false, .bool false, .bool false, .bool false, .bool false, .bool false, .bool false, .bool false, .bool true, .bool false, .bool false, .bool false]))), none, none] none = _
    have g1 : fB (fOp oNe (fCountB (fVar 2) (fCons (ret (.bool true)) fNil)) (ret (.int 1))) [none, some (.o (.e a d none)), (some (.d (.list [.bool false, .bool false, .bool false, .bool false, .bool false, .bool false, .bool false, .bool false, .bool false, .bool true, .bool false, .bool false, .bool false]))), none, none] none = some (.ok false, none) := by rfl
    have g2 : fNot (fB (fIsV a d 1)) [none, some (.o (.e a d none)), (some (.d (.list [.bool false, .bool false, .bool false, .bool false, .bool false, .bool false, .bool false, .bool false, .bool false, .bool true, .bool false, .bool false, .bool false]))), none, none] none = some (.ok false, none) := by simp [fIsV_at]
    have g3 : fOr (fB (fOp oNe (fCountB (fVar 2) (fCons (ret (.bool true)) fNil)) (ret (.int 1)))) (fNot (fB (fIsV a d 1))) [none, some (.o (.e a d none)), (some (.d (.list [.bool false, .bool false, .bool false, .bool false, .bool false, .bool false, .bool false, .bool false, .bool false, .bool true, .bool false, .bool false, .bool false]))), none, none] none = some (.ok false, none) := by
      rw [fOr_e, bnd_to g1, if_neg (by decide)]
      exact g2
    rw [fIfS_e, fOut_to g3]
    rfl
  refine (fSeq_to (s1 := [none, some (.o (.e a d none)), (some (.d (.list [.bool false, .bool false, .bool false, .bool false, .bool false, .bool false, .bool false, .bool false, .bool false, .bool true, .bool false, .bool false, .bool false]))), (some (.d (.int 9))), none]) (ρ1 := none) ?_).trans ?_
  · rfl
  refine (fSeq_to (s1 := [none, some (.o (.e a d none)), (some (.d (.list [.bool false, .bool false, .bool false, .bool false, .bool false, .bool false, .bool false, .bool false, .bool false, .bool true, .bool false, .bool false, .bool false]))), (some (.d (.int 9))), (some (.d (.str "board")))]) (ρ1 := none) ?_).trans ?_
  · rfl
  exact fSeq_rt (by rfl)
theorem wv_10 (a : Addr) (d : Option Addr) (i : Int) : f_word a d ⟨"TooMany", none⟩ [none, some (.o (.e a d none)), none, none, none] none = some (.rt (.tuple [.str "many"]) none) := by
  have h0 : ∀ (m : Str) (b : Bool), decide (("TooMany" : Str) = m) = b → ∀ (s : Ss) (o : Option Wv) (ρ : Ro), fIsE a d ⟨"TooMany", none⟩ 1 m (o :: some (.o (.e a d none)) :: s) ρ = some (.ok (.bool b), ρ) := fun m b h s o ρ => by rw [fIsE_at, h]
  have h1 := h0 "BadFlips" false (by decide +kernel)
  have h2 := h0 "BadLit" false (by decide +kernel)
  have h3 := h0 "BadFaces" false (by decide +kernel)
  have h4 := h0 "BadCosts" false (by decide +kernel)
  have h5 := h0 "BadTold" false (by decide +kernel)
  have h6 := h0 "BadStory" false (by decide +kernel)
  have h7 := h0 "BadText" false (by decide +kernel)
  have h8 := h0 "BadBoard" false (by decide +kernel)
  have h9 := h0 "BadCount" false (by decide +kernel)
  have h10 := h0 "Odd" false (by decide +kernel)
  have h11 := h0 "TooMany" true (by decide +kernel)
  have h12 := h0 "BadName" false (by decide +kernel)
  have h13 := h0 "NoPoint" false (by decide +kernel)
  unfold f_word
  refine (fSeq_to (s1 := [none, some (.o (.e a d none)), (some (.o (.l [.bool false, .bool false, .bool false, .bool false]))), none, none]) (ρ1 := none) ?_).trans ?_
  · simp [fOwn, few, h1, h2, h3, h4, h5, h6, h7, h8, h9, h10, h11, h12, h13]
  refine (fSeq_to (s1 := [none, some (.o (.e a d none)), (some (.o (.l [.bool false, .bool false, .bool false, .bool false, .bool false, .bool false, .bool false]))), none, none]) (ρ1 := none) ?_).trans ?_
  · simp [fOwn, few, oCat, h1, h2, h3, h4, h5, h6, h7, h8, h9, h10, h11, h12, h13]
  refine (fSeq_to (s1 := [none, some (.o (.e a d none)), (some (.o (.l [.bool false, .bool false, .bool false, .bool false, .bool false, .bool false, .bool false, .bool false]))), none, none]) (ρ1 := none) ?_).trans ?_
  · exact fApp_at (h8 _ _ _)
  refine (fSeq_to (s1 := [none, some (.o (.e a d none)), (some (.o (.l [.bool false, .bool false, .bool false, .bool false, .bool false, .bool false, .bool false, .bool false, .bool false, .bool false, .bool true, .bool false]))), none, none]) (ρ1 := none) ?_).trans ?_
  · simp [fOwn, few, oCat, h1, h2, h3, h4, h5, h6, h7, h8, h9, h10, h11, h12, h13]
  refine (fSeq_to (s1 := [none, some (.o (.e a d none)), (some (.o (.l [.bool false, .bool false, .bool false, .bool false, .bool false, .bool false, .bool false, .bool false, .bool false, .bool false, .bool true, .bool false, .bool false]))), none, none]) (ρ1 := none) ?_).trans ?_
  · exact fApp_at (h13 _ _ _)
  refine (fSeq_to (s1 := [none, some (.o (.e a d none)), (some (.d (.list [.bool false, .bool false, .bool false, .bool false, .bool false, .bool false, .bool false, .bool false, .bool false, .bool false, .bool true, .bool false, .bool false]))), none, none]) (ρ1 := none) ?_).trans ?_
  · rw [fFz_at]
    show fIfS _ _ _ [none, some (.o (.e a d none)), (some (.d (.list [.bool false, .bool false, .bool false, .bool false, .bool false, .bool false, .bool false, .bool false, .bool false, .bool false, .bool true, .bool false, .bool false]))), none, none] none = _
    have g1 : fB (fOp oNe (fCountB (fVar 2) (fCons (ret (.bool true)) fNil)) (ret (.int 1))) [none, some (.o (.e a d none)), (some (.d (.list [.bool false, .bool false, .bool false, .bool false, .bool false, .bool false, .bool false, .bool false, .bool false, .bool false, .bool true, .bool false, .bool false]))), none, none] none = some (.ok false, none) := by rfl
    have g2 : fNot (fB (fIsV a d 1)) [none, some (.o (.e a d none)), (some (.d (.list [.bool false, .bool false, .bool false, .bool false, .bool false, .bool false, .bool false, .bool false, .bool false, .bool false, .bool true, .bool false, .bool false]))), none, none] none = some (.ok false, none) := by simp [fIsV_at]
    have g3 : fOr (fB (fOp oNe (fCountB (fVar 2) (fCons (ret (.bool true)) fNil)) (ret (.int 1)))) (fNot (fB (fIsV a d 1))) [none, some (.o (.e a d none)), (some (.d (.list [.bool false, .bool false, .bool false, .bool false, .bool false, .bool false, .bool false, .bool false, .bool false, .bool false, .bool true, .bool false, .bool false]))), none, none] none = some (.ok false, none) := by
      rw [fOr_e, bnd_to g1, if_neg (by decide)]
      exact g2
    rw [fIfS_e, fOut_to g3]
    rfl
  refine (fSeq_to (s1 := [none, some (.o (.e a d none)), (some (.d (.list [.bool false, .bool false, .bool false, .bool false, .bool false, .bool false, .bool false, .bool false, .bool false, .bool false, .bool true, .bool false, .bool false]))), (some (.d (.int 10))), none]) (ρ1 := none) ?_).trans ?_
  · rfl
  refine (fSeq_to (s1 := [none, some (.o (.e a d none)), (some (.d (.list [.bool false, .bool false, .bool false, .bool false, .bool false, .bool false, .bool false, .bool false, .bool false, .bool false, .bool true, .bool false, .bool false]))), (some (.d (.int 10))), (some (.d (.str "board")))]) (ρ1 := none) ?_).trans ?_
  · rfl
  exact fSeq_rt (by rfl)
theorem wv_11 (a : Addr) (d : Option Addr) (i : Int) : f_word a d ⟨"BadName", none⟩ [none, some (.o (.e a d none)), none, none, none] none = some (.rt (.tuple [.str "name"]) none) := by
  have h0 : ∀ (m : Str) (b : Bool), decide (("BadName" : Str) = m) = b → ∀ (s : Ss) (o : Option Wv) (ρ : Ro), fIsE a d ⟨"BadName", none⟩ 1 m (o :: some (.o (.e a d none)) :: s) ρ = some (.ok (.bool b), ρ) := fun m b h s o ρ => by rw [fIsE_at, h]
  have h1 := h0 "BadFlips" false (by decide +kernel)
  have h2 := h0 "BadLit" false (by decide +kernel)
  have h3 := h0 "BadFaces" false (by decide +kernel)
  have h4 := h0 "BadCosts" false (by decide +kernel)
  have h5 := h0 "BadTold" false (by decide +kernel)
  have h6 := h0 "BadStory" false (by decide +kernel)
  have h7 := h0 "BadText" false (by decide +kernel)
  have h8 := h0 "BadBoard" false (by decide +kernel)
  have h9 := h0 "BadCount" false (by decide +kernel)
  have h10 := h0 "Odd" false (by decide +kernel)
  have h11 := h0 "TooMany" false (by decide +kernel)
  have h12 := h0 "BadName" true (by decide +kernel)
  have h13 := h0 "NoPoint" false (by decide +kernel)
  unfold f_word
  refine (fSeq_to (s1 := [none, some (.o (.e a d none)), (some (.o (.l [.bool false, .bool false, .bool false, .bool false]))), none, none]) (ρ1 := none) ?_).trans ?_
  · simp [fOwn, few, h1, h2, h3, h4, h5, h6, h7, h8, h9, h10, h11, h12, h13]
  refine (fSeq_to (s1 := [none, some (.o (.e a d none)), (some (.o (.l [.bool false, .bool false, .bool false, .bool false, .bool false, .bool false, .bool false]))), none, none]) (ρ1 := none) ?_).trans ?_
  · simp [fOwn, few, oCat, h1, h2, h3, h4, h5, h6, h7, h8, h9, h10, h11, h12, h13]
  refine (fSeq_to (s1 := [none, some (.o (.e a d none)), (some (.o (.l [.bool false, .bool false, .bool false, .bool false, .bool false, .bool false, .bool false, .bool false]))), none, none]) (ρ1 := none) ?_).trans ?_
  · exact fApp_at (h8 _ _ _)
  refine (fSeq_to (s1 := [none, some (.o (.e a d none)), (some (.o (.l [.bool false, .bool false, .bool false, .bool false, .bool false, .bool false, .bool false, .bool false, .bool false, .bool false, .bool false, .bool true]))), none, none]) (ρ1 := none) ?_).trans ?_
  · simp [fOwn, few, oCat, h1, h2, h3, h4, h5, h6, h7, h8, h9, h10, h11, h12, h13]
  refine (fSeq_to (s1 := [none, some (.o (.e a d none)), (some (.o (.l [.bool false, .bool false, .bool false, .bool false, .bool false, .bool false, .bool false, .bool false, .bool false, .bool false, .bool false, .bool true, .bool false]))), none, none]) (ρ1 := none) ?_).trans ?_
  · exact fApp_at (h13 _ _ _)
  refine (fSeq_to (s1 := [none, some (.o (.e a d none)), (some (.d (.list [.bool false, .bool false, .bool false, .bool false, .bool false, .bool false, .bool false, .bool false, .bool false, .bool false, .bool false, .bool true, .bool false]))), none, none]) (ρ1 := none) ?_).trans ?_
  · rw [fFz_at]
    show fIfS _ _ _ [none, some (.o (.e a d none)), (some (.d (.list [.bool false, .bool false, .bool false, .bool false, .bool false, .bool false, .bool false, .bool false, .bool false, .bool false, .bool false, .bool true, .bool false]))), none, none] none = _
    have g1 : fB (fOp oNe (fCountB (fVar 2) (fCons (ret (.bool true)) fNil)) (ret (.int 1))) [none, some (.o (.e a d none)), (some (.d (.list [.bool false, .bool false, .bool false, .bool false, .bool false, .bool false, .bool false, .bool false, .bool false, .bool false, .bool false, .bool true, .bool false]))), none, none] none = some (.ok false, none) := by rfl
    have g2 : fNot (fB (fIsV a d 1)) [none, some (.o (.e a d none)), (some (.d (.list [.bool false, .bool false, .bool false, .bool false, .bool false, .bool false, .bool false, .bool false, .bool false, .bool false, .bool false, .bool true, .bool false]))), none, none] none = some (.ok false, none) := by simp [fIsV_at]
    have g3 : fOr (fB (fOp oNe (fCountB (fVar 2) (fCons (ret (.bool true)) fNil)) (ret (.int 1)))) (fNot (fB (fIsV a d 1))) [none, some (.o (.e a d none)), (some (.d (.list [.bool false, .bool false, .bool false, .bool false, .bool false, .bool false, .bool false, .bool false, .bool false, .bool false, .bool false, .bool true, .bool false]))), none, none] none = some (.ok false, none) := by
      rw [fOr_e, bnd_to g1, if_neg (by decide)]
      exact g2
    rw [fIfS_e, fOut_to g3]
    rfl
  refine (fSeq_to (s1 := [none, some (.o (.e a d none)), (some (.d (.list [.bool false, .bool false, .bool false, .bool false, .bool false, .bool false, .bool false, .bool false, .bool false, .bool false, .bool false, .bool true, .bool false]))), (some (.d (.int 11))), none]) (ρ1 := none) ?_).trans ?_
  · rfl
  refine (fSeq_to (s1 := [none, some (.o (.e a d none)), (some (.d (.list [.bool false, .bool false, .bool false, .bool false, .bool false, .bool false, .bool false, .bool false, .bool false, .bool false, .bool false, .bool true, .bool false]))), (some (.d (.int 11))), (some (.d (.str "board")))]) (ρ1 := none) ?_).trans ?_
  · rfl
  exact fSeq_rt (by rfl)
theorem wv_12 (a : Addr) (d : Option Addr) (i : Int) : f_word a d ⟨"NoPoint", none⟩ [none, some (.o (.e a d none)), none, none, none] none = some (.rt (.tuple [.str "point"]) none) := by
  have h0 : ∀ (m : Str) (b : Bool), decide (("NoPoint" : Str) = m) = b → ∀ (s : Ss) (o : Option Wv) (ρ : Ro), fIsE a d ⟨"NoPoint", none⟩ 1 m (o :: some (.o (.e a d none)) :: s) ρ = some (.ok (.bool b), ρ) := fun m b h s o ρ => by rw [fIsE_at, h]
  have h1 := h0 "BadFlips" false (by decide +kernel)
  have h2 := h0 "BadLit" false (by decide +kernel)
  have h3 := h0 "BadFaces" false (by decide +kernel)
  have h4 := h0 "BadCosts" false (by decide +kernel)
  have h5 := h0 "BadTold" false (by decide +kernel)
  have h6 := h0 "BadStory" false (by decide +kernel)
  have h7 := h0 "BadText" false (by decide +kernel)
  have h8 := h0 "BadBoard" false (by decide +kernel)
  have h9 := h0 "BadCount" false (by decide +kernel)
  have h10 := h0 "Odd" false (by decide +kernel)
  have h11 := h0 "TooMany" false (by decide +kernel)
  have h12 := h0 "BadName" false (by decide +kernel)
  have h13 := h0 "NoPoint" true (by decide +kernel)
  unfold f_word
  refine (fSeq_to (s1 := [none, some (.o (.e a d none)), (some (.o (.l [.bool false, .bool false, .bool false, .bool false]))), none, none]) (ρ1 := none) ?_).trans ?_
  · simp [fOwn, few, h1, h2, h3, h4, h5, h6, h7, h8, h9, h10, h11, h12, h13]
  refine (fSeq_to (s1 := [none, some (.o (.e a d none)), (some (.o (.l [.bool false, .bool false, .bool false, .bool false, .bool false, .bool false, .bool false]))), none, none]) (ρ1 := none) ?_).trans ?_
  · simp [fOwn, few, oCat, h1, h2, h3, h4, h5, h6, h7, h8, h9, h10, h11, h12, h13]
  refine (fSeq_to (s1 := [none, some (.o (.e a d none)), (some (.o (.l [.bool false, .bool false, .bool false, .bool false, .bool false, .bool false, .bool false, .bool false]))), none, none]) (ρ1 := none) ?_).trans ?_
  · exact fApp_at (h8 _ _ _)
  refine (fSeq_to (s1 := [none, some (.o (.e a d none)), (some (.o (.l [.bool false, .bool false, .bool false, .bool false, .bool false, .bool false, .bool false, .bool false, .bool false, .bool false, .bool false, .bool false]))), none, none]) (ρ1 := none) ?_).trans ?_
  · simp [fOwn, few, oCat, h1, h2, h3, h4, h5, h6, h7, h8, h9, h10, h11, h12, h13]
  refine (fSeq_to (s1 := [none, some (.o (.e a d none)), (some (.o (.l [.bool false, .bool false, .bool false, .bool false, .bool false, .bool false, .bool false, .bool false, .bool false, .bool false, .bool false, .bool false, .bool true]))), none, none]) (ρ1 := none) ?_).trans ?_
  · exact fApp_at (h13 _ _ _)
  refine (fSeq_to (s1 := [none, some (.o (.e a d none)), (some (.d (.list [.bool false, .bool false, .bool false, .bool false, .bool false, .bool false, .bool false, .bool false, .bool false, .bool false, .bool false, .bool false, .bool true]))), none, none]) (ρ1 := none) ?_).trans ?_
  · rw [fFz_at]
    show fIfS _ _ _ [none, some (.o (.e a d none)), (some (.d (.list [.bool false, .bool false, .bool false, .bool false, .bool false, .bool false, .bool false, .bool false, .bool false, .bool false, .bool false, .bool false, .bool true]))), none, none] none = _
    have g1 : fB (fOp oNe (fCountB (fVar 2) (fCons (ret (.bool true)) fNil)) (ret (.int 1))) [none, some (.o (.e a d none)), (some (.d (.list [.bool false, .bool false, .bool false, .bool false, .bool false, .bool false, .bool false, .bool false, .bool false, .bool false, .bool false, .bool false, .bool true]))), none, none] none = some (.ok false, none) := by rfl
    have g2 : fNot (fB (fIsV a d 1)) [none, some (.o (.e a d none)), (some (.d (.list [.bool false, .bool false, .bool false, .bool false, .bool false, .bool false, .bool false, .bool false, .bool false, .bool false, .bool false, .bool false, .bool true]))), none, none] none = some (.ok false, none) := by simp [fIsV_at]
    have g3 : fOr (fB (fOp oNe (fCountB (fVar 2) (fCons (ret (.bool true)) fNil)) (ret (.int 1)))) (fNot (fB (fIsV a d 1))) [none, some (.o (.e a d none)), (some (.d (.list [.bool false, .bool false, .bool false, .bool false, .bool false, .bool false, .bool false, .bool false, .bool false, .bool false, .bool false, .bool false, .bool true]))), none, none] none = some (.ok false, none) := by
      rw [fOr_e, bnd_to g1, if_neg (by decide)]
      exact g2
    rw [fIfS_e, fOut_to g3]
    rfl
  refine (fSeq_to (s1 := [none, some (.o (.e a d none)), (some (.d (.list [.bool false, .bool false, .bool false, .bool false, .bool false, .bool false, .bool false, .bool false, .bool false, .bool false, .bool false, .bool false, .bool true]))), (some (.d (.int 12))), none]) (ρ1 := none) ?_).trans ?_
  · rfl
  refine (fSeq_to (s1 := [none, some (.o (.e a d none)), (some (.d (.list [.bool false, .bool false, .bool false, .bool false, .bool false, .bool false, .bool false, .bool false, .bool false, .bool false, .bool false, .bool false, .bool true]))), (some (.d (.int 12))), (some (.d (.str "board")))]) (ρ1 := none) ?_).trans ?_
  · rfl
  exact fSeq_rt (by rfl)
theorem word_val (a : Addr) (d : Option Addr) {x : Exn} {dd : Dt} (h : wordD x = some dd) : f_word a d x [none, some (.o (.e a d x.p)), none, none, none] none = some (.rt dd none) := by
  obtain ⟨c, p⟩ := x
  cases p with
  | none =>
    have h : (if c = "BadBoard" then some (.tuple [.str "board"]) else if c = "BadCount" then some (.tuple [.str "count"]) else if c = "Odd" then some (.tuple [.str "odd"]) else if c = "TooMany" then some (.tuple [.str "many"]) else if c = "BadName" then some (.tuple [.str "name"]) else if c = "NoPoint" then some (.tuple [.str "point"]) else (none : Option Dt)) = some dd := h
    by_cases e7 : c = "BadBoard"
    · subst e7
      rw [if_pos rfl] at h
      cases h
      exact wv_7 a d 0
    rw [if_neg e7] at h
    by_cases e8 : c = "BadCount"
    · subst e8
      rw [if_pos rfl] at h
      cases h
      exact wv_8 a d 0
    rw [if_neg e8] at h
    by_cases e9 : c = "Odd"
    · subst e9
      rw [if_pos rfl] at h
      cases h
      exact wv_9 a d 0
    rw [if_neg e9] at h
    by_cases e10 : c = "TooMany"
    · subst e10
      rw [if_pos rfl] at h
      cases h
      exact wv_10 a d 0
    rw [if_neg e10] at h
    by_cases e11 : c = "BadName"
    · subst e11
      rw [if_pos rfl] at h
      cases h
      exact wv_11 a d 0
    rw [if_neg e11] at h
    by_cases e12 : c = "NoPoint"
    · subst e12
      rw [if_pos rfl] at h
      cases h
      exact wv_12 a d 0
    rw [if_neg e12] at h
    cases h
  | some p =>
    obtain ⟨g, i⟩ := p
    have h : (if c = "BadFlips" ∧ g = "place" then some (.tuple [.str "flips", .int i]) else if c = "BadLit" ∧ g = "place" then some (.tuple [.str "lit", .int i]) else if c = "BadFaces" ∧ g = "place" then some (.tuple [.str "faces", .int i]) else if c = "BadCosts" ∧ g = "place" then some (.tuple [.str "costs", .int i]) else if c = "BadTold" ∧ g = "number" then some (.tuple [.str "told", .int i]) else if c = "BadStory" ∧ g = "number" then some (.tuple [.str "story", .int i]) else if c = "BadText" ∧ g = "row" then some (.tuple [.str "text", .int i]) else (none : Option Dt)) = some dd := h
    by_cases e0 : c = "BadFlips" ∧ g = "place"
    · obtain ⟨q1, q2⟩ := e0
      subst q1 q2
      rw [if_pos ⟨rfl, rfl⟩] at h
      cases h
      exact wv_0 a d i
    rw [if_neg e0] at h
    by_cases e1 : c = "BadLit" ∧ g = "place"
    · obtain ⟨q1, q2⟩ := e1
      subst q1 q2
      rw [if_pos ⟨rfl, rfl⟩] at h
      cases h
      exact wv_1 a d i
    rw [if_neg e1] at h
    by_cases e2 : c = "BadFaces" ∧ g = "place"
    · obtain ⟨q1, q2⟩ := e2
      subst q1 q2
      rw [if_pos ⟨rfl, rfl⟩] at h
      cases h
      exact wv_2 a d i
    rw [if_neg e2] at h
    by_cases e3 : c = "BadCosts" ∧ g = "place"
    · obtain ⟨q1, q2⟩ := e3
      subst q1 q2
      rw [if_pos ⟨rfl, rfl⟩] at h
      cases h
      exact wv_3 a d i
    rw [if_neg e3] at h
    by_cases e4 : c = "BadTold" ∧ g = "number"
    · obtain ⟨q1, q2⟩ := e4
      subst q1 q2
      rw [if_pos ⟨rfl, rfl⟩] at h
      cases h
      exact wv_4 a d i
    rw [if_neg e4] at h
    by_cases e5 : c = "BadStory" ∧ g = "number"
    · obtain ⟨q1, q2⟩ := e5
      subst q1 q2
      rw [if_pos ⟨rfl, rfl⟩] at h
      cases h
      exact wv_5 a d i
    rw [if_neg e5] at h
    by_cases e6 : c = "BadText" ∧ g = "row"
    · obtain ⟨q1, q2⟩ := e6
      subst q1 q2
      rw [if_pos ⟨rfl, rfl⟩] at h
      cases h
      exact wv_6 a d i
    rw [if_neg e6] at h
    cases h
def suiteOf (st : Stmt) : List Stmt := match defBody st with
  | .Try _ [.ExceptHandler _ _ b _] _ _ _ :: _ => b
  | _ => []
set_option maxHeartbeats 4000000 in
theorem word_gives {X : Cx} {g S : Addr} {cdg : Value} {q : Str} {cl : Str → Addr} {kn : List Str} (room : Room 1 X.A) (W : WordK X.K X.mg cl kn wns) (hS : X.mg "SeamError" = some (.ref S)) (b_isinstance : X.mg "isinstance" = none) (b_min : X.mg "min" = none) (b_ValueError : X.mg "ValueError" = none) :
    GivesN X N__law_word "_law_word" (defScope s__law_word) g cdg (defBody s__law_word) "_law_work" q (TTw X.K X.mg (dW kn)) := by
  intro f c' s H Q tl act hc h
  have nd := sc__law_word.nd
  obtain ⟨K, hK⟩ : ∃ K, K = X.K := ⟨_, rfl⟩
  have key : ∀ z : Addr × Value × Option Addr, ∃ t : TS, (∀ (oe : Obj) (pn : List (Addr × Obj)), L2N.Zn z.2.1 z.2.2 oe → (∃ vs, oe.data = .fields vs) →
      PSs ((cxOf C8.CX0 X.prog X.w X.K X.mg X.base N__law_word "_law_word" (defScope s__law_word) g cdg X.A X.stack s H C8.E0).nox.suite z.1 ((z.1, oe) :: pn)) (suiteOf s__law_word) t) ∧
      ∀ (x : Exn), X.mg x.c = some z.2.1 → x.c ∈ kn → XS K X.mg C8.E0 t (f_word z.1 z.2.2 x) := by
    rintro ⟨a, cls, d⟩
    show ∃ t : TS, (∀ (oe : Obj) (pn : List (Addr × Obj)), L2N.Zn cls d oe → (∃ vs, oe.data = .fields vs) → PSs ((cxOf C8.CX0 X.prog X.w X.K X.mg X.base N__law_word "_law_word" (defScope s__law_word) g cdg X.A X.stack s H C8.E0).nox.suite a ((a, oe) :: pn)) (suiteOf s__law_word) t) ∧ ∀ (x : Exn), X.mg x.c = some cls → x.c ∈ kn → XS K X.mg C8.E0 t (f_word a d x)
    have hr : RoomU ((X.A.deeper (envOfC "_law_word" (defScope s__law_word) s.heap.objs.size g cdg)).mark (some (.ref a))) := .of (room.deeper _) _
    subst hK
    exact ⟨_, fun oe pn hz hf => (pss_cons (ps_set (i := 2) nd rfl (by first | exact .inl rfl | exact .inr rfl) (pe_lst (pa_cons (pe_callB (kc_isX (K := X.K) (by rfl) hz.zc hf) (by rfl) b_isinstance (by decide +kernel) (pa_cons (pv 1) (pa_cons (pe_glob (v := .ref (cl "BadFlips")) (by rfl) (W.m "BadFlips" (by decide)) rfl) pa_nil))) (pa_cons (pe_callB (kc_isX (K := X.K) (by rfl) hz.zc hf) (by rfl) b_isinstance (by decide +kernel) (pa_cons (pv 1) (pa_cons (pe_glob (v := .ref (cl "BadLit")) (by rfl) (W.m "BadLit" (by decide)) rfl) pa_nil))) (pa_cons (pe_callB (kc_isX (K := X.K) (by rfl) hz.zc hf) (by rfl) b_isinstance (by decide +kernel) (pa_cons (pv 1) (pa_cons (pe_glob (v := .ref (cl "BadFaces")) (by rfl) (W.m "BadFaces" (by decide)) rfl) pa_nil))) (pa_cons (pe_callB (kc_isX (K := X.K) (by rfl) hz.zc hf) (by rfl) b_isinstance (by decide +kernel) (pa_cons (pv 1) (pa_cons (pe_glob (v := .ref (cl "BadCosts")) (by rfl) (W.m "BadCosts" (by decide)) rfl) pa_nil))) pa_nil))))))
    (pss_cons (ps_set (i := 2) nd rfl (by first | exact .inl rfl | exact .inr rfl) (pe_op op_cat (pv 2) (pe_lst (pa_cons (pe_callB (kc_isX (K := X.K) (by rfl) hz.zc hf) (by rfl) b_isinstance (by decide +kernel) (pa_cons (pv 1) (pa_cons (pe_glob (v := .ref (cl "BadTold")) (by rfl) (W.m "BadTold" (by decide)) rfl) pa_nil))) (pa_cons (pe_callB (kc_isX (K := X.K) (by rfl) hz.zc hf) (by rfl) b_isinstance (by decide +kernel) (pa_cons (pv 1) (pa_cons (pe_glob (v := .ref (cl "BadStory")) (by rfl) (W.m "BadStory" (by decide)) rfl) pa_nil))) (pa_cons (pe_callB (kc_isX (K := X.K) (by rfl) hz.zc hf) (by rfl) b_isinstance (by decide +kernel) (pa_cons (pv 1) (pa_cons (pe_glob (v := .ref (cl "BadText")) (by rfl) (W.m "BadText" (by decide)) rfl) pa_nil))) pa_nil))))))
    (pss_cons (ps_expr (pe_bmK (K := X.K) (by rfl) PySem.F.plainAttrs_list PySem.F.slot_list_append PySem.F.type_list_append mt_append (pv 2) (pa_cons (pe_callB (kc_isX (K := X.K) (by rfl) hz.zc hf) (by rfl) b_isinstance (by decide +kernel) (pa_cons (pv 1) (pa_cons (pe_glob (v := .ref (cl "BadBoard")) (by rfl) (W.m "BadBoard" (by decide)) rfl) pa_nil))) pa_nil)))
    (pss_cons (ps_set (i := 2) nd rfl (by first | exact .inl rfl | exact .inr rfl) (pe_op op_cat (pv 2) (pe_lst (pa_cons (pe_callB (kc_isX (K := X.K) (by rfl) hz.zc hf) (by rfl) b_isinstance (by decide +kernel) (pa_cons (pv 1) (pa_cons (pe_glob (v := .ref (cl "BadCount")) (by rfl) (W.m "BadCount" (by decide)) rfl) pa_nil))) (pa_cons (pe_callB (kc_isX (K := X.K) (by rfl) hz.zc hf) (by rfl) b_isinstance (by decide +kernel) (pa_cons (pv 1) (pa_cons (pe_glob (v := .ref (cl "Odd")) (by rfl) (W.m "Odd" (by decide)) rfl) pa_nil))) (pa_cons (pe_callB (kc_isX (K := X.K) (by rfl) hz.zc hf) (by rfl) b_isinstance (by decide +kernel) (pa_cons (pv 1) (pa_cons (pe_glob (v := .ref (cl "TooMany")) (by rfl) (W.m "TooMany" (by decide)) rfl) pa_nil))) (pa_cons (pe_callB (kc_isX (K := X.K) (by rfl) hz.zc hf) (by rfl) b_isinstance (by decide +kernel) (pa_cons (pv 1) (pa_cons (pe_glob (v := .ref (cl "BadName")) (by rfl) (W.m "BadName" (by decide)) rfl) pa_nil))) pa_nil)))))))
    (pss_cons (ps_expr (pe_bmK (K := X.K) (by rfl) PySem.F.plainAttrs_list PySem.F.slot_list_append PySem.F.type_list_append mt_append (pv 2) (pa_cons (pe_callB (kc_isX (K := X.K) (by rfl) hz.zc hf) (by rfl) b_isinstance (by decide +kernel) (pa_cons (pv 1) (pa_cons (pe_glob (v := .ref (cl "NoPoint")) (by rfl) (W.m "NoPoint" (by decide)) rfl) pa_nil))) pa_nil)))
    (pss_cons (ps_if (PW.pt (pw_or (pt_cmpR (op_neK (K := X.K) (by rfl) (by exact hr.units)) (pe_bmK (K := X.K) (by rfl) PySem.F.plainAttrs_list PySem.F.slot_list_count PySem.F.type_list_count mt_bcount (pv 2) (pa_cons pe_bl pa_nil)) pe_int (nomark _)) (pw_or1 (pt_not (pt_val (pe_callB (kc_isX (K := X.K) (by rfl) hz.zc hf) (by rfl) b_isinstance (by decide +kernel) (pa_cons (pv 1) (pa_cons (pe_bltn (v := .ty "ValueError") (by rfl) b_ValueError (by decide +kernel) rfl) pa_nil)))))))) (pss_one (ps_ret (pe_tup (pa_cons pe_str pa_nil)))) pss_nil)
    (pss_cons (ps_set (i := 3) nd rfl (by first | exact .inl rfl | exact .inr rfl) (pe_bmK (K := X.K) (by rfl) PySem.F.plainAttrs_list PySem.F.slot_list_index PySem.F.type_list_index (mt_indexD hr.units65) (pv 2) (pa_cons pe_bl pa_nil)))
    (pss_cons (ps_set (i := 4) nd rfl (by first | exact .inl rfl | exact .inr rfl) (pe_ix (ix_listK (K := X.K) (by rfl)) (pe_lst (pa_cons pe_str (pa_cons pe_str (pa_cons pe_str (pa_cons pe_str (pa_cons pe_str (pa_cons pe_str (pa_cons pe_str (pa_cons pe_str pa_nil))))))))) (pe_callB (call_min2H hz hf) (by rfl) b_min (by decide +kernel) (pa_cons (pv 3) (pa_cons pe_int pa_nil))) (fun _ _ => rfl)))
    (pss_cons (ps_if (pt_cmpR op_gt (pv 3) pe_int (nomark _)) (pss_one (ps_ret (pe_tup (pa_cons (pe_ix (ix_listK (K := X.K) (by rfl)) (pe_lst (pa_cons pe_str (pa_cons pe_str (pa_cons pe_str (pa_cons pe_str (pa_cons pe_str pa_nil)))))) (pe_op op_sub (pv 3) pe_int) (fun _ _ => rfl)) pa_nil)))) pss_nil)
    (pss_cons (ps_if (pt_cmpR (op_eqK (K := X.K) (by rfl) (by exact hr.units)) (pv 3) pe_int (nomark _)) (pss_one (ps_ret (pe_tup (pa_cons (pv 4) (pa_cons (pe_xfX (K := X.K) (by rfl) hz.zc hf (pv 1)) pa_nil))))) pss_nil)
    (pss_one (ps_ret (pe_ifExp (pt_cmpR op_lt (pv 3) pe_int (nomark _)) (pe_tup (pa_cons (pv 4) (pa_cons (pe_xfX (K := X.K) (by rfl) hz.zc hf (pv 1)) pa_nil))) (pe_ifExp (pt_cmpR op_lt (pv 3) pe_int (nomark _)) (pe_tup (pa_cons (pv 4) (pa_cons (pe_xfX (K := X.K) (by rfl) hz.zc hf (pv 1)) pa_nil))) (pe_tup (pa_cons (pv 4) pa_nil)))))))))))))))), fun x hc hk => (xs_seq (xs_own 2 (xn_lst (xa_cons (xe_isE W hc hk (by decide)) (xa_cons (xe_isE W hc hk (by decide)) (xa_cons (xe_isE W hc hk (by decide)) (xa_cons (xe_isE W hc hk (by decide)) xa_nil))))))
  (xs_seq (xs_fz 2 (xs_own 2 (xn_op rvn_cat (xe_var 2) (xe_n (xn_lst (xa_cons (xe_isE W hc hk (by decide)) (xa_cons (xe_isE W hc hk (by decide)) (xa_cons (xe_isE W hc hk (by decide)) xa_nil))))))))
  (xs_seq (xs_app (xe_isE W hc hk (by decide)))
  (xs_seq (xs_fz 2 (xs_own 2 (xn_op rvn_cat (xe_var 2) (xe_n (xn_lst (xa_cons (xe_isE W hc hk (by decide)) (xa_cons (xe_isE W hc hk (by decide)) (xa_cons (xe_isE W hc hk (by decide)) (xa_cons (xe_isE W hc hk (by decide)) xa_nil)))))))))
  (xs_seq (xs_app (xe_isE W hc hk (by decide)))
  (xs_seq (xs_fz 2 (xs_if (xt_or (xt_test (xe_op rvo_ne (xe_countB (xe_var 2) (xa_cons (xe_bl _) xa_nil)) (xe_int _))) (xt_not (xt_B (xe_isV W hc hk)))) (xs_ret (xe_tup (xa_cons (xe_str _) xa_nil))) xs_next))
  (xs_seq (xs_fz 2 (xs_asg (xe_indexL (xe_var 2) (xa_cons (xe_bl _) xa_nil)) (xg_name 3)))
  (xs_seq (xs_asg (xe_op rvo_ixL (xe_n (xn_lst (xa_cons (xe_str _) (xa_cons (xe_str _) (xa_cons (xe_str _) (xa_cons (xe_str _) (xa_cons (xe_str _) (xa_cons (xe_str _) (xa_cons (xe_str _) (xa_cons (xe_str _) xa_nil)))))))))) (xe_cb rco_min2 (xa_cons (xe_var 3) (xa_cons (xe_int _) xa_nil)))) (xg_name 4))
  (xs_seq (xs_if (xt_test (xe_op (rvo_B _) (xe_var 3) (xe_int _))) (xs_ret (xe_tup (xa_cons (xe_op rvo_ixL (xe_n (xn_lst (xa_cons (xe_str _) (xa_cons (xe_str _) (xa_cons (xe_str _) (xa_cons (xe_str _) (xa_cons (xe_str _) xa_nil))))))) (xe_op (rvo_I _) (xe_var 3) (xe_int _))) xa_nil))) xs_next)
  (xs_seq (xs_if (xt_test (xe_op rvo_eq (xe_var 3) (xe_int _))) (xs_ret (xe_tup (xa_cons (xe_var 4) (xa_cons (xe_exA W hc hk (by decide)) xa_nil)))) xs_next)
  (xs_ret (xe_if (xt_test (xe_op (rvo_B _) (xe_var 3) (xe_int _))) (xe_tup (xa_cons (xe_var 4) (xa_cons (xe_exA W hc hk (by decide)) xa_nil))) (xe_if (xt_test (xe_op (rvo_B _) (xe_var 3) (xe_int _))) (xe_tup (xa_cons (xe_var 4) (xa_cons (xe_exA W hc hk (by decide)) xa_nil))) (xe_tup (xa_cons (xe_var 4) xa_nil)))))))))))))))⟩
  subst hK
  obtain ⟨ts0, hts0⟩ := Classical.axiomOfChoice key
  obtain ⟨ts, hts⟩ : ∃ ts : Addr → Value → Option Addr → TS, ts = fun a cls d => ts0 (a, cls, d) := ⟨_, rfl⟩
  have hts' : ∀ (a : Addr) (oe : Obj) (cls : Value) (d : Option Addr) (pn : List (Addr × Obj)), L2N.Zn cls d oe → (∃ vs, oe.data = .fields vs) → PSs ((cxOf C8.CX0 X.prog X.w X.K X.mg X.base N__law_word "_law_word" (defScope s__law_word) g cdg X.A X.stack s H C8.E0).nox.suite a ((a, oe) :: pn)) (suiteOf s__law_word) (ts a cls d) := fun a oe cls d pn hz hf => by
    rw [hts]; exact (hts0 (a, cls, d)).1 oe pn hz hf
  have hx : ∀ (a : Addr) (cls : Value) (d : Option Addr) (x : Exn), X.mg x.c = some cls → x.c ∈ kn → XS X.K X.mg C8.E0 (ts a cls d) (f_word a d x) := fun a cls d x hc hk => by
    rw [hts]; exact (hts0 (a, cls, d)).2 x hc hk
  have nm : Names (cxOf C8.CX0 X.prog X.w X.K X.mg X.base N__law_word "_law_word" (defScope s__law_word) g cdg X.A X.stack s H C8.E0).nox "SeamError" (.ref S) := ⟨by rfl, by decide +kernel, .inl hS⟩
  refine ⟨_, pss_cons (L2N.ps_try_as (X := (cxOf C8.CX0 X.prog X.w X.K X.mg X.base N__law_word "_law_word" (defScope s__law_word) g cdg X.A X.stack s H C8.E0).nox) (i := 1) (n := "e") (c := .ref S) (ts := ts) (Wout := fun _ _ _ _ => False)
    (tb := fun Wx D σ H => ∃ Ech : XK, (∀ cls d σ' H', σ'.length = 5 → Ech cls d H' → Wx cls d σ' H') ∧ σ[0]? = some (some (.ref f)) ∧ H c' = some (CodeO c' q) ∧ tl Ech H (fun _ H' => D.nx σ H')) rfl rfl nd rfl rfl nm takes0N (fun Wx pn xe tk _ => ?_) hts') (pss_one (ps_ret pe_non)), ?_⟩
  · refine ⟨fun pins s' σ H' D I h' => ?_⟩
    obtain ⟨Ech, hW, h1, h2, h3⟩ := h'
    exact (pss_one (ps_expr (act _ pn xe Ech _ _ (takes_len tk) (fun cls d σ' H' e l => hW cls d σ' H' l e)))).run pins s' σ H' D I ⟨h1, h2, h3⟩
  · refine ⟨fun cls d H' => ∃ G x dd, Gr G H' ∧ ExOk X.mg x cls d H' ∧ dW kn x = some dd ∧ ∀ v G2 H2, Stp G H' G2 H2 → Dq X.K G2 v dd → Q v H2, fun cls d σ' H' hl ⟨G, x, dd, gr, ox, hw, hq⟩ => ?_, rfl, hc, h⟩
    unfold dW at hw
    split at hw
    · rename_i hk
      obtain ⟨S', e1, e2⟩ := W.x _ hk
      have : S' = S := by rw [hS] at e1; cases e1; rfl
      subst this
      have ec : cls = .ref (cl x.c) := by
        have := (W.m _ (W.s _ hk)).symm.trans ox.1
        exact (Option.some.inj this).symm
      refine ⟨true, by rw [ec]; exact e2, fun _ a _ => word_run (hx a cls d x ox.1 hk) (word_val a d hw) gr ox hl _ hq, fun z => nomatch z⟩
    · cases hw
end Sb

namespace Sb
open PySem PySem.Spec PyProof.Rows L2
open LamX
abbrev s__law_refuses : Stmt := topS 41
abbrev N__law_refuses : List Str := ["_law_row", "_law_watch", "_law_many", "_law_bad", "_law_words", "#"]
theorem sc__law_refuses : FnScope N__law_refuses ["_law_row", "_law_watch", "_law_many"] (defScope s__law_refuses) := ⟨rfl, rfl, rfl, by decide +kernel, rfl, by decide +kernel, by decide +kernel⟩
theorem bi__law_refuses : BindsAt "_law_refuses" s__law_refuses ["_law_row", "_law_watch", "_law_many"] := fun _ _ _ _ _ _ us hl => match us, hl with | [_, _, _], _ => rfl
abbrev q__law_refuses : Str := (envOfC "_law_refuses" (defScope s__law_refuses) 0 0 .none).qual ++ "<lambda>"
abbrev d__law_refuses_0 : Lm := (lamOf (atE (eArgs (atE (eArgs (sVal (atS (defBody s__law_refuses) 1))) 1)) 0))
set_option maxHeartbeats 4000000 in
theorem ok__law_refuses {P : Program} {w : World} {K : PySem.W.Frag} {mg : Str → Option Value} {base : Heap} {f c Pt : Addr} {oc kV dc pm ct : Value} {an od : Option Addr} {osl : Array (Option Value)} (l1 : K.lookup f = some ⟨oc, od, .func (PySem.W.fnOf "_law_refuses" "_law_refuses" (defArgs s__law_refuses) (defBody s__law_refuses) (defScope s__law_refuses) .none kV dc pm an (.ref c) ct), osl⟩) (hcd : PySem.W.codeIn K (.ref c) "_law_refuses" = true) (hk0 : PySem.W.keepIn K (.ref f) = true) (hm0 : mg "_law_refuses" = some (.ref f)) (TB : TabB base mg c Pt) {C : Addr} (T : WTxt K C)   (h__law_taken : Has P w K mg base "_law_taken" 1 ["_law_row", "_law_many"] (spW K mg F__law_taken)) (h_w_mark : HasM P w K mg base C "mark" 3 ["self", "name"] (spY K mg C false Y_mark)) (h_w_go : HasM P w K mg base C "go" 3 ["self", "name"] (spY K mg C false Y_go)) (h_w_beat : HasM P w K mg base C "beat" 4 ["self", "lit"] (spY K mg C false Y_beat)) {cl : Str → Addr} {S gW : Addr} {ocW kVW dcW pmW cdW ctW : Value} {odW anW : Option Addr} {oslW : Array (Option Value)} (W : WordK K mg cl kn wns) (hS : mg "SeamError" = some (.ref S)) (b_isinstance : mg "isinstance" = none) (b_min : mg "min" = none) (b_ValueError : mg "ValueError" = none) (hmW : mg "_law_word" = some (.ref gW)) (hkW : PySem.W.keepIn K (.ref gW) = true) (lkW : K.lookup gW = some ⟨ocW, odW, .func (PySem.W.fnOf "_law_word" "_law_word" (defArgs s__law_word) (defBody s__law_word) (defScope s__law_word) .none kVW dcW pmW anW cdW ctW), oslW⟩) (hcW : PySem.W.codeIn K cdW "_law_word" = true) (hx_require_lit : HasX P w K mg base "require_lit" 3 ["board", "lit"] (spF K mg X_require_lit)) (hx_w_beat : HasMX P w K mg base C "beat" 4 ["self", "lit"] (spY K mg C false X_w_beat)) (hx_w_mark : HasMX P w K mg base C "mark" 3 ["self", "name"] (spY K mg C false X_w_mark)) (hx_w_go : HasMX P w K mg base C "go" 3 ["self", "name"] (spY K mg C false X_w_go)) :
    Has P w K mg base "_law_refuses" 8 ["_law_row", "_law_watch", "_law_many"] (spWTW K C Pt q__law_refuses (F__law_refuses Pt q__law_refuses)) := by
  have nd := sc__law_refuses.nd
  have bw := (fun_mk (st := s__law_word) lkW hcW hkW).binds bi__law_word
  refine ⟨f, _, ?_, hm0, hk0, (fun_mk (st := s__law_refuses) l1 hcd hk0).binds bi__law_refuses⟩
  refine L2.fn_of l1 hcd sc__law_refuses (fun vs H Q E h => spWTW_len h) (fun A outer s H vs Q E hr h => ?_)
  refine ⟨_, (show PSs (cxOf CX0 P w K mg base N__law_refuses "_law_refuses" (defScope s__law_refuses) f (.ref c) A outer s H E).nox (defBody s__law_refuses) _ from pss_dummy (i := 5) (x := "#") rfl (show ¬ Vis (defScope s__law_refuses) "#" from by unfold Vis; decide +kernel) (pss_cons (ps_set (i := 3) nd rfl (by first | exact .inl rfl | exact .inr rfl) (pe_ix (ix_listK (K := K) (by rfl)) (pe_lst (pa_cons pe_str (pa_cons pe_str (pa_cons pe_str (pa_cons pe_str (pa_cons pe_int (pa_cons pe_non (pa_cons pe_bl (pa_cons (pe_tup (pa_cons pe_str pa_nil)) pa_nil))))))))) (ca h__law_taken (hr.mono (by decide)) (by rfl) (pa_cons (pv 0) (pa_cons pe_int pa_nil))) (fun _ _ => rfl)))
    (pss_cons (ps_set (i := 4) nd rfl (by first | exact .inl rfl | exact .inr rfl) (pe_lst (pa_cons (pe_lamW (k := 4) (by rfl) hmW hkW lkW hcW bw sc__law_word rfl (.inl rfl) (word_gives (hr.mono (by decide)) W hS b_isinstance b_min b_ValueError) TB rfl (hr.mono (by decide)) (lamS_by (by show lamSB (defScope s__law_refuses) _ = true; decide +kernel)) (by rfl) (fun _ _ _ _ _ => rfl) (fun A outer s H E f c' hr => (cmX hx_w_mark T.cl (hr.mono (by decide)) takesE (pv 1) (pa_cons (pv 3) pa_nil)))) (pa_cons (pe_lamD (k := 4) (TT := TTw K mg (dW kn)) (show LBody (cxOf CX0 P w K mg base N__law_refuses "_law_refuses" (defScope s__law_refuses) f (.ref c) A outer s H E).nox 4 d__law_refuses_0 _ from ⟨lamD_by (by show lamDB N__law_refuses (defScope s__law_refuses) _ = true; decide +kernel), (lmB1 (n := "_law_a") rfl rfl fun _ _ _ _ _ _ _ _ => ⟨_, rfl, rfl⟩), fun A outer s H E f c' hr => (cmX hx_w_go T.cl (hr.mono (by decide)) takesE (pv 1) (pa_cons (pv 3) pa_nil))⟩) TB rfl rfl (.inr ⟨rfl, _, rfl, pe_int⟩) (fun _ => rfl) (by rfl) hmW hkW lkW hcW bw sc__law_word rfl (.inl rfl) (fun base' => word_gives (show Room 1 _ from hr.mono (by decide)) W hS b_isinstance b_min b_ValueError) (hr.mono (by decide))) pa_nil))))
    (pss_cons (ps_expr (pe_bm PySem.F.plainAttrs_list PySem.F.slot_list_append PySem.F.type_list_append mt_append (pv 4) (pa_cons (pe_lamW (k := 4) (by rfl) hmW hkW lkW hcW bw sc__law_word rfl (.inl rfl) (word_gives (hr.mono (by decide)) W hS b_isinstance b_min b_ValueError) TB rfl (hr.mono (by decide)) (lamS_by (by show lamSB (defScope s__law_refuses) _ = true; decide +kernel)) (by rfl) (fun _ _ _ _ _ => rfl) (fun A outer s H E f c' hr => (cmX hx_w_beat T.cl hr takesE (pv 1) (pa_cons (pe_tup (pa_cons (pv 2) pa_nil)) pa_nil)))) pa_nil)))
    (pss_one (ps_ret (pe_cmpR (op_eqK (K := K) (by rfl) (by exact hr.units)) (pv 4) (pe_lst (pa_cons (pe_tup (pa_cons pe_str pa_nil)) (pa_cons (pe_tup (pa_cons pe_str pa_nil)) (pa_cons (pe_tup (pa_cons pe_str (pa_cons pe_int pa_nil))) pa_nil)))) (nomark _)))))))).nox, ?_⟩
  show tSeq _ _ _ _ _
  rw [tSeq_assoc]
  rw [tSeq_assoc]
  exact goWTW (N := N__law_refuses) (b := b__law_refuses) (a := a__law_refuses) T rfl (by decide) (by decide) ((xs_seq (xs_seq (xs_asg (xe_op rvo_ixL (xe_n (xn_lst (xa_cons (xe_str _) (xa_cons (xe_str _) (xa_cons (xe_str _) (xa_cons (xe_str _) (xa_cons (xe_int _) (xa_cons xe_non (xa_cons (xe_bl _) (xa_cons (xe_tup (xa_cons (xe_str _) xa_nil)) xa_nil)))))))))) (xe_callR (xa_cons (xe_int _) xa_nil))) (xg_name 3))
    (xs_ownLV (xva_cons (xv_wordY T (by decide +kernel) fun E => (xa_cons (xe_var 3) xa_nil)) (xva_cons (xv_wordYD T (by decide +kernel) fun E => (xa_cons (xe_var 3) xa_nil)) xva_nil))))
    (xs_appV (xv_wordY T (by decide +kernel) fun E => (xa_cons (xe_tup (xa_cons (xe_var 2) xa_nil)) xa_nil))))) ((xv_of (xe_look (xe_op rvo_eq (xe_var 4) (xe_n (xn_lst (xa_cons (xe_tup (xa_cons (xe_str _) xa_nil)) (xa_cons (xe_tup (xa_cons (xe_str _) xa_nil)) (xa_cons (xe_tup (xa_cons (xe_str _) (xa_cons (xe_int _) xa_nil))) xa_nil))))))))) h
abbrev s_law : Stmt := topS 42
abbrev N_law : List Str := ["_law_script", "_law_row", "_law_board_here", "_law_many", "_law_watch", "_law_other", "_law_beats", "_law_points", "_law_turn", "_law_way", "_law_lit", "_law_name", "_law_due", "_law_again", "_law_found", "_law_one", "#"]
theorem sc_law : FnScope N_law ["_law_script"] (defScope s_law) := ⟨rfl, rfl, rfl, by decide +kernel, rfl, by decide +kernel, by decide +kernel⟩
set_option maxHeartbeats 4000000 in
theorem ok_law {P : Program} {w : World} {K : PySem.W.Frag} {mg : Str → Option Value} {base : Heap} {f c Pt P1 : Addr} {oc kV dc pm ct : Value} {an od : Option Addr} {osl : Array (Option Value)} (l1 : K.lookup f = some ⟨oc, od, .func (PySem.W.fnOf "law" "law" (defArgs s_law) (defBody s_law) (defScope s_law) .none kV dc pm an (.ref c) ct), osl⟩) (hcd : PySem.W.codeIn K (.ref c) "law" = true) (TB : TabB base mg c Pt) (hPP : Pt ≠ P1) {C : Addr} (T : WTxt K C) (b_range : mg "range" = none) (b_len : mg "len" = none) (b_int : mg "int" = none) (b_list : mg "list" = none) (b_sorted : mg "sorted" = none)  (h__law_board : Has P w K mg base "_law_board" 2 ["_law_row", "_law_most"] (spW K mg F__law_board)) (h__law_alike : Has P w K mg base "_law_alike" 7 ["_law_one", "_law_due"] (spF K mg F__law_alike)) (h__law_taken : Has P w K mg base "_law_taken" 1 ["_law_row", "_law_many"] (spW K mg F__law_taken)) (h__law_some : Has P w K mg base "_law_some" 2 ["_law_row", "_law_many", "_law_most"] (spW K mg F__law_some)) (h__law_refuses : Has P w K mg base "_law_refuses" 8 ["_law_row", "_law_watch", "_law_many"] (spWTW K C P1 q__law_refuses (F__law_refuses P1 q__law_refuses))) (h_w___init__ : HasI P w K mg base C s_w___init__ 4 (spInit K C F_require_board F_require_count)) (h_w_told : HasM P w K mg base C "told" 1 ["self"] (spYL K C YL_told)) (h_w_marks : HasM P w K mg base C "marks" 1 ["self"] (spYL K C YL_marks)) (h_w_back : HasM P w K mg base C "back" 1 ["self"] (spY K mg C false Y_back)) (h_w_beat : HasM P w K mg base C "beat" 4 ["self", "lit"] (spY K mg C false Y_beat)) (h_w_mark : HasM P w K mg base C "mark" 3 ["self", "name"] (spY K mg C false Y_mark)) (h_w_go : HasM P w K mg base C "go" 3 ["self", "name"] (spY K mg C false Y_go)) {cl : Str → Addr} {S gW : Addr} {ocW kVW dcW pmW cdW ctW : Value} {odW anW : Option Addr} {oslW : Array (Option Value)} (W : WordK K mg cl kn wns) (hS : mg "SeamError" = some (.ref S)) (b_isinstance : mg "isinstance" = none) (b_min : mg "min" = none) (b_ValueError : mg "ValueError" = none) (hmW : mg "_law_word" = some (.ref gW)) (hkW : PySem.W.keepIn K (.ref gW) = true) (lkW : K.lookup gW = some ⟨ocW, odW, .func (PySem.W.fnOf "_law_word" "_law_word" (defArgs s__law_word) (defBody s__law_word) (defScope s__law_word) .none kVW dcW pmW anW cdW ctW), oslW⟩) (hcW : PySem.W.codeIn K cdW "_law_word" = true) (hx_require_lit : HasX P w K mg base "require_lit" 3 ["board", "lit"] (spF K mg X_require_lit)) (hx_w_beat : HasMX P w K mg base C "beat" 4 ["self", "lit"] (spY K mg C false X_w_beat)) (hx_w_mark : HasMX P w K mg base C "mark" 3 ["self", "name"] (spY K mg C false X_w_mark)) (hx_w_go : HasMX P w K mg base C "go" 3 ["self", "name"] (spY K mg C false X_w_go)) :
    FnOk P w K mg base CX0 12 f (PySem.W.fnOf "law" "law" (defArgs s_law) (defBody s_law) (defScope s_law) .none kV dc pm an (.ref c) ct) ["_law_script"] (spLawT2 K Pt P1) := by
  have nd := sc_law.nd
  have bw := (fun_mk (st := s__law_word) lkW hcW hkW).binds bi__law_word
  refine L2.fn_of l1 hcd sc_law (fun vs H Q E h => ?_) (fun A outer s H vs Q E hr h => ?_)
  · obtain ⟨a, ns, rfl, _⟩ := h
    rfl
  obtain ⟨a, ns, rfl, hS2, hlen, hP, hP1, q⟩ := h
  refine ⟨_, (show PSs (cxOf CX0 P w K mg base N_law "law" (defScope s_law) f (.ref c) A outer s H E).nox (defBody s_law) _ from pss_dummy (i := 16) (x := "#") rfl (show ¬ Vis (defScope s_law) "#" from by unfold Vis; decide +kernel) ((pss_cons (ps_set (i := 1) nd rfl (by first | exact .inl rfl | exact .inr rfl) (pe_lst (pa_cons (pv 0) (pa_cons pe_int (pa_cons pe_int (pa_cons pe_int pa_nil))))))
    (pss_cons (ps_set (i := 2) nd rfl (by first | exact .inl rfl | exact .inr rfl) (ca h__law_board (hr.mono (by decide)) (by rfl) (pa_cons (pv 1) (pa_cons pe_int pa_nil))))
    (pss_cons (ps_set (i := 3) nd rfl (by first | exact .inl rfl | exact .inr rfl) (pe_op op_mul (pe_ix (ix_tupK (K := K) (by rfl)) (pv 2) pe_int (fun _ _ => rfl)) (pe_ix (ix_tupK (K := K) (by rfl)) (pv 2) pe_int (fun _ _ => rfl))))
    (pss_cons (ps_asg (pe_tup (pa_cons (cmkD h_w___init__ (hr.mono (by decide)) kcd_w___init__ (by rfl) (pa_cons (pv 2) pa_nil)) (pa_cons (cmkD h_w___init__ (hr.mono (by decide)) kcd_w___init__ (by rfl) (pa_cons (pv 2) pa_nil)) (pa_cons (pe_tup pa_nil) (pa_cons pe_dnewK pa_nil))))) (pg_tup (by rfl) (pgs_cons (pg_name (i := 4) nd rfl (by first | exact .inl rfl | exact .inr rfl)) (pgs_cons (pg_name (i := 5) nd rfl (by first | exact .inl rfl | exact .inr rfl)) (pgs_cons (pg_name (i := 6) nd rfl (by first | exact .inl rfl | exact .inr rfl)) (pgs_cons (pg_name (i := 7) nd rfl (by first | exact .inl rfl | exact .inr rfl)) pgs_nil))))))
    (pss_cons (ps_for PassesOwn.never rfl (pi_range1 (by rfl) b_range (pa_cons (ca h__law_taken (hr.mono (by decide)) (by rfl) (pa_cons (pv 1) (pa_cons (pe_ix (ix_listK (K := K) (by rfl)) (pe_lst (pa_cons pe_int (pa_cons pe_int pa_nil))) (ca h__law_taken (hr.mono (by decide)) (by rfl) (pa_cons (pv 1) (pa_cons pe_int pa_nil))) (fun _ _ => rfl)) pa_nil))) pa_nil)) (pg_name (i := 8) nd rfl (by first | exact .inl rfl | exact .inr rfl)) (pss_cons (ps_asg (pe_tup (pa_cons (ca h__law_taken (hr.mono (by decide)) (by rfl) (pa_cons (pv 1) (pa_cons pe_int pa_nil))) (pa_cons (ca h__law_some (hr.mono (by decide)) (by rfl) (pa_cons (pv 1) (pa_cons (pv 3) (pa_cons pe_int pa_nil)))) pa_nil))) (pg_tup (by rfl) (pgs_cons (pg_name (i := 9) nd rfl (by first | exact .inl rfl | exact .inr rfl)) (pgs_cons (pg_name (i := 10) nd rfl (by first | exact .inl rfl | exact .inr rfl)) pgs_nil))))
    (pss_cons (ps_set (i := 11) nd rfl (by first | exact .inl rfl | exact .inr rfl) (pe_ix (ix_listK (K := K) (by rfl)) (pe_lst (pa_cons pe_str (pa_cons pe_str (pa_cons pe_str (pa_cons pe_str pa_nil))))) (ca h__law_taken (hr.mono (by decide)) (by rfl) (pa_cons (pv 1) (pa_cons pe_int pa_nil))) (fun _ _ => rfl)))
    (pss_cons (ps_if (pt_cmpR op_lt (pv 9) pe_int (nomark _)) (pss_cons (ps_set (i := 12) nd rfl (by first | exact .inl rfl | exact .inr rfl) (pe_ifExp (pt_cmpR (op_eqK (K := K) (by rfl) (by exact hr.units)) (pe_callB (kc_len (K := K) (by rfl)) (by rfl) b_len (by decide +kernel) (pa_cons (pv 6) pa_nil)) pe_int (nomark _)) (pe_tup (pa_cons pe_str pa_nil)) pe_non))
    (pss_cons (ps_if (pt_cmpR (op_neK (K := K) (by rfl) (by exact hr.units)) (pe_lamW (k := 4) (by rfl) hmW hkW lkW hcW bw sc__law_word rfl (.inl rfl) (word_gives (hr.mono (by decide)) W hS b_isinstance b_min b_ValueError) TB rfl (hr.mono (by decide)) (lamS_by (by show lamSB (defScope s_law) _ = true; decide +kernel)) (by rfl) (fun _ _ _ _ _ => rfl) (fun A outer s H E f c' hr => (cmX hx_w_beat T.cl hr takesE (pv 4) (pa_cons (pv 10) pa_nil)))) (pv 12) (nomark _)) (pss_one (ps_ret pe_bl)) pss_nil)
    (pss_cons (ps_set (i := 6) nd rfl (by first | exact .inl rfl | exact .inr rfl) (pe_op (op_catAK (K := K) (by rfl)) (pv 6) (pe_op op_repT1 (pe_tup (pa_cons (pv 10) pa_nil)) (pe_callTy call_int1 (by rfl) b_int (by decide +kernel) (pa_cons (pe_cmpR op_isN (pv 12) pe_non (nomark _)) pa_nil)))))
    (pss_one (ps_if (PW.pt (pw_and (pt_cmpR op_isN (pv 12) pe_non (nomark _)) (pw_and (pt_val (cm0 h_w_back T.cl (hr.mono (by decide)) (pv 4))) (pw_and1 (pt_cmpR (op_neK (K := K) (by rfl) (by exact hr.units)) (cm h_w_beat T.cl (hr.mono (by decide)) (pv 4) (pa_cons (pv 10) pa_nil)) (pe_callB (kc_len (K := K) (by rfl)) (by rfl) b_len (by decide +kernel) (pa_cons (pv 6) pa_nil)) (nomark _)))))) (pss_one (ps_ret pe_bl)) pss_nil))))) (pss_one (ps_if (pt_cmpR (op_eqK (K := K) (by rfl) (by exact hr.units)) (pv 9) pe_int (nomark _)) (pss_cons (ps_if (pt_cmpR (op_neK (K := K) (by rfl) (by exact hr.units)) (cm0 h_w_back T.cl (hr.mono (by decide)) (pv 4)) (pe_cmpR (op_neK (K := K) (by rfl) (by exact hr.units)) (pv 6) (pe_tup pa_nil) (nomark _)) (nomark _)) (pss_one (ps_ret pe_bl)) pss_nil)
    (pss_one (ps_set (i := 6) nd rfl (by first | exact .inl rfl | exact .inr rfl) (pe_slice (sl_tupAK (K := K) (by rfl)) (pv 6) po_none (po_some (pe_un un_neg pe_int)))))) (pss_one (ps_if (pt_cmpR (op_eqK (K := K) (by rfl) (by exact hr.units)) (pv 9) pe_int (nomark _)) (pss_cons (ps_expr (cm h_w_mark T.cl (hr.mono (by decide)) (pv 4) (pa_cons (pv 11) pa_nil)))
    (pss_one (ps_dput hr.units1 (pv 7) (pv 11) (pv 6) rfl))) (pss_one (ps_if (pt_cmpR (op_eqK (K := K) (by rfl) (by exact hr.units)) (pv 9) pe_int (nomark _)) (pss_cons (ps_if (pt_cmpR (op_neK (K := K) (by rfl) (by exact hr.units)) (pe_lamW (k := 4) (by rfl) hmW hkW lkW hcW bw sc__law_word rfl (.inl rfl) (word_gives (hr.mono (by decide)) W hS b_isinstance b_min b_ValueError) TB rfl (hr.mono (by decide)) (lamS_by (by show lamSB (defScope s_law) _ = true; decide +kernel)) (by rfl) (fun _ _ _ _ _ => rfl) (fun A outer s H E f c' hr => (cmX hx_w_go T.cl (hr.mono (by decide)) takesE (pv 4) (pa_cons (pv 11) pa_nil)))) (pe_ifExp (pt_cmp (pc_din hr.units1 (pv 11) (pv 7))) pe_non (pe_tup (pa_cons pe_str pa_nil))) (nomark _)) (pss_one (ps_ret pe_bl)) pss_nil)
    (pss_one (ps_set (i := 6) nd rfl (by first | exact .inl rfl | exact .inr rfl) (pe_dget2 hr.units1 (pv 7) (pv 11) (pv 6) ⟨rfl, rfl, rfl, rfl⟩)))) (pss_one (ps_if (pt_not (pt_val (ca h__law_refuses (hr.mono (by decide)) (by rfl) (pa_cons (pv 1) (pa_cons (pv 4) (pa_cons (pv 3) pa_nil)))))) (pss_one (ps_ret pe_bl)) pss_nil)))))))))
    (pss_one (ps_for PassesOwn.never rfl (pi_range1 (by rfl) b_range (pa_cons pe_int pa_nil)) (pg_name (i := 13) nd rfl (by first | exact .inl rfl | exact .inr rfl)) (pss_cons (ps_set (i := 14) nd rfl (by first | exact .inl rfl | exact .inr rfl) (pe_lst (pa_cons (cm0 h_w_told T.cl (hr.mono (by decide)) (pv 4)) (pa_cons (cm0 h_w_marks T.cl (hr.mono (by decide)) (pv 4)) pa_nil))))
    (pss_cons (ps_if (pt_not (pt_val (ca h__law_alike (hr.mono (by decide)) (by rfl) (pa_cons (pv 14) (pa_cons (pe_lst (pa_cons (pe_callTy (kc_list (K := K) (by rfl)) (by rfl) b_list (by decide +kernel) (pa_cons (pv 6) pa_nil)) (pa_cons (pe_lc (own := [("_law_one", 15)]) (g := gName 15) (tt := tYes) (by rfl) nd (pi_listK (K := K) (by rfl) (pe_callB (kc_sortDS (by rfl)) (by rfl) b_sorted (by decide +kernel) (pa_cons (pv 7) pa_nil))) (blkOk_by (own := [("_law_one", 15)]) (N := N_law) (sc := defScope s_law) (by decide +kernel)) (fun _ _ _ _ _ => (pg_name (i := 15) nd rfl (by first | exact .inl rfl | exact .inr rfl))) (fun _ _ _ _ _ => pts_nil) (fun _ _ _ _ _ => (pe_tup (pa_cons (pv 15) (pa_cons (pe_callB (kc_len (K := K) (by rfl)) (by rfl) b_len (by decide +kernel) (pa_cons (pe_dget hr.units1 (pv 7) (pv 15) (fun _ _ => rfl)) pa_nil)) pa_nil))))) pa_nil))) pa_nil))))) (pss_one (ps_ret pe_bl)) pss_nil)
    (pss_cons (ps_expr (pe_bm PySem.F.plainAttrs_list PySem.F.slot_list_append PySem.F.type_list_append mt_append (pe_ix (ix_listK (K := K) (by rfl)) (pv 14) pe_int (fun _ _ => rfl)) (pa_cons pe_int pa_nil)))
    (pss_one (ps_expr (pe_bm PySem.F.plainAttrs_list PySem.F.slot_list_append PySem.F.type_list_append mt_append (pe_ix (ix_listK (K := K) (by rfl)) (pv 14) pe_int (fun _ _ => rfl)) (pa_cons pe_int pa_nil)))))))))))))
    (pss_one (ps_ret (ca h__law_alike (hr.mono (by decide)) (by rfl) (pa_cons (pe_lst (pa_cons (cm0 h_w_told T.cl (hr.mono (by decide)) (pv 5)) (pa_cons (cm0 h_w_marks T.cl (hr.mono (by decide)) (pv 5)) (pa_cons (cm0 h_w_back T.cl (hr.mono (by decide)) (pv 5)) pa_nil)))) (pa_cons (pe_lst (pa_cons (pe_lst pa_nil) (pa_cons (pe_lst pa_nil) (pa_cons pe_bl pa_nil)))) pa_nil)))))))))))).nox, ?_⟩
  obtain ⟨ρ', hl⟩ := law_true ns hlen Pt ((envOfC "law" (defScope s_law) s.heap.objs.size f (.ref c)).qual ++ "<lambda>") (fun _ _ _ _ => .own 0) (fun _ => false) P1 q__law_refuses
  exact law_goT2 (K := K) (mg := mg) (n := 14) hS2 hP hP1 hPP q ((xs_seq (xs_asg (xe_callR (xa_cons (xe_int _) xa_nil)) (xg_name 2))
  (xs_seq (xs_asg (xe_op rvo_mul (xe_op rvo_ixT (xe_var 2) (xe_int _)) (xe_op rvo_ixT (xe_var 2) (xe_int _))) (xg_name 3))
  (xs_seq (xs_tup4 (xo_watch (mg := mg) T (xe_var 2)) (xo_watch (mg := mg) T (xe_var 2)) (xe_tup xa_nil) xo_newM)
  (xs_seq (xs_for (xi_rng1 (xa_cons (xe_callR (xa_cons (xe_op rvo_ixL (xe_n (xn_lst (xa_cons (xe_int _) (xa_cons (xe_int _) xa_nil)))) (xe_callR (xa_cons (xe_int _) xa_nil))) xa_nil)) xa_nil)) (xg_name 8) (xs_seq (xs_asg (xe_tup (xa_cons (xe_callR (xa_cons (xe_int _) xa_nil)) (xa_cons (xe_callR (xa_cons (xe_var 3) (xa_cons (xe_int _) xa_nil))) xa_nil))) (xg_tup (K := K) (n := 2) (xgs_cons (xg_name 9) (xgs_cons (xg_name 10) xgs_nil))))
  (xs_seq (xs_asg (xe_op rvo_ixL (xe_n (xn_lst (xa_cons (xe_str _) (xa_cons (xe_str _) (xa_cons (xe_str _) (xa_cons (xe_str _) xa_nil)))))) (xe_callR (xa_cons (xe_int _) xa_nil))) (xg_name 11))
  (xs_seq (xs_if (xt_test (xe_op (rvo_B _) (xe_var 9) (xe_int _))) (xs_seq (xs_asg (xe_if (xt_test (xe_op rvo_eq (xe_cb rco_len (xa_cons (xe_var 6) xa_nil)) (xe_int _))) (xe_tup (xa_cons (xe_str _) xa_nil)) xe_non) (xg_name 12))
  (xs_seq (xs_ifV (xvt_test (xv_op rvo_ne (xv_wordY T (by decide +kernel) fun E => (xa_cons (xe_var 10) xa_nil)) (xv_of (xe_var 12)))) (xs_ret (xe_bl _)) xs_next)
  (xs_seq (xs_asg (xe_op rvo_catT (xe_var 6) (xe_op rvo_repT (xe_tup (xa_cons (xe_var 10) xa_nil)) (xe_cb rco_int (xa_cons (xe_op rvo_isN (xe_var 12) xe_non) xa_nil)))) (xg_name 6))
  (xs_ifV (xvt_and (xv_of (xt_test (xe_op rvo_isN (xe_var 12) xe_non))) (xvt_and (xvt_B (xv_meth T (by decide +kernel) xa_nil)) (xvt_test (xv_op rvo_ne (xv_meth T (by decide +kernel) (xa_cons (xe_var 10) xa_nil)) (xv_of (xe_cb rco_len (xa_cons (xe_var 6) xa_nil))))))) (xs_ret (xe_bl _)) xs_next)))) (xs_if (xt_test (xe_op rvo_eq (xe_var 9) (xe_int _))) (xs_seq (xs_ifV (xvt_test (xv_op rvo_ne (xv_meth T (by decide +kernel) xa_nil) (xv_of (xe_op rvo_ne (xe_var 6) (xe_tup xa_nil))))) (xs_ret (xe_bl _)) xs_next)
  (xs_asg (xe_slT (xe_var 6) xo_no (xo_so (xe_un ruo_neg (xe_int _)))) (xg_name 6))) (xs_if (xt_test (xe_op rvo_eq (xe_var 9) (xe_int _))) (xs_seq (xs_dropV (xv_meth T (by decide +kernel) (xa_cons (xe_var 11) xa_nil)))
  (xs_dputO (xe_var 11) (xe_var 6))) (xs_if (xt_test (xe_op rvo_eq (xe_var 9) (xe_int _))) (xs_seq (xs_ifV (xvt_test (xv_op rvo_ne (xv_wordY T (by decide +kernel) fun E => (xa_cons (xe_var 11) xa_nil)) (xv_of (xe_if (xt_B (xe_dinO (xe_var 11))) xe_non (xe_tup (xa_cons (xe_str _) xa_nil)))))) (xs_ret (xe_bl _)) xs_next)
  (xs_asg (xe_dget2O (xe_var 11) (xe_var 6)) (xg_name 6))) (xs_ifV (xvt_not (xvt_B (xv_callRTW T (xa_cons (xe_var 3) xa_nil)))) (xs_ret (xe_bl _)) xs_next)))))
  (xs_for (xi_rng1 (xa_cons (xe_int _) xa_nil)) (xg_name 13) (xs_seq (xs_litLL 14 (xn_methL T keeps_runYL (by decide +kernel) xa_nil) (xn_methL T keeps_runYL (by decide +kernel) xa_nil))
  (xs_seq (xs_if (xt_look2 (xt_not (xt_B (xe_call (xa_cons (xe_var 14) (xa_cons (xe_n (xn_lst (xa_cons (xe_n (xn_cb rcn_listOf (xa_cons (xe_var 6) xa_nil))) (xa_cons (xe_n (xn_lc (xi_list (xe_n xn_dsort)) (xg_name 15) (by decide) xt_yes (xe_tup (xa_cons (xe_var 15) (xa_cons (xe_cb rco_len (xa_cons (xe_dgetS (xe_var 15)) xa_nil)) xa_nil))))) xa_nil)))) xa_nil)))))) (xs_ret (xe_bl _)) xs_next)
  (xs_seq (xs_appLL (xe_int _) (xe_int _))
  (xs_appLL (xe_int _) (xe_int _))))))))))
  (xs_retV (xv_call (xva_cons (xv_lst (xva_cons (xv_of (xe_n (xn_methL T keeps_runYL (by decide +kernel) xa_nil))) (xva_cons (xv_of (xe_n (xn_methL T keeps_runYL (by decide +kernel) xa_nil))) (xva_cons (xv_meth T (by decide +kernel) xa_nil) xva_nil)))) (xva_cons (xv_of (xe_n (xn_lst (xa_cons (xe_n (xn_lst xa_nil)) (xa_cons (xe_n (xn_lst xa_nil)) (xa_cons (xe_bl _) xa_nil)))))) xva_nil))))))))) hl
set_option maxHeartbeats 4000000 in
theorem all_mk {l : PySem.W.OpenLaw} {w : World} {K : PySem.W.Frag} {h : Heap} {mg : Str → Option Value} {fa : Addr} {C : Addr} {q_MOST_LETTERS : Tok} {q_LETTERS : Tok} {q_MOST_BEATS : Tok} {q_LEAST_SIDE : Tok} {q_MOST_SIDE : Tok} {q_LEAST_COUNT : Tok} {q_MOST_COUNT : Tok} {fL cw Pw CS gW : Addr} {ocL kVL dcL pmL ctL oc2 ocW kVW dcW pmW cdW ctW : Value} {anL odL od2 odW anW : Option Addr} {oslL sl2 oslW : Array (Option Value)} {vsT : Array Value} {C_BadFlips : Addr} {C_BadLit : Addr} {C_BadFaces : Addr} {C_BadCosts : Addr} {C_BadTold : Addr} {C_BadStory : Addr} {C_BadText : Addr} {C_BadBoard : Addr} {C_BadCount : Addr} {C_Odd : Addr} {C_TooMany : Addr} {C_BadName : Addr} {C_NoPoint : Addr} {fT cT PT : Addr} {ocT kVT dcT pmT ctT oc3 : Value} {anT odT od3 : Option Addr} {oslT sl3 : Array (Option Value)} {vs3 : Array Value} {fe_BadLit Ne_BadLit : Addr} {oce_BadLit kVe_BadLit dce_BadLit pme_BadLit cde_BadLit cte_BadLit : Value} {ane_BadLit ode_BadLit : Option Addr} {osle_BadLit : Array (Option Value)} {nme_BadLit qe_BadLit : Str} {bse_BadLit bme_BadLit sube_BadLit : List Value} {sne_BadLit : List Str} {abe_BadLit : Bool} {cole_BadLit : Option Bool} {dde_BadLit : Option Addr} {k0e_BadLit k1e_BadLit k2e_BadLit k3e_BadLit k5e_BadLit : Option Value} (X : K.In h) (G : h.Ns mainGlobals mg) (hfa : mg "law" = some (.ref fa)) (tab : ∀ c P, PySem.W.tabIn K "law" = some (c, P) ∨ PySem.W.tabIn K "_law_refuses" = some (c, P) → PySem.W.CodeHd h c P ∧ h.get? P = some { cls := .none, data := .fields #[] })
    (T : WTxt K C) (t__law_taken : TextFn K "_law_taken" s__law_taken) (t__law_board : TextFn K "_law_board" s__law_board) (t__law_alike : TextFn K "_law_alike" s__law_alike) (t__law_some : TextFn K "_law_some" s__law_some) (t_is_name : TextFn K "is_name" s_is_name) (t_w_mark : TextM K C "mark" "Watch.mark" s_w_mark) (t_w_go : TextM K C "go" "Watch.go" s_w_go) (t_is_whole : TextFn K "is_whole" s_is_whole) (t_first_misplaced : TextFn K "first_misplaced" s_first_misplaced) (t_site_count : TextFn K "site_count" s_site_count) (t_require_lit : TextFn K "require_lit" s_require_lit) (t_w_beat : TextM K C "beat" "Watch.beat" s_w_beat) (t_is_side : TextFn K "is_side" s_is_side) (t_require_board : TextFn K "require_board" s_require_board) (t_require_count : TextFn K "require_count" s_require_count) (t_w___init__ : TextI K C s_w___init__) (t_w_told : TextM K C "told" "Watch.told" s_w_told) (t_w_marks : TextM K C "marks" "Watch.marks" s_w_marks) (t_w_back : TextM K C "back" "Watch.back" s_w_back) (z_len : PySem.W.nsIn K mainGlobals "len" = some none) (z_isinstance : PySem.W.nsIn K mainGlobals "isinstance" = some none) (z_tuple : PySem.W.nsIn K mainGlobals "tuple" = some none) (z_list : PySem.W.nsIn K mainGlobals "list" = some none) (z_range : PySem.W.nsIn K mainGlobals "range" = some none) (z_bool : PySem.W.nsIn K mainGlobals "bool" = some none) (z_min : PySem.W.nsIn K mainGlobals "min" = some none) (z_int : PySem.W.nsIn K mainGlobals "int" = some none) (z_sorted : PySem.W.nsIn K mainGlobals "sorted" = some none) (z_str : PySem.W.nsIn K mainGlobals "str" = some none) (z_all : PySem.W.nsIn K mainGlobals "all" = some none) (z_enumerate : PySem.W.nsIn K mainGlobals "enumerate" = some none) (z_MOST_LETTERS : PySem.W.nsIn K mainGlobals "MOST_LETTERS" = some (some (.int 8 q_MOST_LETTERS))) (z_LETTERS : PySem.W.nsIn K mainGlobals "LETTERS" = some (some (.str "abcdefghijklmnopqrstuvwxyz" q_LETTERS))) (z_MOST_BEATS : PySem.W.nsIn K mainGlobals "MOST_BEATS" = some (some (.int 5 q_MOST_BEATS))) (z_LEAST_SIDE : PySem.W.nsIn K mainGlobals "LEAST_SIDE" = some (some (.int 2 q_LEAST_SIDE))) (z_MOST_SIDE : PySem.W.nsIn K mainGlobals "MOST_SIDE" = some (some (.int 5 q_MOST_SIDE))) (z_LEAST_COUNT : PySem.W.nsIn K mainGlobals "LEAST_COUNT" = some (some (.int 1 q_LEAST_COUNT))) (z_MOST_COUNT : PySem.W.nsIn K mainGlobals "MOST_COUNT" = some (some (.int 9 q_MOST_COUNT)))
    (aL : PySem.W.nsIn K mainGlobals "law" = some (some (.ref fL))) (lL : K.lookup fL = some ⟨ocL, odL, .func (PySem.W.fnOf "law" "law" (defArgs s_law) (defBody s_law) (defScope s_law) .none kVL dcL pmL anL (.ref cw) ctL), oslL⟩) (cL : PySem.W.codeIn K (.ref cw) "law" = true) (l2 : K.lookup cw = some ⟨oc2, od2, .fields vsT, sl2⟩) (p2 : vsT[11]? = some (.ref Pw)) (nP : K.lookup Pw = none) (aW : PySem.W.nsIn K mainGlobals "_law_word" = some (some (.ref gW))) (kW : PySem.W.keepIn K (.ref gW) = true) (lW : K.lookup gW = some ⟨ocW, odW, .func (PySem.W.fnOf "_law_word" "_law_word" (defArgs s__law_word) (defBody s__law_word) (defScope s__law_word) .none kVW dcW pmW anW cdW ctW), oslW⟩) (cW : PySem.W.codeIn K cdW "_law_word" = true) (zS : PySem.W.nsIn K mainGlobals "SeamError" = some (some (.ref CS))) (iS1 : PySem.W.specialIn K (.ref CS) "__getattribute__" = some (some (.builtin "type.__getattribute__"))) (iS2 : PySem.W.readsIn K CS (.type "type") = true) (iS3 : PySem.W.findCls K (.ref CS) (.type "type") "__init__" = some (.val (.builtin "ValueError.__init__"))) (z_ValueError : PySem.W.nsIn K mainGlobals "ValueError" = some none) (zc_BadFlips : PySem.W.nsIn K mainGlobals "BadFlips" = some (some (.ref C_BadFlips))) (zc_BadLit : PySem.W.nsIn K mainGlobals "BadLit" = some (some (.ref C_BadLit))) (zc_BadFaces : PySem.W.nsIn K mainGlobals "BadFaces" = some (some (.ref C_BadFaces))) (zc_BadCosts : PySem.W.nsIn K mainGlobals "BadCosts" = some (some (.ref C_BadCosts))) (zc_BadTold : PySem.W.nsIn K mainGlobals "BadTold" = some (some (.ref C_BadTold))) (zc_BadStory : PySem.W.nsIn K mainGlobals "BadStory" = some (some (.ref C_BadStory))) (zc_BadText : PySem.W.nsIn K mainGlobals "BadText" = some (some (.ref C_BadText))) (zc_BadBoard : PySem.W.nsIn K mainGlobals "BadBoard" = some (some (.ref C_BadBoard))) (zc_BadCount : PySem.W.nsIn K mainGlobals "BadCount" = some (some (.ref C_BadCount))) (zc_Odd : PySem.W.nsIn K mainGlobals "Odd" = some (some (.ref C_Odd))) (zc_TooMany : PySem.W.nsIn K mainGlobals "TooMany" = some (some (.ref C_TooMany))) (zc_BadName : PySem.W.nsIn K mainGlobals "BadName" = some (some (.ref C_BadName))) (zc_NoPoint : PySem.W.nsIn K mainGlobals "NoPoint" = some (some (.ref C_NoPoint))) (aT : PySem.W.nsIn K mainGlobals "_law_refuses" = some (some (.ref fT))) (kT : PySem.W.keepIn K (.ref fT) = true) (lT : K.lookup fT = some ⟨ocT, odT, .func (PySem.W.fnOf "_law_refuses" "_law_refuses" (defArgs s__law_refuses) (defBody s__law_refuses) (defScope s__law_refuses) .none kVT dcT pmT anT (.ref cT) ctT), oslT⟩) (cdT : PySem.W.codeIn K (.ref cT) "_law_refuses" = true) (l3 : K.lookup cT = some ⟨oc3, od3, .fields vs3, sl3⟩) (p3 : vs3[11]? = some (.ref PT)) (nP3 : K.lookup PT = none) (nPP : Pw ≠ PT) (kn_BadLit : knB K wns "BadLit" = true) (kn_TooMany : knB K wns "TooMany" = true) (kn_BadName : knB K wns "BadName" = true) (kn_NoPoint : knB K wns "NoPoint" = true) (o_BadLit : K.lookup C_BadLit = some (PySem.excClassObj nme_BadLit qe_BadLit C_BadLit Ne_BadLit bse_BadLit bme_BadLit true sne_BadLit sube_BadLit abe_BadLit cole_BadLit dde_BadLit k0e_BadLit k1e_BadLit k2e_BadLit k3e_BadLit k5e_BadLit "ValueError.__new__")) (ob_BadLit : PySem.HandSPX.refsVE bme_BadLit = true) (os_BadLit : PySem.W.findIn K (.ref C_BadLit) "__setattr__" = some (some (.builtin "object.__setattr__"))) (of_BadLit : PySem.W.findIn K (.ref C_BadLit) "place" = some none) (oi_BadLit : PySem.W.findIn K (.ref C_BadLit) "__init__" = some (some (.ref fe_BadLit))) (oj_BadLit : PySem.W.typeIn K (.ref fe_BadLit) = some (.type "function")) (ol_BadLit : K.lookup fe_BadLit = some ⟨oce_BadLit, ode_BadLit, .func (PySem.W.fnOf "__init__" "BadLit.__init__" (defArgs s_e_BadLit) (defBody s_e_BadLit) (defScope s_e_BadLit) .none kVe_BadLit dce_BadLit pme_BadLit ane_BadLit cde_BadLit cte_BadLit), osle_BadLit⟩) (oc_BadLit : PySem.W.codeIn K cde_BadLit "BadLit.__init__" = true) (ok_BadLit : PySem.W.keepIn K (.ref fe_BadLit) = true) (oq_TooMany : PySem.W.excIn K C_TooMany [.type "ValueError", .type "Exception", .type "BaseException", .type "object"] "ValueError.__new__" = true) (oq_BadName : PySem.W.excIn K C_BadName [.type "ValueError", .type "Exception", .type "BaseException", .type "object"] "ValueError.__new__" = true) (oq_NoPoint : PySem.W.excIn K C_NoPoint [.type "ValueError", .type "Exception", .type "BaseException", .type "object"] "ValueError.__new__" = true) (ex_BadLit : PySem.W.subIn K (.ref C_BadLit) (.type "BaseException") = some true) (et_BadLit : PySem.W.typeIn K (.ref C_BadLit) = some (.type "type")) (ek_BadLit : PySem.W.keepIn K (.ref C_BadLit) = true) (ex_TooMany : PySem.W.subIn K (.ref C_TooMany) (.type "BaseException") = some true) (et_TooMany : PySem.W.typeIn K (.ref C_TooMany) = some (.type "type")) (ek_TooMany : PySem.W.keepIn K (.ref C_TooMany) = true) (ex_BadName : PySem.W.subIn K (.ref C_BadName) (.type "BaseException") = some true) (et_BadName : PySem.W.typeIn K (.ref C_BadName) = some (.type "type")) (ek_BadName : PySem.W.keepIn K (.ref C_BadName) = true) (ex_NoPoint : PySem.W.subIn K (.ref C_NoPoint) (.type "BaseException") = some true) (et_NoPoint : PySem.W.typeIn K (.ref C_NoPoint) = some (.type "type")) (ek_NoPoint : PySem.W.keepIn K (.ref C_NoPoint) = true) :
    LawAtS l w K CX0 12 63 "_law_script" mg fa h := by
  have b_len : mg "len" = none := PySem.W.mg_none_of X G z_len
  have b_isinstance : mg "isinstance" = none := PySem.W.mg_none_of X G z_isinstance
  have b_tuple : mg "tuple" = none := PySem.W.mg_none_of X G z_tuple
  have b_list : mg "list" = none := PySem.W.mg_none_of X G z_list
  have b_range : mg "range" = none := PySem.W.mg_none_of X G z_range
  have b_bool : mg "bool" = none := PySem.W.mg_none_of X G z_bool
  have b_min : mg "min" = none := PySem.W.mg_none_of X G z_min
  have b_int : mg "int" = none := PySem.W.mg_none_of X G z_int
  have b_sorted : mg "sorted" = none := PySem.W.mg_none_of X G z_sorted
  have b_str : mg "str" = none := PySem.W.mg_none_of X G z_str
  have b_all : mg "all" = none := PySem.W.mg_none_of X G z_all
  have b_enumerate : mg "enumerate" = none := PySem.W.mg_none_of X G z_enumerate
  have m_MOST_LETTERS := PySem.W.mg_of X G z_MOST_LETTERS
  have m_LETTERS := PySem.W.mg_of X G z_LETTERS
  have m_MOST_BEATS := PySem.W.mg_of X G z_MOST_BEATS
  have m_LEAST_SIDE := PySem.W.mg_of X G z_LEAST_SIDE
  have m_MOST_SIDE := PySem.W.mg_of X G z_MOST_SIDE
  have m_LEAST_COUNT := PySem.W.mg_of X G z_LEAST_COUNT
  have m_MOST_COUNT := PySem.W.mg_of X G z_MOST_COUNT
  have b_ValueError : mg "ValueError" = none := PySem.W.mg_none_of X G z_ValueError
  have e := hfa.symm.trans (PySem.W.mg_of X G aL)
  cases e
  obtain ⟨tb1, tb2⟩ := tab cw Pw (.inl (tabIn_mk aL lL l2 p2))
  obtain ⟨tb3, tb4⟩ := tab cT PT (.inr (tabIn_mkN aT lT l3 p3))
  have clq : ∀ (n : Str) (C : Addr), PySem.W.nsIn K mainGlobals n = some (some (.ref C)) → clK K n = C := fun n C h => by unfold clK; rw [h]
  have mS := PySem.W.mg_of X G zS
  have cS : InitC K CS := ⟨iS1, iS2, iS3⟩
  have WK : WordK K mg (clK K) kn wns := by
    refine wordK_of X G (fun n hn => ?_) (by rw [clq _ _ zS]; exact zS) (fun n hn => ?_)
    · simp only [wns, List.mem_cons, List.not_mem_nil, or_false] at hn
      rcases hn with rfl | rfl | rfl | rfl | rfl | rfl | rfl | rfl | rfl | rfl | rfl | rfl | rfl
      · rw [clq _ _ zc_BadFlips]; exact zc_BadFlips
      · rw [clq _ _ zc_BadLit]; exact zc_BadLit
      · rw [clq _ _ zc_BadFaces]; exact zc_BadFaces
      · rw [clq _ _ zc_BadCosts]; exact zc_BadCosts
      · rw [clq _ _ zc_BadTold]; exact zc_BadTold
      · rw [clq _ _ zc_BadStory]; exact zc_BadStory
      · rw [clq _ _ zc_BadText]; exact zc_BadText
      · rw [clq _ _ zc_BadBoard]; exact zc_BadBoard
      · rw [clq _ _ zc_BadCount]; exact zc_BadCount
      · rw [clq _ _ zc_Odd]; exact zc_Odd
      · rw [clq _ _ zc_TooMany]; exact zc_TooMany
      · rw [clq _ _ zc_BadName]; exact zc_BadName
      · rw [clq _ _ zc_NoPoint]; exact zc_NoPoint
    · simp only [kn, List.mem_cons, List.not_mem_nil, or_false] at hn
      rcases hn with rfl | rfl | rfl | rfl
      · exact kn_BadLit
      · exact kn_TooMany
      · exact kn_BadName
      · exact kn_NoPoint
  refine ⟨PySem.W.fnOf "law" "law" (defArgs s_law) (defBody s_law) (defScope s_law) .none kVL dcL pmL anL (.ref cw) ctL, [(cw, Pw), (cT, PT)], spLawT2 K Pw PT, fun p hp => ?_, fun p hp => ?_, fun p hp => ?_, fun s v => .of_eq rfl, fun H a ns hl _ hT hS => ⟨a, ns, rfl, hS, hl, hT _ List.mem_cons_self, hT _ (List.mem_cons_of_mem _ List.mem_cons_self), fun _ => rfl⟩, fun base _ _ hTB => ?_⟩
  · rcases List.mem_cons.mp hp with z | z
    · rw [z]; exact tb2
    · rw [List.mem_singleton.mp z]; exact tb4
  · rcases List.mem_cons.mp hp with z | z
    · rw [z]; exact nP
    · rw [List.mem_singleton.mp z]; exact nP3
  · rcases List.mem_cons.mp hp with z | z
    · rw [z]; exact tb1
    · rw [List.mem_singleton.mp z]; exact tb3
  have TB : TabB base mg cw Pw := hTB _ List.mem_cons_self
  have TB3 : TabB base mg cT PT := hTB _ (List.mem_cons_of_mem _ List.mem_cons_self)
  have h__law_taken := ok__law_taken (P := l.prog) (w := w) (base := base) (A := t__law_taken.at_ X G) (b_len := b_len)
  have h__law_board := ok__law_board (P := l.prog) (w := w) (base := base) (A := t__law_board.at_ X G) (h__law_taken := h__law_taken)
  have h__law_alike := ok__law_alike (P := l.prog) (w := w) (base := base) (A := t__law_alike.at_ X G) (b_isinstance := b_isinstance) (b_tuple := b_tuple) (b_list := b_list) (b_len := b_len) (b_range := b_range) (b_bool := b_bool)
  have h__law_some := ok__law_some (P := l.prog) (w := w) (base := base) (A := t__law_some.at_ X G) (b_range := b_range) (b_min := b_min) (b_int := b_int) (b_tuple := b_tuple) (b_sorted := b_sorted) (h__law_taken := h__law_taken)
  have h_is_name := ok_is_name (P := l.prog) (w := w) (base := base) (A := t_is_name.at_ X G) (b_isinstance := b_isinstance) (b_str := b_str) (b_len := b_len) (b_all := b_all) (m_MOST_LETTERS := m_MOST_LETTERS) (m_LETTERS := m_LETTERS)
  have h_w_mark : HasM l.prog w K mg base C "mark" 3 ["self", "name"] (spY K mg C false Y_mark) := by
    obtain ⟨f, fd, hF, hM⟩ := t_w_mark.at_
    exact ⟨f, fd, ok_w_mark (P := l.prog) (w := w) (base := base) hF T (h_is_name := h_is_name), hM, hF.binds bi_w_mark⟩
  have h_w_go : HasM l.prog w K mg base C "go" 3 ["self", "name"] (spY K mg C false Y_go) := by
    obtain ⟨f, fd, hF, hM⟩ := t_w_go.at_
    exact ⟨f, fd, ok_w_go (P := l.prog) (w := w) (base := base) hF T (b_isinstance := b_isinstance) (b_str := b_str), hM, hF.binds bi_w_go⟩
  have h_is_whole := ok_is_whole (P := l.prog) (w := w) (base := base) (A := t_is_whole.at_ X G) (b_isinstance := b_isinstance) (b_int := b_int) (b_bool := b_bool)
  have h_first_misplaced := ok_first_misplaced (P := l.prog) (w := w) (base := base) (A := t_first_misplaced.at_ X G) (b_isinstance := b_isinstance) (b_tuple := b_tuple) (b_enumerate := b_enumerate) (h_is_whole := h_is_whole)
  have h_site_count := ok_site_count (P := l.prog) (w := w) (base := base) (A := t_site_count.at_ X G) 
  have h_require_lit := ok_require_lit (P := l.prog) (w := w) (base := base) (A := t_require_lit.at_ X G) (h_first_misplaced := h_first_misplaced) (h_site_count := h_site_count)
  have h_w_beat : HasM l.prog w K mg base C "beat" 4 ["self", "lit"] (spY K mg C false Y_beat) := by
    obtain ⟨f, fd, hF, hM⟩ := t_w_beat.at_
    exact ⟨f, fd, ok_w_beat (P := l.prog) (w := w) (base := base) hF T (b_len := b_len) (m_MOST_BEATS := m_MOST_BEATS) (h_require_lit := h_require_lit), hM, hF.binds bi_w_beat⟩
  have h_is_side := ok_is_side (P := l.prog) (w := w) (base := base) (A := t_is_side.at_ X G) (m_LEAST_SIDE := m_LEAST_SIDE) (m_MOST_SIDE := m_MOST_SIDE) (h_is_whole := h_is_whole)
  have h_require_board := ok_require_board (P := l.prog) (w := w) (base := base) (A := t_require_board.at_ X G) (b_isinstance := b_isinstance) (b_tuple := b_tuple) (b_len := b_len) (h_is_side := h_is_side)
  have h_require_count := ok_require_count (P := l.prog) (w := w) (base := base) (A := t_require_count.at_ X G) (m_LEAST_COUNT := m_LEAST_COUNT) (m_MOST_COUNT := m_MOST_COUNT) (h_is_whole := h_is_whole)
  have h_w___init__ : HasI l.prog w K mg base C s_w___init__ 4 (spInit K C F_require_board F_require_count) := by
    obtain ⟨f, fd, hD, hF, hM⟩ := t_w___init__.at_
    exact ⟨f, fd, ok_w___init__ (P := l.prog) (w := w) (base := base) hF T (h_require_board := h_require_board) (h_require_count := h_require_count), hM, PySem.W.mg_of X G T.at_, hD⟩
  have h_w_told : HasM l.prog w K mg base C "told" 1 ["self"] (spYL K C YL_told) := by
    obtain ⟨f, fd, hF, hM⟩ := t_w_told.at_
    exact ⟨f, fd, ok_w_told (P := l.prog) (w := w) (base := base) hF T (b_list := b_list), hM, hF.binds bi_w_told⟩
  have h_w_marks : HasM l.prog w K mg base C "marks" 1 ["self"] (spYL K C YL_marks) := by
    obtain ⟨f, fd, hF, hM⟩ := t_w_marks.at_
    exact ⟨f, fd, ok_w_marks (P := l.prog) (w := w) (base := base) hF T (b_len := b_len) (b_sorted := b_sorted), hM, hF.binds bi_w_marks⟩
  have h_w_back : HasM l.prog w K mg base C "back" 1 ["self"] (spY K mg C false Y_back) := by
    obtain ⟨f, fd, hF, hM⟩ := t_w_back.at_
    exact ⟨f, fd, ok_w_back (P := l.prog) (w := w) (base := base) hF T , hM, hF.binds bi_w_back⟩
  have he_BadLit : HasE l.prog w K mg base "BadLit" "place" C_BadLit 1 := ⟨PySem.W.mg_of X G zc_BadLit, of_BadLit, ⟨⟨_, _, _, _, _, _, _, _, _, _, _, _, _, _, _, o_BadLit, ob_BadLit⟩, os_BadLit, ex_BadLit, et_BadLit, ek_BadLit⟩, fe_BadLit, _, _, oi_BadLit, oj_BadLit, ok_e_BadLit (P := l.prog) (w := w) (base := base) (fun_mk (st := s_e_BadLit) ol_BadLit oc_BadLit ok_BadLit) mS cS, (fun_mk (st := s_e_BadLit) ol_BadLit oc_BadLit ok_BadLit).binds bi_e_BadLit⟩
  have eo_TooMany : ErrO K mg "TooMany" C_TooMany := ⟨PySem.W.mg_of X G zc_TooMany, oq_TooMany, ek_TooMany, ex_TooMany, et_TooMany⟩
  have eo_BadName : ErrO K mg "BadName" C_BadName := ⟨PySem.W.mg_of X G zc_BadName, oq_BadName, ek_BadName, ex_BadName, et_BadName⟩
  have eo_NoPoint : ErrO K mg "NoPoint" C_NoPoint := ⟨PySem.W.mg_of X G zc_NoPoint, oq_NoPoint, ek_NoPoint, ex_NoPoint, et_NoPoint⟩
  have hx_require_lit := okx_require_lit (P := l.prog) (w := w) (base := base) (A := t_require_lit.at_ X G) (h_first_misplaced := h_first_misplaced) (h_site_count := h_site_count) (h_BadLit := he_BadLit)
  have hx_w_beat : HasMX l.prog w K mg base C "beat" 4 ["self", "lit"] (spY K mg C false X_w_beat) := by
    obtain ⟨f, fd, hF, hM⟩ := t_w_beat.at_
    exact ⟨f, fd, okx_w_beat (P := l.prog) (w := w) (base := base) hF T (b_len := b_len) (m_MOST_BEATS := m_MOST_BEATS) (h_require_lit := h_require_lit) (o_TooMany := eo_TooMany) (hx_require_lit := hx_require_lit), hM, hF.binds bi_w_beat⟩
  have hx_w_mark : HasMX l.prog w K mg base C "mark" 3 ["self", "name"] (spY K mg C false X_w_mark) := by
    obtain ⟨f, fd, hF, hM⟩ := t_w_mark.at_
    exact ⟨f, fd, okx_w_mark (P := l.prog) (w := w) (base := base) hF T (h_is_name := h_is_name) (o_BadName := eo_BadName), hM, hF.binds bi_w_mark⟩
  have hx_w_go : HasMX l.prog w K mg base C "go" 3 ["self", "name"] (spY K mg C false X_w_go) := by
    obtain ⟨f, fd, hF, hM⟩ := t_w_go.at_
    exact ⟨f, fd, okx_w_go (P := l.prog) (w := w) (base := base) hF T (b_isinstance := b_isinstance) (b_str := b_str) (o_NoPoint := eo_NoPoint), hM, hF.binds bi_w_go⟩
  have h__law_refuses := ok__law_refuses (P := l.prog) (w := w) (base := base) (l1 := lT) (hcd := cdT) (hk0 := kT) (hm0 := PySem.W.mg_of X G aT) (TB := TB3) (T := T) (h__law_taken := h__law_taken) (h_w_mark := h_w_mark) (h_w_go := h_w_go) (h_w_beat := h_w_beat) (W := WK) (hS := mS) (b_isinstance := b_isinstance) (b_min := b_min) (b_ValueError := b_ValueError) (hmW := PySem.W.mg_of X G aW) (hkW := kW) (lkW := lW) (hcW := cW) (hx_require_lit := hx_require_lit) (hx_w_beat := hx_w_beat) (hx_w_mark := hx_w_mark) (hx_w_go := hx_w_go)
  exact ok_law (l1 := lL) (hcd := cL) (TB := TB) (hPP := nPP) (b_range := b_range) (b_len := b_len) (b_int := b_int) (b_list := b_list) (b_sorted := b_sorted) (T := T) (h__law_board := h__law_board) (h__law_alike := h__law_alike) (h__law_taken := h__law_taken) (h__law_some := h__law_some) (h__law_refuses := h__law_refuses) (h_w___init__ := h_w___init__) (h_w_told := h_w_told) (h_w_marks := h_w_marks) (h_w_back := h_w_back) (h_w_beat := h_w_beat) (h_w_mark := h_w_mark) (h_w_go := h_w_go) (W := WK) (hS := mS) (b_isinstance := b_isinstance) (b_min := b_min) (b_ValueError := b_ValueError) (hmW := PySem.W.mg_of X G aW) (hkW := kW) (lkW := lW) (hcW := cW) (hx_require_lit := hx_require_lit) (hx_w_beat := hx_w_beat) (hx_w_mark := hx_w_mark) (hx_w_go := hx_w_go)
end Sb
open PySem PySem.W PyProof.Rows
local macro_rules | `(tactic| walk_at "tf") => `(tactic| (refine' Sb.textFn_mk ?a ?l ?c ?k; (case a => k_is); (case l => k_is); (case c => k_is); (case k => k_is)))
local macro_rules | `(tactic| walk_at "wt") => `(tactic| (refine' Sb.wtxt_mk ?a ?p1 ?p2 ?p3 ?p4 ?n1 ?n2 ?n3 ?n4 ?n5; (case a => k_is); (case p1 => k_is); (case p2 => k_is); (case p3 => k_is); (case p4 => k_is); (case n1 => k_is); (case n2 => k_is); (case n3 => k_is); (case n4 => k_is); (case n5 => k_is)))
local macro_rules | `(tactic| walk_at "tm") => `(tactic| (refine' Sb.textM_mk ?a ?i ?l ?c ?k; (case a => k_is); (case i => k_is); (case l => k_is); (case c => k_is); (case k => k_is)))
local macro_rules | `(tactic| walk_at "ti") => `(tactic| (refine' Sb.textI_mk ?mk ?a ?i ?kc ?l ?c ?k ?d ?e; (case mk => k_is); (case a => k_is); (case i => k_is); (case kc => k_is); (case l => k_is); (case c => k_is); (case k => k_is); (case d => k_is); (case e => k_is)))
set_option maxRecDepth 100000 in
set_option maxHeartbeats 0 in
theorem PySem.Challenge.cw_seamboard_k12_watched_beat_by_beat_holds : PySem.Challenge.rw_seamboard_k12_watched_beat_by_beat.Holds := by
  w_on; o_law; k_head; (case hw => w_witness2)
  k_fill
  refine Sb.walk_T2s (x1 := "_law_refuses") (l := PySem.Challenge.rw_seamboard_k12_watched_beat_by_beat) (n := 63) (k := 12) (x := "_law_script") (CX := fun _ => L2.CX0) rfl (by decide) rfl ⟨rfl, by decide, by decide⟩ (by kernel_rfl) (by kernel_rfl) (fun w h Y => PySem.W.km_in_of Y) ?F (fun _ _ _ _ _ h => h)
  case F =>
    intro w mg fa h _ KX G hmg tab
    refine' Sb.all_mk KX G hmg tab ?T ?t__law_taken ?t__law_board ?t__law_alike ?t__law_some ?t_is_name ?t_w_mark ?t_w_go ?t_is_whole ?t_first_misplaced ?t_site_count ?t_require_lit ?t_w_beat ?t_is_side ?t_require_board ?t_require_count ?t_w___init__ ?t_w_told ?t_w_marks ?t_w_back ?z_len ?z_isinstance ?z_tuple ?z_list ?z_range ?z_bool ?z_min ?z_int ?z_sorted ?z_str ?z_all ?z_enumerate ?z_MOST_LETTERS ?z_LETTERS ?z_MOST_BEATS ?z_LEAST_SIDE ?z_MOST_SIDE ?z_LEAST_COUNT ?z_MOST_COUNT ?aL ?lL ?cL ?l2 ?p2 ?nP ?aW ?kW ?lW ?cW ?zS ?iS1 ?iS2 ?iS3 ?z_ValueError ?zc_BadFlips ?zc_BadLit ?zc_BadFaces ?zc_BadCosts ?zc_BadTold ?zc_BadStory ?zc_BadText ?zc_BadBoard ?zc_BadCount ?zc_Odd ?zc_TooMany ?zc_BadName ?zc_NoPoint ?aT ?kT ?lT ?cdT ?l3 ?p3 ?nP3 ?nPP ?kn_BadLit ?kn_TooMany ?kn_BadName ?kn_NoPoint ?o_BadLit ?ob_BadLit ?os_BadLit ?of_BadLit ?oi_BadLit ?oj_BadLit ?ol_BadLit ?oc_BadLit ?ok_BadLit ?oq_TooMany ?oq_BadName ?oq_NoPoint ?ex_BadLit ?et_BadLit ?ek_BadLit ?ex_TooMany ?et_TooMany ?ek_TooMany ?ex_BadName ?et_BadName ?ek_BadName ?ex_NoPoint ?et_NoPoint ?ek_NoPoint
    (case T => walk_at "wt")
    (case t__law_taken => walk_at "tf")
    (case t__law_board => walk_at "tf")
    (case t__law_alike => walk_at "tf")
    (case t__law_some => walk_at "tf")
    (case t_is_name => walk_at "tf")
    (case t_w_mark => walk_at "tm")
    (case t_w_go => walk_at "tm")
    (case t_is_whole => walk_at "tf")
    (case t_first_misplaced => walk_at "tf")
    (case t_site_count => walk_at "tf")
    (case t_require_lit => walk_at "tf")
    (case t_w_beat => walk_at "tm")
    (case t_is_side => walk_at "tf")
    (case t_require_board => walk_at "tf")
    (case t_require_count => walk_at "tf")
    (case t_w___init__ => walk_at "ti")
    (case t_w_told => walk_at "tm")
    (case t_w_marks => walk_at "tm")
    (case t_w_back => walk_at "tm")
    (case z_len => k_is)
    (case z_isinstance => k_is)
    (case z_tuple => k_is)
    (case z_list => k_is)
    (case z_range => k_is)
    (case z_bool => k_is)
    (case z_min => k_is)
    (case z_int => k_is)
    (case z_sorted => k_is)
    (case z_str => k_is)
    (case z_all => k_is)
    (case z_enumerate => k_is)
    (case z_MOST_LETTERS => k_is)
    (case z_LETTERS => k_is)
    (case z_MOST_BEATS => k_is)
    (case z_LEAST_SIDE => k_is)
    (case z_MOST_SIDE => k_is)
    (case z_LEAST_COUNT => k_is)
    (case z_MOST_COUNT => k_is)
    (case aL => k_is)
    (case lL => k_is)
    (case cL => k_is)
    (case l2 => k_is)
    (case p2 => exact rfl)
    (case nP => kernel_rfl)
    (case aW => k_is)
    (case kW => k_is)
    (case lW => k_is)
    (case cW => k_is)
    (case zS => k_is)
    (case iS1 => k_is)
    (case iS2 => k_is)
    (case iS3 => k_is)
    (case z_ValueError => k_is)
    (case zc_BadFlips => k_is)
    (case zc_BadLit => k_is)
    (case zc_BadFaces => k_is)
    (case zc_BadCosts => k_is)
    (case zc_BadTold => k_is)
    (case zc_BadStory => k_is)
    (case zc_BadText => k_is)
    (case zc_BadBoard => k_is)
    (case zc_BadCount => k_is)
    (case zc_Odd => k_is)
    (case zc_TooMany => k_is)
    (case zc_BadName => k_is)
    (case zc_NoPoint => k_is)
    (case aT => k_is)
    (case kT => k_is)
    (case lT => k_is)
    (case cdT => k_is)
    (case l3 => k_is)
    (case p3 => exact rfl)
    (case nP3 => kernel_rfl)
    (case nPP => decide)
    (case kn_BadLit => kernel_rfl)
    (case kn_TooMany => kernel_rfl)
    (case kn_BadName => kernel_rfl)
    (case kn_NoPoint => kernel_rfl)
    (case o_BadLit => k_is)
    (case ob_BadLit => exact rfl)
    (case os_BadLit => k_is)
    (case of_BadLit => k_is)
    (case oi_BadLit => k_is)
    (case oj_BadLit => k_is)
    (case ol_BadLit => k_is)
    (case oc_BadLit => k_is)
    (case ok_BadLit => k_is)
    (case oq_TooMany => kernel_rfl)
    (case oq_BadName => kernel_rfl)
    (case oq_NoPoint => kernel_rfl)
    (case ex_BadLit => k_is)
    (case et_BadLit => k_is)
    (case ek_BadLit => k_is)
    (case ex_TooMany => k_is)
    (case et_TooMany => k_is)
    (case ek_TooMany => k_is)
    (case ex_BadName => k_is)
    (case et_BadName => k_is)
    (case ek_BadName => k_is)
    (case ex_NoPoint => k_is)
    (case et_NoPoint => k_is)
    (case ek_NoPoint => k_is)
