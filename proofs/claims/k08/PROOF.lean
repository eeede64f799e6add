import PyProof.Rows.All
import Wide.All
import OpenK.AllK
import Wide.FinOn
import HandS.ForMost
import HandS.Evl
import HandS.Style
import HandS.IsInst
import HandS.SetFor
import HandS.Star
import HandS.SortInts
import HandS.TupAny
import HandS.Conv
import KE.GoesEnum
import HandS.Defaults
import HandS.MakeKwOnly
import KE.GoesZip
import KE.GoesMore
import HandS.Zip
import HandS.Text
import PySem.Challenge.RW_seamboard_k08_stories_judged
set_option Elab.async false
set_option linter.all false
set_option maxRecDepth 100000
/-! Seamboard, layer 1: what a reading gives, told by data (PyData) alone. -/
namespace Sb
open PySem PySem.Spec PyProof.Rows L2

abbrev Dt := PyData
/-- nothing is lost -/
def Gr (H H' : Hp) : Prop := ∀ a o, H a = some o → H' a = some o
theorem Gr.refl (H : Hp) : Gr H H := fun _ _ h => h
theorem Gr.trans {H H1 H2 : Hp} (a : Gr H H1) (b : Gr H1 H2) : Gr H H2 := fun x o h => b x o (a x o h)
theorem Gr.back {H H' : Hp} {p : Addr} (e : Gr H H') (h : H' p = none) : H p = none := by
  cases q : H p with
  | none => rfl
  | some o => rw [e p o q] at h; cases h
theorem Gr.new {H : Hp} {p : Addr} {o : HO} (h : H p = none) : Gr H (upd H p o) := fun a u e => by
  rw [upd_ne (ne_of_none e h)]; exact e
theorem Gr.both {G H : Hp} {p : Addr} {o : HO} (e : Gr G H) : Gr (upd G p o) (upd H p o) := fun a u h => by
  by_cases q : a = p
  · subst q; rw [upd_same] at h ⊢; exact h
  · rw [upd_ne q] at h ⊢; exact e a u h
theorem gr_l {K : PySem.W.Frag} {H H' : Hp} {a : Addr} {xs : List V} (e : Gr H H') (h : SqL K H a xs) : SqL K H' a xs := by
  rcases h with (h | ⟨o, h⟩) | h
  · exact .inl (.inl (e _ _ h))
  · exact .inl (.inr ⟨o, e _ _ h⟩)
  · exact .inr h
theorem gr_t {K : PySem.W.Frag} {H H' : Hp} {a : Addr} {xs : List V} (e : Gr H H') (h : SqT K H a xs) : SqT K H' a xs := by
  rcases h with (h | ⟨o, h⟩) | h
  · exact .inl (.inl (e _ _ h))
  · exact .inl (.inr ⟨o, e _ _ h⟩)
  · exact .inr h
mutual
theorem dp_up {K : PySem.W.Frag} {H H' : Hp} (e : Gr H H') : ∀ (d : Dt) (v : V), Dp K H v d → Dp K H' v d
  | .none, _, h => by cases h; exact .non
  | .bool b, _, h => by cases h; exact .bl b
  | .int i, _, h => by cases h; exact .int i
  | .str x, _, h => by cases h; exact .str x
  | .list ds, _, h => by cases h with | lst a b => exact .lst (gr_l e a) (dps_up e ds _ b)
  | .tuple ds, _, h => by cases h with | tup a b => exact .tup (gr_t e a) (dps_up e ds _ b)
  | .dict _, _, h => by cases h
theorem dps_up {K : PySem.W.Frag} {H H' : Hp} (e : Gr H H') : ∀ (ds : List Dt) (vs : List V), DpAll K H vs ds → DpAll K H' vs ds
  | [], _, h => by cases h; exact .nil
  | d :: ds, _, h => by cases h with | cons a b => exact .cons (dp_up e d _ a) (dps_up e ds _ b)
end
section
variable {K : PySem.W.Frag} {H H' : Hp} {v : V} {vs : List V} {d : Dt} {ds : List Dt}
theorem Dpu (h : Dp K H v d) (e : Gr H H') : Dp K H' v d := dp_up e d v h
theorem Dpsu (h : DpAll K H vs ds) (e : Gr H H') : DpAll K H' vs ds := dps_up e ds vs h
theorem dps_len : ∀ {vs : List V} {ds : List Dt}, DpAll K H vs ds → vs.length = ds.length
  | _, _, .nil => rfl
  | _, _, .cons _ h => by rw [List.length_cons, List.length_cons, dps_len h]
theorem dps_get : ∀ {vs : List V} {ds : List Dt} {i : Nat} {d : Dt}, DpAll K H vs ds → ds[i]? = some d → ∃ v, vs[i]? = some v ∧ Dp K H v d
  | _, _, _, _, .nil, e => by simp at e
  | _, _, 0, _, .cons a _, e => by simp at e; subst e; exact ⟨_, rfl, a⟩
  | _, _, i + 1, d, .cons _ h, e => by
    obtain ⟨v, h1, h2⟩ := dps_get (i := i) (d := d) h (by simpa using e)
    exact ⟨v, by simpa using h1, h2⟩
theorem dps_get' {vs : List V} {ds : List Dt} {i : Nat} {v : V} (h : DpAll K H vs ds) (e : vs[i]? = some v) : ∃ d, ds[i]? = some d ∧ Dp K H v d := by
  have hi := (List.getElem?_eq_some_iff.mp e).1
  rw [dps_len h] at hi
  obtain ⟨w, h1, h2⟩ := dps_get h (List.getElem?_eq_getElem hi)
  rw [e] at h1; cases h1
  exact ⟨_, List.getElem?_eq_getElem hi, h2⟩
theorem dps_app : ∀ {vs ws : List V} {ds es : List Dt}, DpAll K H vs ds → DpAll K H ws es → DpAll K H (vs ++ ws) (ds ++ es)
  | _, _, _, _, .nil, s => s
  | _, _, _, _, .cons a t, s => .cons a (dps_app t s)
theorem dps_one (h : Dp K H v d) : DpAll K H [v] [d] := .cons h .nil
theorem dps_ints : ∀ (ns : List Int), DpAll K H (ns.map V.int) (ns.map PyData.int)
  | [] => .nil
  | n :: ns => .cons (.int n) (dps_ints ns)
theorem ints_of : ∀ {ns : List Int} {vs : List V}, DpAll K H vs (ns.map PyData.int) → vs = ns.map V.int
  | [], _, h => by cases h; rfl
  | n :: ns, _, h => by
    rw [List.map_cons] at h
    cases h with
    | cons a b => cases a; rw [ints_of b, List.map_cons]
end

/-- a step that changes nothing that was there; G: what stands for good, H: all -/
structure Stp (G H G2 H2 : Hp) : Prop where
  g : Gr G G2
  s : Gr G2 H2
  h : Gr H H2
  f : ∀ a, H a ≠ none → G a = none → G2 a = none
section
variable {G H G1 H1 G2 H2 : Hp} {p : Addr} {o : HO}
theorem Stp.refl (s : Gr G H) : Stp G H G H := ⟨.refl _, s, .refl _, fun _ _ h => h⟩
theorem Stp.trans (a : Stp G H G1 H1) (b : Stp G1 H1 G2 H2) : Stp G H G2 H2 :=
  ⟨a.g.trans b.g, b.s, a.h.trans b.h, fun x h1 h2 => b.f x (fun q => by
    cases e : H x with
    | none => exact h1 e
    | some o => rw [a.h x o e] at q; cases q) (a.f x h1 h2)⟩
theorem Stp.new (s : Gr G H) (hp : H p = none) : Stp G H (upd G p o) (upd H p o) :=
  ⟨.new (s.back hp), s.both, .new hp, fun a h1 h2 => by
    have : a ≠ p := fun e => h1 (e ▸ hp)
    rw [upd_ne this]; exact h2⟩
/-- a new thing that is kept apart (it will change) -/
theorem Stp.hid (s : Gr G H) (hp : H p = none) : Stp G H G (upd H p o) :=
  ⟨.refl _, s.trans (.new hp), .new hp, fun _ _ h => h⟩
/-- what was kept apart stands for good from now on: it was not there at the start -/
theorem Stp.show (s : Stp G H G2 H2) (hp : H p = none) (hg : G2 p = none) (h2 : H2 p = some o) : Stp G H (upd G2 p o) H2 :=
  ⟨s.g.trans (.new hg), fun a u e => by
    by_cases q : a = p
    · subst q; rw [upd_same] at e; rw [h2]; exact e
    · rw [upd_ne q] at e; exact s.s a u e, s.h, fun a h1 h0 => by
    have : a ≠ p := fun e => h1 (e ▸ hp)
    rw [upd_ne this]; exact s.f a h1 h0⟩
/-- what is kept apart is written -/
theorem Stp.put {u : HO} (s : Stp G H G2 H2) (hp : H p = none) (hg : G2 p = none) : Stp G H G2 (upd H2 p u) :=
  ⟨s.g, fun a o e => by
    have : a ≠ p := fun q => by rw [q, hg] at e; cases e
    rw [upd_ne this]; exact s.s a o e, fun a o e => by
    have : a ≠ p := fun q => by rw [q, hp] at e; cases e
    rw [upd_ne this]; exact s.h a o e, s.f⟩
end

/-- what a name holds: data that stands for good, or a thing at an address -/
inductive Wd where
  | d (x : Dt)
  | r (a : Addr)
  | l (xs : List Dt)
/-- .l: a list that stands for good, tracked -/
def WOk (K : PySem.W.Frag) (G : Hp) (v : V) : Wd → Prop
  | .d x => Dp K G v x
  | .r a => v = .ref a
  | .l xs => ∃ p vs, v = .ref p ∧ G p = some (.lst vs) ∧ DpAll K G vs xs
abbrev Sl := List (Option Wd)
structure En (K : PySem.W.Frag) (G : Hp) (σ : L2.St) (Δ : Sl) : Prop where
  len : σ.length = Δ.length
  at_ : ∀ (i : Nat) (w : Wd), Δ[i]? = some (some w) → ∃ v, σ[i]? = some (some v) ∧ WOk K G v w
section
variable {K : PySem.W.Frag} {G G2 : Hp} {σ : L2.St} {Δ : Sl} {v : V} {w : Wd}
theorem wok_up (h : WOk K G v w) (e : Gr G G2) : WOk K G2 v w := by
  cases w with
  | d x => exact Dpu h e
  | r a => exact h
  | l xs => obtain ⟨p, vs, a, b, c⟩ := h; exact ⟨p, vs, a, e _ _ b, Dpsu c e⟩
theorem En.up (h : En K G σ Δ) (e : Gr G G2) : En K G2 σ Δ :=
  ⟨h.len, fun i w hi => let ⟨v, a, b⟩ := h.at_ i w hi; ⟨v, a, wok_up b e⟩⟩
theorem En.set (h : En K G σ Δ) (i : Nat) (hw : WOk K G v w) : En K G (σ.set i (some v)) (Δ.set i (some w)) := by
  refine ⟨by rw [List.length_set, List.length_set, h.len], fun j u hj => ?_⟩
  by_cases e : j = i
  · subst e
    have hl : j < (Δ.set j (some w)).length := (List.getElem?_eq_some_iff.mp hj).1
    rw [List.length_set] at hl
    rw [List.getElem?_set_self hl] at hj
    cases hj
    exact ⟨v, by rw [List.getElem?_set_self (by rw [h.len]; exact hl)], hw⟩
  · rw [List.getElem?_set_ne (Ne.symm e)] at hj
    obtain ⟨x, a, b⟩ := h.at_ j u hj
    exact ⟨x, by rw [List.getElem?_set_ne (Ne.symm e)]; exact a, b⟩
/-- forgetting -/
def Lt (Δ Δ' : Sl) : Prop := Δ.length = Δ'.length ∧ ∀ (i : Nat) (w : Wd), Δ'[i]? = some (some w) → Δ[i]? = some (some w)
theorem En.weak {Δ' : Sl} (h : En K G σ Δ) (l : Lt Δ Δ') : En K G σ Δ' := ⟨h.len.trans l.1, fun i w hi => h.at_ i w (l.2 i w hi)⟩
def wipeD (Δ : Sl) : List Nat → Sl
  | [] => Δ
  | v :: vs => (wipeD Δ vs).set v none
theorem En.wipe (h : En K G σ Δ) : ∀ vs : List Nat, En K G (wipe σ vs) (wipeD Δ vs)
  | [] => h
  | v :: vs => by
    have ih := En.wipe h vs
    refine ⟨by show ((L2.wipe σ vs).set v none).length = ((wipeD Δ vs).set v none).length; rw [List.length_set, List.length_set, ih.len], fun j u hj => ?_⟩
    have hj' : ((wipeD Δ vs).set v none)[j]? = some (some u) := hj
    by_cases e : j = v
    · subst e
      have hl : j < ((wipeD Δ vs).set j none).length := (List.getElem?_eq_some_iff.mp hj').1
      rw [List.length_set] at hl
      rw [List.getElem?_set_self hl] at hj'
      cases hj'
    · rw [List.getElem?_set_ne (Ne.symm e)] at hj'
      obtain ⟨x, a, b⟩ := ih.at_ j u hj'
      exact ⟨x, by show ((L2.wipe σ vs).set v none)[j]? = _; rw [List.getElem?_set_ne (Ne.symm e)]; exact a, b⟩
end

/-! ### the judgements, data alone -/
def Ev (K : PySem.W.Frag) (te : TE) (Δ : Sl) (d : Dt) : Prop :=
  ∀ (σ : L2.St) (G H : Hp) (Q : VK), En K G σ Δ → Gr G H → (∀ v G2 H2, Stp G H G2 H2 → Dp K G2 v d → Q v H2) → te σ H Q
def EvA (K : PySem.W.Frag) (ta : TA) (Δ : Sl) (ds : List Dt) : Prop :=
  ∀ (σ : L2.St) (G H : Hp) (Q : List V → Hp → Prop), En K G σ Δ → Gr G H → (∀ vs G2 H2, Stp G H G2 H2 → DpAll K G2 vs ds → Q vs H2) → ta σ H Q
def EvT (K : PySem.W.Frag) (tt : TT) (Δ : Sl) (b : Bool) : Prop :=
  ∀ (σ : L2.St) (G H : Hp) (Q : Bool → Hp → Prop), En K G σ Δ → Gr G H → (∀ G2 H2, Stp G H G2 H2 → Q b H2) → tt σ H Q
/-- operations upon values -/
def RV (K : PySem.W.Frag) (r : R2) (x y z : Dt) : Prop :=
  ∀ (G H : Hp) (v u : V) (Q : VK), Gr G H → Dp K G v x → Dp K G u y → (∀ w G2 H2, Stp G H G2 H2 → Dp K G2 w z → Q w H2) → r v u H Q
def RU (K : PySem.W.Frag) (r : V → Hp → VK → Prop) (x z : Dt) : Prop :=
  ∀ (G H : Hp) (v : V) (Q : VK), Gr G H → Dp K G v x → (∀ w G2 H2, Stp G H G2 H2 → Dp K G2 w z → Q w H2) → r v H Q
def RC (K : PySem.W.Frag) (r : List V → Hp → VK → Prop) (xs : List Dt) (z : Dt) : Prop :=
  ∀ (G H : Hp) (vs : List V) (Q : VK), Gr G H → DpAll K G vs xs → (∀ w G2 H2, Stp G H G2 H2 → Dp K G2 w z → Q w H2) → r vs H Q
section
variable {K : PySem.W.Frag} {Δ : Sl} {ta tb te : TE} {t : TA} {tt tu : TT} {x y z d : Dt} {xs ds : List Dt} {r : R2}
theorem ev_var {i : Nat} (h : Δ[i]? = some (some (.d d))) : Ev K (tVar i) Δ d := fun σ G H Q e s q => by
  obtain ⟨v, a, b⟩ := e.at_ i _ h
  exact ⟨v, a, q v G H (.refl s) b⟩
theorem ev_c {v : V} (h : ∀ G, Dp K G v d) : Ev K (tC v) Δ d := fun σ G H Q e s q => q v G H (.refl s) (h G)
theorem ev_int {i : Int} : Ev K (tC (.int i)) Δ (.int i) := ev_c fun _ => .int i
theorem ev_bl {b : Bool} : Ev K (tC (.bl b)) Δ (.bool b) := ev_c fun _ => .bl b
theorem ev_non : Ev K (tC .non) Δ .none := ev_c fun _ => .non
theorem ev_str {s : Str} : Ev K (tC (.str s)) Δ (.str s) := ev_c fun _ => .str s
theorem ev_is (h : Ev K te Δ x) (e : x = y) : Ev K te Δ y := e ▸ h
theorem et_is {a b : Bool} (h : EvT K tt Δ a) (e : a = b) : EvT K tt Δ b := e ▸ h
theorem ea_is (h : EvA K t Δ xs) (e : xs = ds) : EvA K t Δ ds := e ▸ h
theorem ev_op (ha : Ev K ta Δ x) (hb : Ev K tb Δ y) (hr : RV K r x y z) : Ev K (tOp r ta tb) Δ z := fun σ G H Q e s q =>
  ha σ G H _ e s fun v G1 H1 s1 dv => hb σ G1 H1 _ (e.up s1.g) s1.s fun u G2 H2 s2 du => hr G2 H2 v u Q s2.s (Dpu dv s2.g) du fun w G3 H3 s3 dw => q w G3 H3 ((s1.trans s2).trans s3) dw
theorem ev_un {r : V → Hp → VK → Prop} (ha : Ev K ta Δ x) (hr : RU K r x z) : Ev K (tUn r ta) Δ z := fun σ G H Q e s q =>
  ha σ G H _ e s fun v G1 H1 s1 dv => hr G1 H1 v Q s1.s dv fun w G3 H3 s3 dw => q w G3 H3 (s1.trans s3) dw
theorem ea_nil : EvA K tNil Δ [] := fun σ G H Q e s q => q [] G H (.refl s) .nil
theorem ea_cons (ha : Ev K ta Δ x) (ht : EvA K t Δ xs) : EvA K (tCons ta t) Δ (x :: xs) := fun σ G H Q e s q =>
  ha σ G H _ e s fun v G1 H1 s1 dv => ht σ G1 H1 _ (e.up s1.g) s1.s fun vs G2 H2 s2 dvs => q (v :: vs) G2 H2 (s1.trans s2) (.cons (Dpu dv s2.g) dvs)
theorem ev_cb {r : List V → Hp → VK → Prop} (ha : EvA K t Δ xs) (hr : RC K r xs z) : Ev K (tCB r t) Δ z := fun σ G H Q e s q =>
  ha σ G H _ e s fun vs G1 H1 s1 dv => hr G1 H1 vs Q s1.s dv fun w G3 H3 s3 dw => q w G3 H3 (s1.trans s3) dw
theorem new_t {G H : Hp} {vs : List V} {p : Addr} (s : Gr G H) (hp : H p = none) (h : DpAll K G vs ds) : Stp G H (upd G p (.tup vs)) (upd H p (.tup vs)) ∧ Dp K (upd G p (.tup vs)) (.ref p) (.tuple ds) :=
  ⟨.new s hp, .tup (.inl (.inl upd_same)) (Dpsu h (.new (s.back hp)))⟩
theorem new_l {G H : Hp} {vs : List V} {p : Addr} (s : Gr G H) (hp : H p = none) (h : DpAll K G vs ds) : Stp G H (upd G p (.lst vs)) (upd H p (.lst vs)) ∧ Dp K (upd G p (.lst vs)) (.ref p) (.list ds) :=
  ⟨.new s hp, .lst (.inl (.inl upd_same)) (Dpsu h (.new (s.back hp)))⟩
theorem ev_tup (ha : EvA K t Δ ds) (hl : ds.length ≤ 100000) : Ev K (tTup t) Δ (.tuple ds) := fun σ G H Q e s q =>
  ha σ G H _ e s fun vs G1 H1 s1 dv => ⟨by rw [dps_len dv]; exact Evl.sz_of hl, fun p hp => let n := new_t s1.s hp dv; q _ _ _ (s1.trans n.1) n.2⟩
theorem ev_lst (ha : EvA K t Δ ds) (hl : ds.length ≤ 100000) : Ev K (tLst t) Δ (.list ds) := fun σ G H Q e s q =>
  ha σ G H _ e s fun vs G1 H1 s1 dv => ⟨by rw [dps_len dv]; exact Evl.sz_of hl, fun p hp => let n := new_l s1.s hp dv; q _ _ _ (s1.trans n.1) n.2⟩
/-! ints -/
theorem rv_I0 {f : Int → Int → Int} {i j : Int} : RV K (rI0 fun i j => .int (f i j)) (.int i) (.int j) (.int (f i j)) := fun G H v u Q s a b q => by
  cases a; cases b; exact ⟨i, j, rfl, rfl, q _ G H (.refl s) (.int _)⟩
theorem rv_B0 {f : Int → Int → Bool} {i j : Int} : RV K (rI0 fun i j => .bl (f i j)) (.int i) (.int j) (.bool (f i j)) := fun G H v u Q s a b q => by
  cases a; cases b; exact ⟨i, j, rfl, rfl, q _ G H (.refl s) (.bl _)⟩
theorem rv_I {C : Int → Int → Prop} {f : Int → Int → Int} {i j : Int} (c : C i j) : RV K (rI C fun i j => .int (f i j)) (.int i) (.int j) (.int (f i j)) := fun G H v u Q s a b q => by
  cases a; cases b; exact ⟨i, j, rfl, rfl, c, q _ G H (.refl s) (.int _)⟩
theorem ru_I {f : Int → Int} {i : Int} : RU K (rU fun i => .int (f i)) (.int i) (.int (f i)) := fun G H v Q s a q => by
  cases a; exact ⟨i, rfl, q _ G H (.refl s) (.int _)⟩
theorem rv_eqD (hx : SeqAt.shaped x = true) (hy : SeqAt.shaped y = true) : RV K (rEqD K) x y (.bool (PyData.eqv x y)) := fun G H v u Q s a b q =>
  ⟨x, y, Dpu a s, Dpu b s, hx, hy, q _ G H (.refl s) (.bl _)⟩
theorem rv_neD (hx : SeqAt.shaped x = true) (hy : SeqAt.shaped y = true) : RV K (rNeD K) x y (.bool (!PyData.eqv x y)) := fun G H v u Q s a b q =>
  ⟨x, y, Dpu a s, Dpu b s, hx, hy, q _ G H (.refl s) (.bl _)⟩
def isNo : Dt → Bool
  | .none => true
  | _ => false
theorem isNo_v {G : Hp} {v : V} (h : Dp K G v x) : decide (v = .non) = isNo x := by cases h <;> rfl
theorem rv_isN : RV K (fun x y H Q => y = .non ∧ Q (.bl (decide (x = .non))) H) x .none (.bool (isNo x)) := fun G H v u Q s a b q => by
  cases b; refine ⟨rfl, ?_⟩; rw [isNo_v a]; exact q _ G H (.refl s) (.bl _)
theorem rv_notN : RV K (fun x y H Q => y = .non ∧ Q (.bl (!decide (x = .non))) H) x .none (.bool (!isNo x)) := fun G H v u Q s a b q => by
  cases b; refine ⟨rfl, ?_⟩; rw [isNo_v a]; exact q _ G H (.refl s) (.bl _)
theorem at_of {G : Hp} {vs : List V} {i : Int} (h : DpAll K G vs ds) (e : atI ds i = some d) : ∃ v, atI vs i = some v ∧ Dp K G v d := by
  unfold atI at e ⊢
  rw [dps_len h]
  cases q : ixN ds.length i with
  | none => rw [q] at e; cases e
  | some j =>
    rw [q] at e
    exact dps_get h e
theorem rv_ixT {i : Int} (e : atI ds i = some d) : RV K (rIxT K) (.tuple ds) (.int i) d := fun G H v u Q s a b q => by
  cases b
  cases a with
  | tup h1 h2 =>
    obtain ⟨w, e1, e2⟩ := at_of h2 e
    exact ⟨_, _, i, w, rfl, rfl, gr_t s h1, e1, q _ G H (.refl s) e2⟩
theorem rv_ixL {i : Int} (e : atI ds i = some d) : RV K (rIxL K) (.list ds) (.int i) d := fun G H v u Q s a b q => by
  cases b
  cases a with
  | lst h1 h2 =>
    obtain ⟨w, e1, e2⟩ := at_of h2 e
    exact ⟨_, _, i, w, rfl, rfl, gr_l s h1, e1, q _ G H (.refl s) e2⟩
theorem at_nn {α : Type} {xs : List α} {i : Int} {v : α} (h0 : 0 ≤ i) (h : xs[i.toNat]? = some v) : atI xs i = some v := by
  have e : i = ((i.toNat : Nat) : Int) := by omega
  rw [e]
  exact atI_nat h
/-! in -/
def hasI (i : Int) (ns : List Int) : Bool := ns.contains i
theorem inV_ints (i : Int) : ∀ ns : List Int, inV (.int i) (ns.map V.int) = hasI i ns
  | [] => rfl
  | n :: ns => by
    have ih := inV_ints i ns
    unfold inV at ih ⊢
    rw [List.map_cons, List.any_cons, ih]
    show (eqV (V.int n) (V.int i) || hasI i ns) = hasI i (n :: ns)
    unfold hasI
    rw [List.contains_cons]
    have : eqV (V.int n) (V.int i) = (i == n) := by
      show (n == i) = (i == n)
      exact BEq.comm
    rw [this]
theorem flat_ints : ∀ ns : List Int, (ns.map V.int).all flatV = true
  | [] => rfl
  | n :: ns => by rw [List.map_cons, List.all_cons, flat_ints ns]; rfl
theorem rv_inT {i : Int} {ns : List Int} : RV K (rIn K false) (.int i) (.tuple (ns.map .int)) (.bool (hasI i ns)) := fun G H v u Q s a b q => by
  cases a
  cases b with
  | tup h1 h2 =>
    have e := ints_of h2
    subst e
    refine ⟨_, _, rfl, .inr (gr_t s h1), rfl, flat_ints ns, ?_⟩
    show Q (.bl (inV (.int i) (ns.map V.int))) H
    rw [inV_ints]
    exact q _ G H (.refl s) (.bl _)
theorem rv_niT {i : Int} {ns : List Int} : RV K (rIn K true) (.int i) (.tuple (ns.map .int)) (.bool (!hasI i ns)) := fun G H v u Q s a b q => by
  cases a
  cases b with
  | tup h1 h2 =>
    have e := ints_of h2
    subst e
    refine ⟨_, _, rfl, .inr (gr_t s h1), rfl, flat_ints ns, ?_⟩
    show Q (.bl (!inV (.int i) (ns.map V.int))) H
    rw [inV_ints]
    exact q _ G H (.refl s) (.bl _)
theorem rv_niL {i : Int} {ns : List Int} : RV K (rIn K true) (.int i) (.list (ns.map .int)) (.bool (!hasI i ns)) := fun G H v u Q s a b q => by
  cases a
  cases b with
  | lst h1 h2 =>
    have e := ints_of h2
    subst e
    refine ⟨_, _, rfl, .inl (gr_l s h1), rfl, flat_ints ns, ?_⟩
    show Q (.bl (!inV (.int i) (ns.map V.int))) H
    rw [inV_ints]
    exact q _ G H (.refl s) (.bl _)
theorem rv_inL {i : Int} {ns : List Int} : RV K (rIn K false) (.int i) (.list (ns.map .int)) (.bool (hasI i ns)) := fun G H v u Q s a b q => by
  cases a
  cases b with
  | lst h1 h2 =>
    have e := ints_of h2
    subst e
    refine ⟨_, _, rfl, .inl (gr_l s h1), rfl, flat_ints ns, ?_⟩
    show Q (.bl (inV (.int i) (ns.map V.int))) H
    rw [inV_ints]
    exact q _ G H (.refl s) (.bl _)
/-! tuple + tuple, list + list, list * int -/
theorem rv_catA {xs ys : List Dt} (hl : xs.length + ys.length ≤ 100000) : RV K (rCatA K) (.tuple xs) (.tuple ys) (.tuple (xs ++ ys)) := fun G H v u Q s a b q => by
  cases a with
  | tup h1 h2 =>
    cases b with
    | tup k1 k2 =>
      refine ⟨_, _, _, _, rfl, rfl, gr_t s h1, gr_t s k1, by rw [dps_len h2, dps_len k2]; exact Evl.sz_of hl, fun e => ?_, fun e e' => ?_, fun e e' p hp => ?_⟩
      · subst e; cases h2; exact q _ G H (.refl s) (.tup k1 k2)
      · subst e'; cases k2; exact q _ G H (.refl s) (by rw [List.append_nil]; exact .tup h1 h2)
      · have n := new_t s hp (dps_app h2 k2); exact q _ _ _ n.1 n.2
end
end Sb

/-! Seamboard, layer 2: lists, calls, comprehensions, statements, loops, told by data. -/
namespace Sb
open PySem PySem.Spec PyProof.Rows L2

/-- a new list (or a name's list), tracked -/
def EvN (K : PySem.W.Frag) (te : TE) (Δ : Sl) (ds : List Dt) : Prop :=
  ∀ (σ : L2.St) (G H : Hp) (Q : VK), En K G σ Δ → Gr G H → (∀ p vs G2 H2, Stp G H G2 H2 → G2 p = some (.lst vs) → DpAll K G2 vs ds → Q (.ref p) H2) → te σ H Q
section
variable {K : PySem.W.Frag} {Δ : Sl} {ta tb te : TE} {t : TA} {tt tu : TT} {x y z d : Dt} {xs ys ds : List Dt} {r : R2}
theorem ev_of (h : EvN K te Δ ds) : Ev K te Δ (.list ds) := fun σ G H Q e s q => h σ G H Q e s fun p vs G2 H2 s2 hp dv => q _ G2 H2 s2 (.lst (.inl (.inl hp)) dv)
theorem en_is (h : EvN K te Δ xs) (e : xs = ys) : EvN K te Δ ys := e ▸ h
theorem en_var {i : Nat} (h : Δ[i]? = some (some (.l ds))) : EvN K (tVar i) Δ ds := fun σ G H Q e s q => by
  obtain ⟨v, a, p, vs, b, c, f⟩ := e.at_ i _ h
  subst b
  exact ⟨_, a, q p vs G H (.refl s) c f⟩
theorem ev_varL {i : Nat} (h : Δ[i]? = some (some (.l ds))) : Ev K (tVar i) Δ (.list ds) := ev_of (en_var h)
theorem new_n {G H : Hp} {vs : List V} {p : Addr} (s : Gr G H) (hp : H p = none) (h : DpAll K G vs ds) : Stp G H (upd G p (.lst vs)) (upd H p (.lst vs)) ∧ (upd G p (.lst vs)) p = some (.lst vs) ∧ DpAll K (upd G p (.lst vs)) vs ds :=
  ⟨.new s hp, upd_same, Dpsu h (.new (s.back hp))⟩
theorem en_lst (ha : EvA K t Δ ds) (hl : ds.length ≤ 100000) : EvN K (tLst t) Δ ds := fun σ G H Q e s q =>
  ha σ G H _ e s fun vs G1 H1 s1 dv => ⟨by rw [dps_len dv]; exact Evl.sz_of hl, fun p hp => let n := new_n s1.s hp dv; q _ _ _ _ (s1.trans n.1) n.2.1 n.2.2⟩
theorem en_cat (ha : EvN K ta Δ xs) (hb : EvN K tb Δ ys) (hl : xs.length + ys.length ≤ 100000) : EvN K (tOp rCat ta tb) Δ (xs ++ ys) := fun σ G H Q e s q =>
  ha σ G H _ e s fun a vs G1 H1 s1 h1 d1 => hb σ G1 H1 _ (e.up s1.g) s1.s fun b ws G2 H2 s2 h2 d2 =>
    ⟨a, b, vs, ws, rfl, rfl, s2.s _ _ (s2.g _ _ h1), s2.s _ _ h2, by rw [dps_len d1, dps_len d2]; exact Evl.sz_of hl, fun p hp =>
      let n := new_n s2.s hp (dps_app (Dpsu d1 s2.g) d2)
      q _ _ _ _ ((s1.trans s2).trans n.1) n.2.1 n.2.2⟩
theorem dps_rep {G : Hp} {vs : List V} (h : DpAll K G vs ds) : ∀ n : Nat, DpAll K G (List.replicate n vs).flatten (List.replicate n ds).flatten
  | 0 => .nil
  | n + 1 => by
    rw [List.replicate_succ, List.replicate_succ, List.flatten_cons, List.flatten_cons]
    exact dps_app h (dps_rep h n)
theorem en_rep {k : Int} (ha : EvN K ta Δ xs) (hb : Ev K tb Δ (.int k)) (h0 : 0 ≤ k) (hk : k ≤ 1000) (hl : xs.length ≤ 100) : EvN K (tOp rRep ta tb) Δ (List.replicate k.toNat xs).flatten := fun σ G H Q e s q =>
  ha σ G H _ e s fun a vs G1 H1 s1 h1 d1 => hb σ G1 H1 _ (e.up s1.g) s1.s fun u G2 H2 s2 du => by
    cases du
    refine ⟨a, k, vs, rfl, rfl, s2.s _ _ (s2.g _ _ h1), by omega, by omega, ?_, fun p hp => ?_⟩
    · rw [dps_len d1]
      have h3 : k.toNat ≤ 1000 := by omega
      exact Evl.sz_of (Nat.le_trans (Nat.mul_le_mul hl h3) (by decide))
    · have n := new_n s2.s hp (dps_rep (Dpsu d1 s2.g) k.toNat)
      exact q _ _ _ _ ((s1.trans s2).trans n.1) n.2.1 n.2.2
/-! ### calls of built-ins -/
theorem rc_lenT : RC K (fun xs H Q => ∃ p ys, xs = [.ref p] ∧ (SqL K H p ys ∨ SqT K H p ys) ∧ Q (.int ys.length) H) [.tuple ds] (.int (ds.length : Int)) := fun G H vs Q s h q => by
  cases h with
  | cons a b =>
    cases b
    cases a with
    | tup h1 h2 => exact ⟨_, _, rfl, .inr (gr_t s h1), by rw [dps_len h2]; exact q _ G H (.refl s) (.int _)⟩
theorem rc_lenL : RC K (fun xs H Q => ∃ p ys, xs = [.ref p] ∧ (SqL K H p ys ∨ SqT K H p ys) ∧ Q (.int ys.length) H) [.list ds] (.int (ds.length : Int)) := fun G H vs Q s h q => by
  cases h with
  | cons a b =>
    cases b
    cases a with
    | lst h1 h2 => exact ⟨_, _, rfl, .inl (gr_l s h1), by rw [dps_len h2]; exact q _ G H (.refl s) (.int _)⟩
theorem rc_tupL : RC K (fun xs H Q => ∃ p ys, xs = [.ref p] ∧ ((SqL K H p ys ∧ ∀ l, H l = none → Q (.ref l) (upd H l (.tup ys))) ∨ (SqT K H p ys ∧ Q (.ref p) H))) [.list ds] (.tuple ds) := fun G H vs Q s h q => by
  cases h with
  | cons a b =>
    cases b
    cases a with
    | lst h1 h2 => exact ⟨_, _, rfl, .inl ⟨gr_l s h1, fun l hl => let n := new_t s hl h2; q _ _ _ n.1 n.2⟩⟩
theorem rc_min2 {i j : Int} : RC K (fun xs H Q => ∃ i j, xs = [.int i, .int j] ∧ Q (.int (if j < i then j else i)) H) [.int i, .int j] (.int (min i j)) := fun G H vs Q s h q => by
  cases h with
  | cons a b =>
    cases b with
    | cons c b =>
      cases b; cases a; cases c
      refine ⟨i, j, rfl, ?_⟩
      have e : (if j < i then j else i) = min i j := by rw [Int.min_def]; split <;> split <;> omega
      rw [e]
      exact q _ G H (.refl s) (.int _)
theorem rc_int_i {i : Int} : RC K (fun xs H Q => (∃ i, xs = [.int i] ∧ Q (.int i) H) ∨ ∃ k, xs = [.bl k] ∧ Q (.int (if k then 1 else 0)) H) [.int i] (.int i) := fun G H vs Q s h q => by
  cases h with
  | cons a b => cases b; cases a; exact .inl ⟨i, rfl, q _ G H (.refl s) (.int _)⟩
theorem rc_int_b {k : Bool} : RC K (fun xs H Q => (∃ i, xs = [.int i] ∧ Q (.int i) H) ∨ ∃ k, xs = [.bl k] ∧ Q (.int (if k then 1 else 0)) H) [.bool k] (.int (if k then 1 else 0)) := fun G H vs Q s h q => by
  cases h with
  | cons a b => cases b; cases a; exact .inr ⟨k, rfl, q _ G H (.refl s) (.int _)⟩
theorem rc_sum {ns : List Int} : RC K (rSum K) [.list (ns.map .int)] (.int ns.sum) := fun G H vs Q s h q => by
  cases h with
  | cons a b =>
    cases b
    cases a with
    | lst h1 h2 =>
      have e := ints_of h2
      subst e
      exact ⟨_, ns, rfl, gr_l s h1, q _ G H (.refl s) (.int _)⟩
/-- list(x) -/
theorem en_listT (ha : Ev K ta Δ (.tuple ds)) : EvN K (tCB (fun xs H Q => ∃ p ys, xs = [.ref p] ∧ (SqL K H p ys ∨ SqT K H p ys) ∧ ∀ l, H l = none → Q (.ref l) (upd H l (.lst ys))) (tCons ta tNil)) Δ ds := fun σ G H Q e s q =>
  ha σ G H _ e s fun v G1 H1 s1 dv => by
    cases dv with
    | tup h1 h2 => exact ⟨_, _, rfl, .inr (gr_t s1.s h1), fun l hl => let n := new_n s1.s hl h2; q _ _ _ _ (s1.trans n.1) n.2.1 n.2.2⟩
/-- sorted of ints -/
def srt (ns : List Int) : List Int := ns.mergeSort (fun a b => decide (a ≤ b))
theorem srt_perm (ns : List Int) : (srt ns).Perm ns := List.mergeSort_perm _ _
theorem srt_sorted (ns : List Int) : (srt ns).Pairwise (· ≤ ·) := by
  have h := List.pairwise_mergeSort (le := fun (a b : Int) => decide (a ≤ b)) (fun a b c h1 h2 => by
    have h1' := of_decide_eq_true h1; have h2' := of_decide_eq_true h2; exact decide_eq_true (Int.le_trans h1' h2')) (fun a b => by
    rcases Int.le_total a b with h | h
    · simp [h]
    · simp [h]) ns
  exact h.imp fun h => of_decide_eq_true h
theorem pw_uniq : ∀ {l m : List Int}, l.Perm m → l.Pairwise (· ≤ ·) → m.Pairwise (· ≤ ·) → l = m := fun {l m} h h1 h2 => h.eq_of_pairwise (fun a b _ _ h3 h4 => Int.le_antisymm h3 h4) h1 h2
theorem en_sorted {ns : List Int} (ha : Ev K ta Δ (.list (ns.map .int))) : EvN K (tCB (rSortedI K) (tCons ta tNil)) Δ ((srt ns).map .int) := fun σ G H Q e s q =>
  ha σ G H _ e s fun v G1 H1 s1 dv => by
    cases dv with
    | lst h1 h2 =>
      have e := ints_of h2
      subst e
      refine ⟨_, ns, rfl, gr_l s1.s h1, fun ns' p hp1 hp2 hp => ?_⟩
      have e2 : ns' = srt ns := pw_uniq (hp1.trans (srt_perm ns).symm) hp2 (srt_sorted ns)
      subst e2
      have n := new_n s1.s hp (dps_ints (K := K) (H := G1) (srt ns))
      exact q _ _ _ _ (s1.trans n.1) n.2.1 n.2.2
/-- xs.count(k) -/
theorem ev_count {ns : List Int} {k : Int} (ha : Ev K ta Δ (.list (ns.map .int))) (hb : Ev K tb Δ (.int k)) (ht : ∀ (G H : Hp) (v : V) , Gr G H → Dp K G v (.list (ns.map .int)) → tyV K "list" v H) : Ev K (tBM K "list" (rCntI K) ta (tCons tb tNil)) Δ (.int (ns.count k : Nat)) := fun σ G H Q e s q =>
  ha σ G H _ e s fun v G1 H1 s1 dv => ⟨ht _ _ _ s1.s dv, hb σ G1 H1 _ (e.up s1.g) s1.s fun u G2 H2 s2 du => by
    cases du
    cases dv with
    | lst h1 h2 =>
      have e := ints_of h2
      subst e
      exact ⟨_, ns, k, rfl, rfl, gr_l s2.s (gr_l s2.g h1), q _ _ _ (s1.trans s2) (.int _)⟩⟩
/-! ### tests -/
theorem et_test {b : Bool} (h : Ev K te Δ (.bool b)) : EvT K (tTest te) Δ b := fun σ G H Q e s q => h σ G H _ e s fun v G1 H1 s1 dv => by cases dv; exact ⟨b, rfl, q _ _ s1⟩
theorem et_B {b : Bool} (h : Ev K te Δ (.bool b)) : EvT K (tB te) Δ b := fun σ G H Q e s q => h σ G H _ e s fun v G1 H1 s1 dv => by cases dv; exact ⟨b, rfl, q _ _ s1⟩
theorem et_yes : EvT K tYes Δ true := fun σ G H Q e s q => q G H (.refl s)
theorem et_not {a : Bool} (h : EvT K tt Δ a) : EvT K (tNot tt) Δ (!a) := fun σ G H Q e s q => h σ G H _ e s fun G1 H1 s1 => q _ _ s1
theorem et_and {a b : Bool} (h : EvT K tt Δ a) (h2 : a = true → EvT K tu Δ b) : EvT K (tAnd tt tu) Δ (a && b) := fun σ G H Q e s q => h σ G H _ e s fun G1 H1 s1 => by
  cases a with
  | true => exact iteT (h2 rfl σ G1 H1 _ (e.up s1.g) s1.s fun G2 H2 s2 => q _ _ (s1.trans s2))
  | false => exact iteF (q _ _ s1)
theorem et_or {a b : Bool} (h : EvT K tt Δ a) (h2 : a = false → EvT K tu Δ b) : EvT K (tOr tt tu) Δ (a || b) := fun σ G H Q e s q => h σ G H _ e s fun G1 H1 s1 => by
  cases a with
  | true => exact iteT (q _ _ s1)
  | false => exact iteF (h2 rfl σ G1 H1 _ (e.up s1.g) s1.s fun G2 H2 s2 => q _ _ (s1.trans s2))
theorem ev_notV {a : Bool} (h : Ev K ta Δ (.bool a)) : Ev K (tNotV ta) Δ (.bool (!a)) := fun σ G H Q e s q => h σ G H _ e s fun v G1 H1 s1 dv => by cases dv; exact ⟨a, rfl, q _ _ _ s1 (.bl _)⟩
theorem ev_andV {a b : Bool} (h : Ev K ta Δ (.bool a)) (h2 : a = true → Ev K tb Δ (.bool b)) : Ev K (tAndV ta tb) Δ (.bool (a && b)) := fun σ G H Q e s q => h σ G H _ e s fun v G1 H1 s1 dv => by
  cases dv
  refine ⟨a, rfl, ?_⟩
  cases a with
  | true => exact iteT (h2 rfl σ G1 H1 _ (e.up s1.g) s1.s fun w G2 H2 s2 => q _ _ _ (s1.trans s2))
  | false => exact iteF (q _ _ _ s1 (.bl _))
theorem ev_orV {a b : Bool} (h : Ev K ta Δ (.bool a)) (h2 : a = false → Ev K tb Δ (.bool b)) : Ev K (tOrV ta tb) Δ (.bool (a || b)) := fun σ G H Q e s q => h σ G H _ e s fun v G1 H1 s1 dv => by
  cases dv
  refine ⟨a, rfl, ?_⟩
  cases a with
  | true => exact iteT (q _ _ _ s1 (.bl _))
  | false => exact iteF (h2 rfl σ G1 H1 _ (e.up s1.g) s1.s fun w G2 H2 s2 => q _ _ _ (s1.trans s2))
theorem ev_if {b : Bool} (h : EvT K tt Δ b) (h1 : b = true → Ev K ta Δ d) (h2 : b = false → Ev K tb Δ d) : Ev K (tIf tt ta tb) Δ d := fun σ G H Q e s q => h σ G H _ e s fun G1 H1 s1 => by
  cases b with
  | true => exact iteT (h1 rfl σ G1 H1 _ (e.up s1.g) s1.s fun w G2 H2 s2 => q _ _ _ (s1.trans s2))
  | false => exact iteF (h2 rfl σ G1 H1 _ (e.up s1.g) s1.s fun w G2 H2 s2 => q _ _ _ (s1.trans s2))
/-- a op b op c -/
theorem ev_chain {tc : TE} {r r' : R2} {a b : Bool} (ha : Ev K ta Δ x) (hb : Ev K tb Δ y) (hr : RV K r x y (.bool a)) (hc : a = true → Ev K tc Δ z) (hr' : a = true → RV K r' y z (.bool b)) : Ev K (tChain r r' ta tb tc) Δ (.bool (a && b)) := fun σ G H Q e s q =>
  ha σ G H _ e s fun v G1 H1 s1 dv => hb σ G1 H1 _ (e.up s1.g) s1.s fun u G2 H2 s2 du => hr G2 H2 v u _ s2.s (Dpu dv s2.g) du fun w G3 H3 s3 dw => by
    cases dw
    refine ⟨a, rfl, ?_⟩
    have s13 := (s1.trans s2).trans s3
    cases a with
    | true => exact iteT (hc rfl σ G3 H3 _ (e.up s13.g) s13.s fun x G4 H4 s4 dx => hr' rfl G4 H4 u x Q s4.s (Dpu du (s3.g.trans s4.g)) dx fun y G5 H5 s5 dy => q _ _ _ ((s13.trans s4).trans s5) dy)
    | false => exact iteF (q _ _ _ s13 (.bl _))
end

/-! ### the promise of a def, by data -/
def spD (K : PySem.W.Frag) (F : List Dt → Dt → Prop) : Sp := fun vs H Q _ => ∃ G ds d, Gr G H ∧ DpAll K G vs ds ∧ F ds d ∧ ∀ v G2 H2, Stp G H G2 H2 → Dp K G2 v d → Q v H2
theorem ev_call {K : PySem.W.Frag} {Δ : Sl} {t : TA} {ds : List Dt} {d : Dt} {F : List Dt → Dt → Prop} {E : XK} (ha : EvA K t Δ ds) (hF : F ds d) : Ev K (tCall (spD K F) [] E t) Δ d := fun σ G H Q e s q =>
  ha σ G H _ e s fun vs G1 H1 s1 dv => ⟨G1, ds, d, s1.s, by rw [List.append_nil]; exact dv, hF, fun v G2 H2 s2 d2 => q _ _ _ (s1.trans s2) d2⟩

/-! ### statements -/
inductive Out where
  | nx (Δ : Sl) | bk (Δ : Sl) | ct (Δ : Sl) | rt (d : Dt) | rl (ds : List Dt)
def Post (K : PySem.W.Frag) (D : Ends) (G H : Hp) : Out → Prop
  | .nx Δ => ∀ σ G2 H2, Stp G H G2 H2 → En K G2 σ Δ → D.nx σ H2
  | .bk Δ => ∀ σ G2 H2, Stp G H G2 H2 → En K G2 σ Δ → D.bk σ H2
  | .ct Δ => ∀ σ G2 H2, Stp G H G2 H2 → En K G2 σ Δ → D.ct σ H2
  | .rt d => ∀ v G2 H2, Stp G H G2 H2 → Dp K G2 v d → D.rt v H2
  | .rl ds => ∀ p vs G2 H2, Stp G H G2 H2 → G2 p = some (.lst vs) → DpAll K G2 vs ds → D.rt (.ref p) H2
def Sx (K : PySem.W.Frag) (ts : TS) (Δ : Sl) (o : Out) : Prop := ∀ (D : Ends) (σ : L2.St) (G H : Hp), En K G σ Δ → Gr G H → Post K D G H o → ts D σ H
section
variable {K : PySem.W.Frag} {Δ Δ1 Δ2 : Sl} {t u : TS} {te : TE} {o : Out} {d : Dt} {G H G1 H1 : Hp} {D : Ends}
theorem Post.step (s : Stp G H G1 H1) (p : Post K D G H o) : Post K D G1 H1 o := by
  cases o with
  | nx Δ => exact fun σ G2 H2 s2 e => p σ G2 H2 (s.trans s2) e
  | bk Δ => exact fun σ G2 H2 s2 e => p σ G2 H2 (s.trans s2) e
  | ct Δ => exact fun σ G2 H2 s2 e => p σ G2 H2 (s.trans s2) e
  | rt d => exact fun v G2 H2 s2 e => p v G2 H2 (s.trans s2) e
  | rl ds => exact fun a vs G2 H2 s2 h e => p a vs G2 H2 (s.trans s2) h e
theorem sx_nil : Sx K tNext Δ (.nx Δ) := fun D σ G H e s p => p σ G H (.refl s) e
theorem sx_seq (h1 : Sx K t Δ (.nx Δ1)) (h2 : Sx K u Δ1 o) : Sx K (tSeq t u) Δ o := fun D σ G H e s p =>
  h1 { D with nx := u D } σ G H e s fun σ1 G1 H1 s1 e1 => h2 D σ1 G1 H1 e1 s1.s (p.step s1)
theorem sx_seqR (h1 : Sx K t Δ (.rt d)) : Sx K (tSeq t u) Δ (.rt d) := fun D σ G H e s p => h1 { D with nx := u D } σ G H e s p
theorem sx_seqC (h1 : Sx K t Δ (.ct Δ1)) : Sx K (tSeq t u) Δ (.ct Δ1) := fun D σ G H e s p => h1 { D with nx := u D } σ G H e s p
theorem sx_seqB (h1 : Sx K t Δ (.bk Δ1)) : Sx K (tSeq t u) Δ (.bk Δ1) := fun D σ G H e s p => h1 { D with nx := u D } σ G H e s p
theorem sx_cut (h1 : Sx K t Δ (.nx Δ1)) (h2 : Sx K u Δ1 o) : Sx K (Evl.tCut t u) Δ o := fun D σ G H e s p =>
  ⟨fun σ' H' => ∃ G', Stp G H G' H' ∧ En K G' σ' Δ1, h1 _ σ G H e s fun σ1 G1 H1 s1 e1 => ⟨G1, s1, e1⟩, fun σ' H' ⟨G', s1, e1⟩ => h2 D σ' G' H' e1 s1.s (p.step s1)⟩
theorem sx_asg {i : Nat} (h : Ev K te Δ d) : Sx K (tAsg te (gName i)) Δ (.nx (Δ.set i (some (.d d)))) := fun D σ G H e s p =>
  h σ G H _ e s fun v G1 H1 s1 dv => p _ _ _ s1 ((e.up s1.g).set i dv)
theorem sx_asgL {i : Nat} {ds : List Dt} (h : EvN K te Δ ds) : Sx K (tAsg te (gName i)) Δ (.nx (Δ.set i (some (.l ds)))) := fun D σ G H e s p =>
  h σ G H _ e s fun a vs G1 H1 s1 h1 dv => p _ _ _ s1 ((e.up s1.g).set (w := .l ds) i ⟨a, vs, rfl, h1, dv⟩)
theorem sx_ret (h : Ev K te Δ d) : Sx K (tRet te) Δ (.rt d) := fun D σ G H e s p => h σ G H _ e s p
theorem sx_retL {ds : List Dt} (h : EvN K te Δ ds) : Sx K (tRet te) Δ (.rl ds) := fun D σ G H e s p => h σ G H _ e s p
theorem sx_seqRL {ds : List Dt} (h1 : Sx K t Δ (.rl ds)) : Sx K (tSeq t u) Δ (.rl ds) := fun D σ G H e s p => h1 { D with nx := u D } σ G H e s p
theorem sx_retN : Sx K tRetN Δ (.rt .none) := fun D σ G H e s p => p _ G H (.refl s) .non
theorem sx_drop (h : Ev K te Δ d) : Sx K (tDrop te) Δ (.nx Δ) := fun D σ G H e s p => h σ G H _ e s fun v G1 H1 s1 _ => p _ _ _ s1 (e.up s1.g)
theorem sx_brk : Sx K tBreak Δ (.bk Δ) := fun D σ G H e s p => p σ G H (.refl s) e
theorem sx_cont : Sx K tCont Δ (.ct Δ) := fun D σ G H e s p => p σ G H (.refl s) e
theorem sx_weak (h : Sx K t Δ (.nx Δ1)) (l : Lt Δ1 Δ2) : Sx K t Δ (.nx Δ2) := fun D σ G H e s p => h D σ G H e s fun σ1 G1 H1 s1 e1 => p σ1 G1 H1 s1 (e1.weak l)
theorem sx_if {tt : TT} {b : Bool} (h : EvT K tt Δ b) (h1 : b = true → Sx K t Δ o) (h2 : b = false → Sx K u Δ o) : Sx K (tIfS tt t u) Δ o := fun D σ G H e s p => h σ G H _ e s fun G1 H1 s1 => by
  cases b with
  | true => exact iteT (h1 rfl D σ G1 H1 (e.up s1.g) s1.s (p.step s1))
  | false => exact iteF (h2 rfl D σ G1 H1 (e.up s1.g) s1.s (p.step s1))
theorem sx_par {i j : Nat} {ta : TA} {d1 d2 : Dt} (h : EvA K ta Δ [d1, d2]) : Sx K (tPar i j ta) Δ (.nx ((Δ.set i (some (.d d1))).set j (some (.d d2)))) := fun D σ G H e s p =>
  h σ G H _ e s fun vs G1 H1 s1 dv => by
    cases dv with
    | cons a b =>
      cases b with
      | cons c b =>
        cases b
        exact ⟨_, _, rfl, p _ _ _ s1 ((En.set (e.up s1.g) i (w := .d d1) a).set j (w := .d d2) c)⟩
theorem sx_aug {i : Nat} {f : Int → Int → Int} {a b : Int} (hx : Δ[i]? = some (some (.d (.int a)))) (h : Ev K te Δ (.int b)) : Sx K (tAug i te (ipI f)) Δ (.nx (Δ.set i (some (.d (.int (f a b)))))) := fun D σ G H e s p => by
  obtain ⟨v, e1, dv⟩ := e.at_ i _ hx
  cases dv
  refine ⟨_, e1, h σ G H _ e s fun w G1 H1 s1 dw => ?_⟩
  cases dw
  exact ⟨a, b, rfl, rfl, p _ _ _ s1 ((e.up s1.g).set (w := .d (.int (f a b))) i (.int _))⟩

/-! ### what is walked, targets -/
/-- at turn i it yields the data ds[i], a step behind -/
structure WalkD (K : PySem.W.Frag) (J : It) (G0 : Hp) (ds : List Dt) : Prop where
  go : ∀ i G H, Gr G0 G → Gr G H → i < ds.length → J.go i H
  stop : ∀ G H, Gr G0 G → Gr G H → J.stop ds.length H
  yld : ∀ i G H x H2, Gr G0 G → Gr G H → i < ds.length → J.yld i H x H2 → ∃ G2 d, Stp G H G2 H2 ∧ ds[i]? = some d ∧ Dp K G2 x d
def EvI (K : PySem.W.Frag) (wi : TI) (Δ : Sl) (ds : List Dt) : Prop :=
  ∀ (σ : L2.St) (G H : Hp) (R : It → Hp → Prop), En K G σ Δ → Gr G H → (∀ J G2 H2, Stp G H G2 H2 → WalkD K J G2 ds → R J H2) → wi σ H R
theorem walkD_list {a : Addr} {vs : List V} {ds : List Dt} (h : SqL K G a vs) (hd : DpAll K G vs ds) : WalkD K (Itl K a) G ds where
  go := fun i G1 H1 a b hi => ⟨vs, vs[i]'(by rw [dps_len hd]; exact hi), gr_l b (gr_l a h), by simp [dps_len hd, hi]⟩
  stop := fun G1 H1 a b => ⟨vs, gr_l b (gr_l a h), by rw [dps_len hd]; exact Nat.le_refl _⟩
  yld := fun i G1 H1 x H2 a b hi y => by
    obtain ⟨e, y⟩ := y
    subst e
    obtain ⟨d, e1, e2⟩ := dps_get' hd (y vs (gr_l b (gr_l a h)))
    exact ⟨G1, d, .refl b, e1, Dpu e2 a⟩
theorem walkD_tup {a : Addr} {vs : List V} {ds : List Dt} (h : SqT K G a vs) (hd : DpAll K G vs ds) : WalkD K (Itt K a) G ds where
  go := fun i G1 H1 a b hi => ⟨vs, vs[i]'(by rw [dps_len hd]; exact hi), gr_t b (gr_t a h), by simp [dps_len hd, hi]⟩
  stop := fun G1 H1 a b => ⟨vs, gr_t b (gr_t a h), by rw [dps_len hd]; exact Nat.le_refl _⟩
  yld := fun i G1 H1 x H2 a b hi y => by
    obtain ⟨e, y⟩ := y
    subst e
    obtain ⟨d, e1, e2⟩ := dps_get' hd (y vs (gr_t b (gr_t a h)))
    exact ⟨G1, d, .refl b, e1, Dpu e2 a⟩
/-- lo, lo + 1, .. -/
def upto (lo : Int) (n : Nat) : List Dt := (List.range n).map fun (i : Nat) => PyData.int (lo + (i : Int))
theorem upto_len (lo : Int) (n : Nat) : (upto lo n).length = n := by unfold upto; rw [List.length_map, List.length_range]
theorem upto_get {lo : Int} {n i : Nat} (h : i < n) : (upto lo n)[i]? = some (.int (lo + (i : Int))) := by
  unfold upto; rw [List.getElem?_map, List.getElem?_range h]; rfl
theorem walkD_range {lo : Int} {n : Nat} : WalkD K (Itr lo n) G (upto lo n) where
  go := fun i G1 H1 a b hi => by rw [upto_len] at hi; exact hi
  stop := fun G1 H1 a b => by rw [upto_len]; exact Nat.le_refl _
  yld := fun i G1 H1 x H2 a b hi y => by
    obtain ⟨e, y⟩ := y
    subst e y
    rw [upto_len] at hi
    exact ⟨G1, _, .refl b, upto_get hi, .int _⟩
/-- a new pair (i, item) at each turn -/
def pairsFrom : Nat → List Dt → List Dt
  | _, [] => []
  | k, d :: ds => .tuple [.int (k : Nat), d] :: pairsFrom (k + 1) ds
theorem pairs_len : ∀ (ds : List Dt) (k : Nat), (pairsFrom k ds).length = ds.length
  | [], _ => rfl
  | _ :: ds, k => by show (pairsFrom (k + 1) ds).length + 1 = ds.length + 1; rw [pairs_len ds]
theorem pairs_get : ∀ {ds : List Dt} {k i : Nat} {d : Dt}, ds[i]? = some d → (pairsFrom k ds)[i]? = some (.tuple [.int ((k + i : Nat) : Int), d])
  | d0 :: ds, k, 0, d, h => by simp at h; subst h; rfl
  | d0 :: ds, k, i + 1, d, h => by
    show (pairsFrom (k + 1) ds)[i]? = _
    rw [pairs_get (k := k + 1) (by simpa using h), show k + 1 + i = k + (i + 1) by omega]
theorem walkD_enum {a : Addr} {vs : List V} {ds : List Dt} (h : SqL K G a vs) (hd : DpAll K G vs ds) : WalkD K (Ite K a) G (pairsFrom 0 ds) where
  go := fun i G1 H1 a b hi => by
    rw [pairs_len] at hi
    exact ⟨vs, vs[i]'(by rw [dps_len hd]; exact hi), gr_l b (gr_l a h), by simp [dps_len hd, hi]⟩
  stop := fun G1 H1 a b => ⟨vs, gr_l b (gr_l a h), by rw [dps_len hd, pairs_len]; exact Nat.le_refl _⟩
  yld := fun i G1 H1 x H2 a b hi y => by
    obtain ⟨T, v, e, hT, eH, y⟩ := y
    subst e eH
    obtain ⟨d, e1, e2⟩ := dps_get' hd (y vs (gr_l b (gr_l a h)))
    have n := new_t (ds := [.int (i : Nat), d]) b hT (.cons (.int _) (.cons (Dpu e2 a) .nil))
    exact ⟨_, _, n.1, by rw [pairs_get e1, Nat.zero_add], n.2⟩
theorem ei_list {tl : TE} {ds : List Dt} (h : Ev K tl Δ (.list ds)) : EvI K (iList K tl) Δ ds := fun σ G H R e s q => h σ G H _ e s fun v G1 H1 s1 dv => by
  cases dv with
  | lst h1 h2 => exact ⟨_, rfl, ⟨_, gr_l s1.s h1⟩, q _ _ _ s1 (walkD_list h1 h2)⟩
theorem ei_tup {tl : TE} {ds : List Dt} (h : Ev K tl Δ (.tuple ds)) : EvI K (iTup K tl) Δ ds := fun σ G H R e s q => h σ G H _ e s fun v G1 H1 s1 dv => by
  cases dv with
  | tup h1 h2 => exact ⟨_, rfl, ⟨_, gr_t s1.s h1⟩, q _ _ _ s1 (walkD_tup h1 h2)⟩
theorem ei_rng1 {ta : TA} {j : Int} (h : EvA K ta Δ [.int j]) (hj : -1000000 ≤ j ∧ j ≤ 1000000) : EvI K (iRng1 ta) Δ (upto 0 j.toNat) := fun σ G H R e s q => h σ G H _ e s fun vs G1 H1 s1 dv => by
  cases dv with
  | cons a b => cases b; cases a; exact ⟨j, rfl, by omega, by omega, q _ _ _ s1 walkD_range⟩
theorem ei_rng2 {ta : TA} {i j : Int} (h : EvA K ta Δ [.int i, .int j]) (hi : -1000000 ≤ i ∧ i ≤ 1000000) (hj : -1000000 ≤ j ∧ j ≤ 1000000) : EvI K (iRng2 ta) Δ (upto i (j - i).toNat) := fun σ G H R e s q => h σ G H _ e s fun vs G1 H1 s1 dv => by
  cases dv with
  | cons a b => cases b with | cons c b => cases b; cases a; cases c; exact ⟨i, j, rfl, ⟨by omega, by omega, by omega, by omega⟩, q _ _ _ s1 walkD_range⟩
theorem ei_enum {ta : TE} {ds : List Dt} (h : Ev K ta Δ (.list ds)) : EvI K (iEnum K (tCons ta tNil)) Δ (pairsFrom 0 ds) := fun σ G H R e s q => h σ G H _ e s fun v G1 H1 s1 dv => by
  cases dv with
  | lst h1 h2 => exact ⟨_, _, rfl, gr_l s1.s h1, q _ _ _ s1 (walkD_enum h1 h2)⟩
/-- a target stores a thing: the slots js alone may change -/
def EvG (K : PySem.W.Frag) (g : TG) (Δ : Sl) (d : Dt) (Δ' : Sl) (js : List Nat) : Prop :=
  ∀ (v : V) (σ : L2.St) (G H : Hp) (Q : L2.St → Hp → Prop), En K G σ Δ → Gr G H → Dp K G v d → (∀ σ', En K G σ' Δ' → (∀ vs : List Nat, (∀ j ∈ js, j ∈ vs) → wipe σ' vs = wipe σ vs) → Q σ' H) → g v σ H Q
theorem wipe_at (σ : L2.St) : ∀ (vs : List Nat) (i : Nat), (wipe σ vs)[i]? = if i ∈ vs then (if i < σ.length then some none else none) else σ[i]?
  | [], i => by simp [wipe]
  | v :: vs, i => by
    show ((wipe σ vs).set v none)[i]? = _
    rw [List.getElem?_set, wipe_at σ vs i, wipe_length]
    by_cases e : v = i
    · subst e; simp
    · rw [if_neg e]
      have : (i ∈ v :: vs) ↔ i ∈ vs := by simp [Ne.symm e]
      simp only [this]
theorem wipe_set (σ : L2.St) (j : Nat) (x : Option V) (vs : List Nat) (h : j ∈ vs) : wipe (σ.set j x) vs = wipe σ vs := by
  apply List.ext_getElem?
  intro i
  rw [wipe_at, wipe_at, List.length_set, List.getElem?_set]
  by_cases e : j = i
  · subst e; simp [h]
  · rw [if_neg e]
theorem eg_name {j : Nat} : EvG K (gName j) Δ d (Δ.set j (some (.d d))) [j] := fun v σ G H Q e s dv q => q _ (e.set (w := .d d) j dv) fun vs hv => wipe_set σ j _ vs (hv j (by simp))
theorem eg_pair {i j : Nat} {d1 d2 : Dt} : EvG K (gTup K 2 (gCons (gName i) (gCons (gName j) gNil))) Δ (.tuple [d1, d2]) ((Δ.set i (some (.d d1))).set j (some (.d d2))) [i, j] := fun v σ G H Q e s dv q => by
  cases dv with
  | tup h1 h2 =>
    cases h2 with
    | cons a b =>
      cases b with
      | cons c b =>
        cases b
        exact ⟨_, _, rfl, gr_t s h1, rfl, _, _, rfl, _, _, rfl, rfl, q _ ((e.set (w := .d d1) i a).set (w := .d d2) j c) fun vs hv => by
          rw [wipe_set _ j _ vs (hv j (by simp)), wipe_set _ i _ vs (hv i (by simp))]⟩
theorem sx_unp {te : TE} {g : TG} {js : List Nat} (h : Ev K te Δ d) (hg : EvG K g Δ d Δ1 js) : Sx K (tAsg te g) Δ (.nx Δ1) := fun D σ G H e s p =>
  h σ G H _ e s fun v G1 H1 s1 dv => hg v σ G1 H1 _ (e.up s1.g) s1.s dv fun σ' e' _ => p _ _ _ s1 e'
/-! ### for -/
/-- every turn goes on -/
theorem sx_for {wi : TI} {g : TG} {tb : TS} {ds : List Dt} {js : List Nat} (Δs Δt : Nat → Sl) (hi : EvI K wi (Δs 0) ds) (hg : ∀ i d, ds[i]? = some d → EvG K g (Δs i) d (Δt i) js)
    (hb : ∀ i, i < ds.length → Sx K tb (Δt i) (.nx (Δs (i + 1))) ∨ Sx K tb (Δt i) (.ct (Δs (i + 1)))) : Sx K (tFor wi g tb) (Δs 0) (.nx (Δs ds.length)) := fun D σ G H e s p =>
  hi σ G H _ e s fun J G1 H1 s1 w => by
    refine ⟨fun i m σ' H' => m = ds.length - i ∧ i ≤ ds.length ∧ ∃ G', Stp G H G' H' ∧ Gr G1 G' ∧ En K G' σ' (Δs i), ⟨ds.length, rfl, Nat.zero_le _, G1, s1, .refl _, e.up s1.g⟩, ?_⟩
    rintro i m σ' H' ⟨rfl, hle, G', s', g', e'⟩
    by_cases hlt : i < ds.length
    · refine .inr ⟨w.go i G' H' g' s'.s hlt, fun σ'' H'' => ∃ G'', Stp G H G'' H'' ∧ Gr G1 G'' ∧ En K G'' σ'' (Δs (i + 1)), fun σ'' H'' ⟨G'', a, b, c⟩ => ⟨ds.length - (i + 1), by omega, rfl, hlt, G'', a, b, c⟩, fun x H2 y => ?_⟩
      obtain ⟨G2, d, s2, hd, dx⟩ := w.yld i G' H' x H2 g' s'.s hlt y
      refine hg i d hd x σ' G2 H2 _ (e'.up s2.g) s2.s dx fun σ2 e2 _ => ?_
      rcases hb i hlt with h | h
      · exact h _ σ2 G2 H2 e2 s2.s fun σ3 G3 H3 s3 e3 => ⟨G3, (s'.trans s2).trans s3, (g'.trans s2.g).trans s3.g, e3⟩
      · exact h _ σ2 G2 H2 e2 s2.s fun σ3 G3 H3 s3 e3 => ⟨G3, (s'.trans s2).trans s3, (g'.trans s2.g).trans s3.g, e3⟩
    · have he : i = ds.length := by omega
      subst he
      exact .inl ⟨w.stop G' H' g' s'.s, p σ' G' H' s' e'⟩
/-- the m-th turn leaves by a return -/
theorem sx_forR {wi : TI} {g : TG} {tb : TS} {ds : List Dt} {js : List Nat} (Δs Δt : Nat → Sl) (m : Nat) (hm : m < ds.length) (hi : EvI K wi (Δs 0) ds) (hg : ∀ i d, ds[i]? = some d → EvG K g (Δs i) d (Δt i) js)
    (hb : ∀ i, i < m → Sx K tb (Δt i) (.nx (Δs (i + 1))) ∨ Sx K tb (Δt i) (.ct (Δs (i + 1)))) (he : Sx K tb (Δt m) (.rt d)) : Sx K (tFor wi g tb) (Δs 0) (.rt d) := fun D σ G H e s p =>
  hi σ G H _ e s fun J G1 H1 s1 w => by
    refine ⟨fun i k σ' H' => k = ds.length - i ∧ i ≤ m ∧ ∃ G', Stp G H G' H' ∧ Gr G1 G' ∧ En K G' σ' (Δs i), ⟨ds.length, rfl, Nat.zero_le _, G1, s1, .refl _, e.up s1.g⟩, ?_⟩
    rintro i k σ' H' ⟨rfl, hle, G', s', g', e'⟩
    have hlt : i < ds.length := by omega
    refine .inr ⟨w.go i G' H' g' s'.s hlt, fun σ'' H'' => i < m ∧ ∃ G'', Stp G H G'' H'' ∧ Gr G1 G'' ∧ En K G'' σ'' (Δs (i + 1)), fun σ'' H'' ⟨h0, G'', a, b, c⟩ => ⟨ds.length - (i + 1), by omega, rfl, h0, G'', a, b, c⟩, fun x H2 y => ?_⟩
    obtain ⟨G2, d', s2, hd, dx⟩ := w.yld i G' H' x H2 g' s'.s hlt y
    refine hg i d' hd x σ' G2 H2 _ (e'.up s2.g) s2.s dx fun σ2 e2 _ => ?_
    by_cases hq : i < m
    · rcases hb i hq with h | h
      · exact h _ σ2 G2 H2 e2 s2.s fun σ3 G3 H3 s3 e3 => ⟨hq, G3, (s'.trans s2).trans s3, (g'.trans s2.g).trans s3.g, e3⟩
      · exact h _ σ2 G2 H2 e2 s2.s fun σ3 G3 H3 s3 e3 => ⟨hq, G3, (s'.trans s2).trans s3, (g'.trans s2.g).trans s3.g, e3⟩
    · have ei : i = m := by omega
      subst ei
      exact he _ σ2 G2 H2 e2 s2.s fun v G3 H3 s3 d3 => p v G3 H3 ((s'.trans s2).trans s3) d3
/-! ### comprehensions -/
theorem take_f {α β : Type} (ds : List α) (p : α → Bool) (q : α → β) (i : Nat) (d : α) (h : ds[i]? = some d) : ((ds.take (i + 1)).filter p).map q = ((ds.take i).filter p).map q ++ (if p d = true then [q d] else []) := by
  rw [List.take_add_one, h]
  show ((ds.take i ++ [d]).filter p).map q = _
  rw [List.filter_append, List.map_append, List.filter_cons]
  split <;> rfl
theorem flen {α β : Type} (ds : List α) (p : α → Bool) (q : α → β) (i : Nat) : (((ds.take i).filter p).map q).length ≤ i := by
  rw [List.length_map]
  exact Nat.le_trans (List.length_filter_le _ _) (by rw [List.length_take]; exact Nat.min_le_left _ _)
theorem en_lc {wi : TI} {g : TG} {tt : TT} {te : TE} {ds : List Dt} {js vs : List Nat} (p : Dt → Bool) (q : Dt → Dt) (Δt : Dt → Sl) (hi : EvI K wi Δ ds) (hl : ds.length ≤ 50000) (hj : ∀ j ∈ js, j ∈ vs)
    (hg : ∀ d, d ∈ ds → EvG K g (wipeD Δ vs) d (Δt d) js) (ht : ∀ d, d ∈ ds → EvT K tt (Δt d) (p d)) (he : ∀ d, d ∈ ds → p d = true → Ev K te (Δt d) (q d)) : EvN K (tLc wi g tt te vs) Δ ((ds.filter p).map q) := fun σ G H Q e s k =>
  hi σ G H _ e s fun J G1 H1 s1 w => fun L hL => by
    refine ⟨fun i m H' => m = ds.length - i ∧ i ≤ ds.length ∧ ∃ G' vs', Stp G H G' H' ∧ Gr G1 G' ∧ G' L = none ∧ H' L = some (.lst vs') ∧ DpAll K G' vs' (((ds.take i).filter p).map q), ⟨ds.length, rfl, Nat.zero_le _, G1, [], s1.trans (.hid s1.s hL), .refl _, s1.s.back hL, upd_same, .nil⟩, ?_⟩
    rintro i m H' ⟨rfl, hle, G', vs', s', g', n', h', d'⟩
    have hH : H L = none := s1.h.back hL
    by_cases hlt : i < ds.length
    · refine .inr ⟨w.go i G' H' g' s'.s hlt, fun H'' => ∃ G'' vs'', Stp G H G'' H'' ∧ Gr G1 G'' ∧ G'' L = none ∧ H'' L = some (.lst vs'') ∧ DpAll K G'' vs'' (((ds.take (i + 1)).filter p).map q), fun H'' ⟨G'', vs'', a, b, c, f, g⟩ => ⟨ds.length - (i + 1), by omega, rfl, hlt, G'', vs'', a, b, c, f, g⟩, fun x H2 y => ?_⟩
      obtain ⟨G2, d, s2, hd, dx⟩ := w.yld i G' H' x H2 g' s'.s hlt y
      have hmem : d ∈ ds := List.mem_of_getElem? hd
      have n2 : G2 L = none := s2.f L (by rw [h']; simp) n'
      refine hg d hmem x _ G2 H2 _ ((e.up ((s1.g.trans g').trans s2.g)).wipe vs) s2.s dx fun σ2 e2 w2 => ⟨?_, ?_⟩
      · rw [w2 vs hj]
        apply List.ext_getElem?
        intro k
        rw [wipe_at, wipe_at, wipe_length]
        split <;> rfl
      · refine ht d hmem σ2 G2 H2 _ e2 s2.s fun G3 H3 s3 => ?_
        have h2 : H2 L = some (.lst vs') := s2.h _ _ h'
        have h3 : H3 L = some (.lst vs') := s3.h _ _ h2
        have n3 : G3 L = none := s3.f L (by rw [h2]; simp) n2
        have st3 := (s'.trans s2).trans s3
        cases hp : p d with
        | true =>
          refine iteT (he d hmem hp σ2 G3 H3 _ (e2.up s3.g) s3.s fun v G4 H4 s4 dv => ⟨vs', s4.h _ _ h3, ?_, G4, vs' ++ [v], ?_, ((g'.trans s2.g).trans s3.g).trans s4.g, ?_, upd_same, ?_⟩)
          · rw [dps_len d']
            exact Evl.sz_lt (Nat.lt_of_le_of_lt (flen ds p q i) (by omega))
          · exact (st3.trans s4).put hH (s4.f L (by rw [h3]; simp) n3)
          · exact s4.f L (by rw [h3]; simp) n3
          · rw [take_f ds p q i d hd, if_pos hp]
            exact dps_app (Dpsu d' ((s2.g.trans s3.g).trans s4.g)) (.cons dv .nil)
        | false =>
          refine iteF ⟨G3, vs', st3, (g'.trans s2.g).trans s3.g, n3, h3, ?_⟩
          rw [take_f ds p q i d hd, if_neg (by rw [hp]; decide), List.append_nil]
          exact Dpsu d' (s2.g.trans s3.g)
    · have he' : i = ds.length := by omega
      subst he'
      refine .inl ⟨w.stop G' H' g' s'.s, ?_⟩
      rw [List.take_length] at d'
      exact k L vs' _ H' (s'.show hH n' h') upd_same (Dpsu d' (.new n'))
end
end Sb

/-! Seamboard, layer 3: enumerate over a tuple, xs[i] += n, stars, isinstance, two clauses. -/
namespace Sb
open PySem PySem.Spec PyProof.Rows L2

/-! ### enumerate(t), t a tuple -/
section
open Sem (wp)
open AutoSeq1 (wpAny_loadPart')
set_option maxHeartbeats 1000000 in
theorem enum_new1 {v : Value} {ob : Obj} {J : Heap → Prop} (B : Begins v ob J) : Meets (Builtin.«enumerate.__new__» ⟨[.type "enumerate", v], []⟩) (fun _ R s => J s.heap ∧
    R (.ok (.ret (.ref (s.heap.push ob).objs.size))) { s with heap := (s.heap.push ob).push { cls := .type "enumerate", data := .fields #[.none, .bool false, .ref s.heap.objs.size, rawInt 0, .none, .none] } }) :=
  .of_wp fun prog w A R s hh => by
    obtain ⟨hp, gn, dr, tok, os⟩ := s
    obtain ⟨j1, hR⟩ := hh
    have hsb := sub_enumerate
    have again : ∀ {A1 : Around} {E1 : Value → Shared → Prop} {Q1 : Value → Shared → Prop}, Q1 (.ref hp.objs.size) ⟨hp.push ob, gn, dr, tok, os⟩ →
        wpAny (model prog w) A1 (pyIter v) Q1 E1 ⟨hp, gn, dr, tok, os⟩ := fun q => B.iter prog w _ _ ⟨hp, gn, dr, tok, os⟩ _ j1 q
    wp_walk using again
    refine wpAny_stack_any fun _ => wpAny_pure ?_
    split
    · rename_i cl _ _ _ _ _
      cases (cl == Value.type "enumerate") <;> (wp_walk using again; exact ⟨_, rfl, hR⟩)
    · wp_walk using again
      exact ⟨_, rfl, hR⟩
theorem enum_call1 {prog : Program} {w : World} {A : Around} {E : Value → Shared → Prop} {s : Shared} {v : Value} {ob : Obj} {J : Heap → Prop} {Q : Value → Shared → Prop} (B : Begins v ob J) (hj : J s.heap)
    (k : ∀ h', IsEnum h' (s.heap.objs.size + 1) s.heap.objs.size 0 .none → h'.get? s.heap.objs.size = some ob → (∀ b u, s.heap.get? b = some u → h'.get? b = some u) → Q (.ref (s.heap.objs.size + 1)) { s with heap := h' }) :
    wpAny (model prog w) A (call (.type "enumerate") [v]) Q E s := by
  refine callType_new F.called_enumerate (by decide) (F.typeCall_enumerate_1 _) (F.newCall_enumerate_1 _) (fun obj => F.args_object_init_2 obj _) F.entry_enumerate_new (enum_new1 B) ⟨hj, ?_⟩
  have hz : (s.heap.push ob).objs.size = s.heap.objs.size + 1 := Heap.size_push ..
  have at2 := Heap.get?_push_size (s.heap.push ob) (o := { cls := .type "enumerate", data := .fields #[.none, .bool false, .ref s.heap.objs.size, rawInt 0, .none, .none] }) rfl
  rw [hz] at at2
  show _ ∧ _
  rw [hz]
  exact ⟨⟨_, at2, rfl⟩, k _ at2 (Heap.get?_push_of_some _ (Heap.get?_push_size _ B.free)) fun b u q => Heap.get?_push_of_some _ (Heap.get?_push_of_some _ q)⟩
end
def Iteu (K : PySem.W.Frag) (a : Addr) : It :=
  ⟨fun i H => ∃ (xs : List V) (x : V), SqT K H a xs ∧ xs[i]? = some x,
   fun i H v H' => ∃ T x, v = .ref T ∧ H T = none ∧ H' = upd H T (.tup [.int (i : Nat), x]) ∧ ∀ xs, SqT K H a xs → xs[i]? = some x,
   fun i H => ∃ xs : List V, SqT K H a xs ∧ xs.length = i⟩
theorem turn_enumT {P : Program} {w : World} {K : PySem.W.Frag} {elts : List Expr} {kk : Nat} {tpos : Pos} (a e it : Addr) (its : List Value) (hia : a ≠ it) (hea : a ≠ e) :
    Turn P w K (.Tuple elts kk tpos) (Iteu K a) [e, it] e (fun i h => (∃ old, IsEnum h e it ((i : Nat) : Int) old) ∧ h.IsTupleIter it a i ∧ e ≠ it) where
  mem := List.mem_cons_self
  obj := fun i h st b hb => by
    obtain ⟨⟨old, he⟩, ⟨ob, ho, _, hd⟩, _⟩ := st
    rcases List.mem_cons.mp hb with z | z
    · subst z; exact ⟨_, he, fun v q => nomatch q⟩
    · have z' : b = it := by simpa using z
      subst z'
      exact ⟨ob, ho, fun v q => by rw [hd] at q; cases q⟩
  keep := fun i h h' st k => by
    obtain ⟨⟨old, he⟩, ⟨ob, ho, hc, hd⟩, hne⟩ := st
    exact ⟨⟨old, k e (by simp) _ he⟩, ⟨ob, k it (by simp) _ ho, hc, hd⟩, hne⟩
  item := by
    intro X hP hw hK hc i pins s σ H E I hf st hg
    subst hP hw hK
    obtain ⟨⟨old, he⟩, hit, hne⟩ := st
    obtain ⟨xs, x, hq, hx⟩ := hg
    obtain ⟨jts, rv, tp, hz⟩ := I.tuple hq
    obtain ⟨u, hu, ru⟩ := rv.get hx
    have ht : s.heap.IsTuple a jts.toArray := tp
    have hlt : i < jts.toArray.size := by
      have := (List.getElem?_eq_some_iff.mp hu).1
      simpa using this
    have hel : e < s.heap.objs.size := Heap.lt_size he
    have hil : it < s.heap.objs.size := by obtain ⟨_, q, _⟩ := hit; exact Heap.lt_size q
    have hal : a < s.heap.objs.size := by obtain ⟨_, q, _⟩ := ht; exact Heap.lt_size q
    have hh : (Around.in1 X.A).handled = none := I.ok.hd hc
    refine wpAny_pyNext_enum_itemD (Draws.tuple hh it a hia jts.toArray) he ⟨hit, ht⟩ hlt hne (by simp [hne, Ne.symm hea]) fun y h' tk hP ho hst hT hsz hk => ?_
    have ey : y = u := by
      have e1 : jts.toArray[i]? = some y := hP
      have e2 : jts.toArray[i]? = some u := by simpa using hu
      rw [e1] at e2; exact Option.some.inj e2
    subst ey
    refine ⟨_, rfl, wpAny_letOwnedTupleGo_enum (s := { s with heap := h', toks := tk + 1 }) ho fun h'' he' sb => ?_⟩
    have hT2 : h''.get? s.heap.objs.size = some { cls := .type "tuple", data := .seq #[.int i tk, y] } := (sb.2 _ (Nat.ne_of_gt hel)).trans hT
    have new : ObjOk X.prog X.w (upd H s.heap.objs.size (.tup [.int (i : Nat), x])) h'' s.heap.objs.size (.tup [.int (i : Nat), x]) :=
      ⟨by show 2 ≤ sizeLine; decide, [.int i tk, y], .cons ⟨_, rfl⟩ (.cons ru .nil), ⟨_, hT2, rfl, _, rfl⟩⟩
    have I1 : Inv X pins σ (upd H s.heap.objs.size (.tup [.int (i : Nat), x])) { s with heap := h'', toks := tk + 1 } :=
      I.turnedNew (ch := [e, it]) (fun b ob hb q => (sb.2 b (fun z => hb (by simp [z]))).trans (hk b ob (fun z => hb (by simp [z])) (fun z => hb (by simp [z])) q)) hf (Nat.le_refl _) new
    obtain ⟨⟨oi, hoi, hci, hdi⟩, _⟩ := hst
    refine ⟨.ref s.heap.objs.size, _, I1, rfl, ⟨_, x, rfl, I.hok.fresh (Nat.le_refl _), rfl, fun ys hy => by rw [I.tuple_inj hy hq]; exact hx⟩, ⟨⟨y, ?_⟩, ⟨oi, (sb.2 it (Ne.symm hne)).trans hoi, hci, hdi⟩, hne⟩, fun b hb => ?_⟩
    · have e1 : ((i + 1 : Nat) : Int) = (i : Int) + 1 := by omega
      rw [e1]; exact he'
    · have hb' : b < s.heap.objs.size := by
        rcases List.mem_cons.mp hb with z | z
        · rw [z]; exact hel
        · have z' : b = it := by simpa using z
          rw [z']; exact hil
      rw [upd_ne (Nat.ne_of_lt hb')]
      exact (hf b hb).1
  done := by
    intro X hP hw hK hc i pins s σ H E I hf st hg
    subst hP hw hK
    obtain ⟨⟨old, he⟩, hit, hne⟩ := st
    obtain ⟨xs, hq, hx⟩ := hg
    obtain ⟨jts, rv, tp, hz⟩ := I.tuple hq
    have ht : s.heap.IsTuple a jts.toArray := tp
    have hn : i = jts.toArray.size := by rw [List.size_toArray, ← rv.length]; exact hx.symm
    obtain ⟨f0, f1, f2, f3, f4, f5⟩ := hf it (by simp)
    have hh : (Around.in1 X.A).handled = none := I.ok.hd hc
    subst hn
    exact wpAny_pyNext_enum_endD (Draws.tuple hh it a hia jts.toArray) he ⟨hit, ht⟩ fun h' eb => ⟨rfl, I.turned (t' := s.toks) (fun b o hb q => eb b o hb q) f0 f1 f3 f4 f5⟩
  self := fun A i s Q E st h => by
    obtain ⟨⟨_, he⟩, _⟩ := st
    exact wpAny_pyIter_enum he h
def iEnumT (K : PySem.W.Frag) (te : TE) : TI := fun σ H R => te σ H fun x H1 => ∃ a xs, x = .ref a ∧ SqT K H1 a xs ∧ R (Iteu K a) H1
theorem pi_enumT {X : Cx} {e : Expr} {te : TE} {p pos tpos : Pos} {elts : List Expr} {kk : Nat} (hg : Gl X "enumerate") (hm : X.mg "enumerate" = none) (ha : PA X [e] (tCons te tNil)) (hs : starEach [e] X.env = [(false, eval e X.env)] := by rfl) :
    PI X (.Tuple elts kk tpos) (.Call (.Name "enumerate" p) [e] [] pos) (iEnumT X.K te) := by
  refine ⟨fun pins s σ H R I h => ?_⟩
  refine Call_ (ld_blt I hg hm boot_enumerate (PyProof.Rows.callWith_type1 (thn (ha.run pos pins s σ H (fun vs H1 => ∃ x, vs = [x] ∧ ∃ a xs, x = .ref a ∧ SqT X.K H1 a xs ∧ R (Iteu X.K a) H1) I ?_) fun us s1 ⟨vs, H1, I1, r1, q1⟩ => ?_) hs rfl))
  · have mono : ∀ (x : V) (H1 : Hp), (∃ a xs, x = .ref a ∧ SqT X.K H1 a xs ∧ R (Iteu X.K a) H1) → (∃ y, [x] = [y] ∧ ∃ a xs, y = .ref a ∧ SqT X.K H1 a xs ∧ R (Iteu X.K a) H1) := fun x H1 q => ⟨x, rfl, q⟩
    have e2 : (fun x H1 => ∃ y, [x] = [y] ∧ ∃ a xs, y = .ref a ∧ SqT X.K H1 a xs ∧ R (Iteu X.K a) H1) = (fun (x : V) (H1 : Hp) => ∃ a xs, x = .ref a ∧ SqT X.K H1 a xs ∧ R (Iteu X.K a) H1) := by
      funext x H1
      exact propext ⟨fun ⟨y, ey, q⟩ => by cases ey; exact q, mono x H1⟩
    show te σ H (fun x H1 => ∃ y, [x] = [y] ∧ ∃ a xs, y = .ref a ∧ SqT X.K H1 a xs ∧ R (Iteu X.K a) H1)
    rw [e2]
    exact h
  obtain ⟨x, ex, a, xs, e2, hq, q⟩ := q1
  subst ex
  cases r1 with
  | cons r rr =>
    cases rr
    subst e2
    cases r
    obtain ⟨jts, rv, tp, hz⟩ := I1.tuple hq
    have ht : s1.heap.IsTuple a jts.toArray := tp
    have hal : a < s1.heap.objs.size := by obtain ⟨_, z, _⟩ := ht; exact Heap.lt_size z
    refine enum_call1 (begins_tuple a jts.toArray) ht fun h' hE hI hk => wpAny_pyIter_enum hE ?_
    have I2 : Inv X pins σ H1 { s1 with heap := h' } := I1.kept (t' := s1.toks) hk
    refine ⟨s1.heap.objs.size + 1, [s1.heap.objs.size + 1, s1.heap.objs.size], _, _, H1, rfl, I2,
      turn_enumT a (s1.heap.objs.size + 1) s1.heap.objs.size jts (Nat.ne_of_lt hal) (Nat.ne_of_lt (Nat.lt_succ_of_lt hal)), ⟨⟨.none, hE⟩, ⟨_, hI, rfl, rfl⟩, Nat.succ_ne_self _⟩, fun b hb => ?_, q⟩
    have hle : s1.heap.objs.size ≤ b := by
      rcases List.mem_cons.mp hb with z | z
      · rw [z]; exact Nat.le_succ _
      · have z' : b = s1.heap.objs.size := by simpa using z
        rw [z']; exact Nat.le_refl _
    exact I1.fpOk hle (I1.hok.fresh hle)
section
variable {K : PySem.W.Frag} {Δ : Sl} {ta tb te : TE} {t : TA} {ds : List Dt}
theorem walkD_enumT {G : Hp} {a : Addr} {vs : List V} {ds : List Dt} (h : SqT K G a vs) (hd : DpAll K G vs ds) : WalkD K (Iteu K a) G (pairsFrom 0 ds) where
  go := fun i G1 H1 a b hi => by
    rw [pairs_len] at hi
    exact ⟨vs, vs[i]'(by rw [dps_len hd]; exact hi), gr_t b (gr_t a h), by simp [dps_len hd, hi]⟩
  stop := fun G1 H1 a b => ⟨vs, gr_t b (gr_t a h), by rw [dps_len hd, pairs_len]⟩
  yld := fun i G1 H1 x H2 a b hi y => by
    obtain ⟨T, v, e, hT, eH, y⟩ := y
    subst e eH
    obtain ⟨d, e1, e2⟩ := dps_get' hd (y vs (gr_t b (gr_t a h)))
    have n := new_t (ds := [.int (i : Nat), d]) b hT (.cons (.int _) (.cons (Dpu e2 a) .nil))
    exact ⟨_, _, n.1, by rw [pairs_get e1, Nat.zero_add], n.2⟩
theorem ei_enumT (h : Ev K te Δ (.tuple ds)) : EvI K (iEnumT K te) Δ (pairsFrom 0 ds) := fun σ G H R e s q => h σ G H _ e s fun v G1 H1 s1 dv => by
  cases dv with
  | tup h1 h2 => exact ⟨_, _, rfl, gr_t s1.s h1, q _ _ _ s1 (walkD_enumT h1 h2)⟩
/-! ### stars in a display -/
theorem ea_starT {xs : List Dt} (h : Ev K te Δ (.tuple xs)) (ht : EvA K t Δ ds) : EvA K (StX.tStar K te t) Δ (xs ++ ds) := fun σ G H Q e s q => h σ G H _ e s fun v G1 H1 s1 dv => by
  cases dv with
  | tup h1 h2 => exact ⟨_, _, rfl, .inl (gr_t s1.s h1), ht σ G1 H1 _ (e.up s1.g) s1.s fun vs G2 H2 s2 dvs => q _ G2 H2 (s1.trans s2) (dps_app (Dpsu h2 s2.g) dvs)⟩
theorem ea_starL {xs : List Dt} (h : Ev K te Δ (.list xs)) (ht : EvA K t Δ ds) : EvA K (StX.tStar K te t) Δ (xs ++ ds) := fun σ G H Q e s q => h σ G H _ e s fun v G1 H1 s1 dv => by
  cases dv with
  | lst h1 h2 => exact ⟨_, _, rfl, .inr (gr_l s1.s h1), ht σ G1 H1 _ (e.up s1.g) s1.s fun vs G2 H2 s2 dvs => q _ G2 H2 (s1.trans s2) (dps_app (Dpsu h2 s2.g) dvs)⟩
/-! ### isinstance -/
def tyN : Dt → String
  | .none => "NoneType"
  | .bool _ => "bool"
  | .int _ => "int"
  | .str _ => "str"
  | .list _ => "list"
  | .tuple _ => "tuple"
  | .dict _ => "dict"
theorem tyx_of {G H : Hp} {v : V} {d : Dt} (s : Gr G H) (h : Dp K G v d) : TyX K H v (.type (tyN d)) := by
  cases h with
  | non => exact .base .non
  | bl b => exact .base (.bl b)
  | int i => exact .base (.int i)
  | str x => exact .base (.str x)
  | lst h1 h2 =>
    rcases gr_l s h1 with (e | ⟨o, e⟩) | ⟨o, its, n, e, hc, _⟩
    · exact .base (.lst e)
    · exact .base (.frz e)
    · exact .kList e hc
  | tup h1 h2 =>
    rcases gr_t s h1 with (e | ⟨o, e⟩) | ⟨o, its, n, e, hc, _⟩
    · exact .base (.tup e)
    · exact .fTuple e
    · exact .kTuple e hc
def tCls (n : String) : TE := tC (.ty n)
theorem ev_isi {n : String} {d : Dt} {b : Bool} (h : Ev K te Δ d) (hk : kitB (tyN d) n = some b) : Ev K (tCB (rIsi K) (tCons te (tCons (tC (.ty n)) tNil))) Δ (.bool b) := fun σ G H Q e s q => h σ G H _ e s fun v G1 H1 s1 dv =>
  ⟨v, .ty n, _, _, b, rfl, .ty n, tyx_of s1.s dv, kit_ty hk, q _ _ _ s1 (.bl b)⟩
/-! ### xs[i] += .., a list -/
theorem get_list {X : Cx} : PGet X (rIxL X.K) := by
  intro pins s σ H x y v u Q I rx ry h
  obtain ⟨p, xs, i, z, rfl, rfl, hq, he, q⟩ := h
  cases rx
  obtain ⟨t, rfl⟩ := ry
  obtain ⟨its, r, pl, hz⟩ := I.list hq
  obtain ⟨j, h1, h2, h3, h4, h5⟩ := atI_get he
  obtain ⟨w, ew, rw'⟩ := r.get h2
  have hl := r.length
  have hn := line63
  by_cases h0 : 0 ≤ i
  · have hj : i.toNat = j := by
      rw [seqIndex_of h0 h5] at h1
      exact Option.some.inj h1
    exact wpAny_getItem_list pl.isList h0 (by omega) (by rw [hj]; simpa using ew) ⟨z, H, I, rw', q⟩
  · have hj : (i + (its.toArray.size : Int)).toNat = j := by
      rw [seqIndex_neg (by omega) h4] at h1
      rw [List.size_toArray, ← hl]
      exact Option.some.inj h1
    exact wpAny_getItem_list_neg pl.isList (by omega) (by rw [List.size_toArray] <;> omega) (by omega) (by rw [hj]; simpa using ew) ⟨z, H, I, rw', q⟩
/-! ### two clauses: [e for a in xs for b in f(a)] -/
theorem flen2 (ds : List Dt) (f : Dt → List Dt) (n : Nat) (h : ∀ d, d ∈ ds → (f d).length ≤ n) (i : Nat) : ((ds.take i).flatMap f).length ≤ i * n := by
  induction ds generalizing i with
  | nil => rw [List.take_nil]; exact Nat.zero_le _
  | cons d ds ih =>
    cases i with
    | zero => exact Nat.zero_le _
    | succ i =>
      rw [List.take_succ_cons, List.flatMap_cons, List.length_append, Nat.succ_mul]
      have h1 := h d (List.mem_cons_self)
      have h2 := ih (fun e he => h e (List.mem_cons_of_mem _ he)) i
      omega
theorem en_lc2 {wi wi1 : TI} {g g1 : TG} {te : TE} {ds : List Dt} {js vs js1 vs1 : List Nat} (es : Dt → List Dt) (q : Dt → Dt → Dt) (Δt : Dt → Sl) (Δu : Dt → Dt → Sl) (hi : EvI K wi Δ ds) (hl : ds.length ≤ 1000) (hl1 : ∀ d, d ∈ ds → (es d).length ≤ 100) (hj : ∀ j ∈ js, j ∈ vs) (hj1 : ∀ j ∈ js1, j ∈ vs1)
    (hg : ∀ d, d ∈ ds → EvG K g (wipeD Δ vs) d (Δt d) js) (hi1 : ∀ d, d ∈ ds → EvI K wi1 (Δt d) (es d)) (hg1 : ∀ d, d ∈ ds → ∀ e, e ∈ es d → EvG K g1 (wipeD (Δt d) vs1) e (Δu d e) js1)
    (he : ∀ d, d ∈ ds → ∀ e, e ∈ es d → Ev K te (Δu d e) (q d e)) : EvN K (tLc2 wi g tYes wi1 g1 tYes te vs vs1) Δ (ds.flatMap fun d => (es d).map (q d)) := fun σ G H Q e s k =>
  hi σ G H _ e s fun J G1 H1 s1 w => fun L hL => by
    have hH : H L = none := s1.h.back hL
    have hlen : ∀ d, d ∈ ds → ((es d).map (q d)).length ≤ 100 := fun d hd => by rw [List.length_map]; exact hl1 d hd
    refine ⟨fun i m H' => m = ds.length - i ∧ i ≤ ds.length ∧ ∃ G' vs', Stp G H G' H' ∧ Gr G1 G' ∧ G' L = none ∧ H' L = some (.lst vs') ∧ DpAll K G' vs' ((ds.take i).flatMap fun d => (es d).map (q d)), ⟨ds.length, rfl, Nat.zero_le _, G1, [], s1.trans (.hid s1.s hL), .refl _, s1.s.back hL, upd_same, .nil⟩, ?_⟩
    rintro i m H' ⟨rfl, hle, G', vs', s', g', n', h', d'⟩
    by_cases hlt : i < ds.length
    · refine .inr ⟨w.go i G' H' g' s'.s hlt, fun H'' => ∃ G'' vs'', Stp G H G'' H'' ∧ Gr G1 G'' ∧ G'' L = none ∧ H'' L = some (.lst vs'') ∧ DpAll K G'' vs'' ((ds.take (i + 1)).flatMap fun d => (es d).map (q d)), fun H'' ⟨G'', vs'', a, b, c, f, g⟩ => ⟨ds.length - (i + 1), by omega, rfl, hlt, G'', vs'', a, b, c, f, g⟩, fun x H2 y => ?_⟩
      obtain ⟨G2, d, s2, hd, dx⟩ := w.yld i G' H' x H2 g' s'.s hlt y
      have hmem : d ∈ ds := List.mem_of_getElem? hd
      have n2 : G2 L = none := s2.f L (by rw [h']; simp) n'
      refine hg d hmem x _ G2 H2 _ ((e.up ((s1.g.trans g').trans s2.g)).wipe vs) s2.s dx fun σ2 e2 w2 => ⟨?_, ?_⟩
      · rw [w2 vs hj]
        apply List.ext_getElem?
        intro k
        rw [wipe_at, wipe_at, wipe_length]
        split <;> rfl
      refine hi1 d hmem σ2 G2 H2 _ e2 s2.s fun J1 G3 H3 s3 w1 => ?_
      have h2 : H2 L = some (.lst vs') := s2.h _ _ h'
      have h3 : H3 L = some (.lst vs') := s3.h _ _ h2
      have n3 : G3 L = none := s3.f L (by rw [h2]; simp) n2
      have st3 := (s'.trans s2).trans s3
      refine ⟨fun j m H4 => m = (es d).length - j ∧ j ≤ (es d).length ∧ ∃ G4 vs4, Stp G H G4 H4 ∧ Gr G3 G4 ∧ G4 L = none ∧ H4 L = some (.lst vs4) ∧ DpAll K G4 vs4 (((ds.take i).flatMap fun d => (es d).map (q d)) ++ ((es d).take j).map (q d)),
        ⟨(es d).length, rfl, Nat.zero_le _, G3, vs', st3, .refl _, n3, h3, by rw [List.take_zero, List.map_nil, List.append_nil]; exact Dpsu d' (s2.g.trans s3.g)⟩, ?_⟩
      rintro j m H4 ⟨rfl, hle4, G4, vs4, s4, g4, n4, h4, d4⟩
      by_cases hlt4 : j < (es d).length
      · refine .inr ⟨w1.go j G4 H4 g4 s4.s hlt4, fun H'' => ∃ G'' vs'', Stp G H G'' H'' ∧ Gr G3 G'' ∧ G'' L = none ∧ H'' L = some (.lst vs'') ∧ DpAll K G'' vs'' (((ds.take i).flatMap fun d => (es d).map (q d)) ++ ((es d).take (j + 1)).map (q d)), fun H'' ⟨G'', vs'', a, b, c, f, g⟩ => ⟨(es d).length - (j + 1), by omega, rfl, hlt4, G'', vs'', a, b, c, f, g⟩, fun x5 H5 y5 => ?_⟩
        obtain ⟨G5, d5, s5, hd5, dx5⟩ := w1.yld j G4 H4 x5 H5 g4 s4.s hlt4 y5
        have hmem5 : d5 ∈ es d := List.mem_of_getElem? hd5
        have n5 : G5 L = none := s5.f L (by rw [h4]; simp) n4
        have h5 : H5 L = some (.lst vs4) := s5.h _ _ h4
        refine hg1 d hmem d5 hmem5 x5 _ G5 H5 _ ((e2.up ((s3.g.trans g4).trans s5.g)).wipe vs1) s5.s dx5 fun σ6 e6 w6 => ⟨?_, ?_⟩
        · rw [w6 vs1 hj1]
          apply List.ext_getElem?
          intro k
          rw [wipe_at, wipe_at, wipe_length]
          split <;> rfl
        refine he d hmem d5 hmem5 σ6 G5 H5 _ e6 s5.s fun v G7 H7 s7 dv => ⟨vs4, s7.h _ _ h5, ?_, G7, vs4 ++ [v], ?_, (g4.trans s5.g).trans s7.g, ?_, upd_same, ?_⟩
        · rw [dps_len d4, List.length_append, List.length_map, List.length_take]
          have b1 := flen2 ds (fun d => (es d).map (q d)) 100 hlen i
          have b2 := hl1 d hmem
          have b3 : min j (es d).length ≤ 100 := Nat.le_trans (Nat.min_le_right _ _) b2
          have b4 : i * 100 ≤ 1000 * 100 := Nat.mul_le_mul_right _ (by omega)
          exact Nat.lt_of_le_of_lt (Nat.add_le_add (Nat.le_trans b1 b4) b3) (by decide)
        · exact ((s4.trans s5).trans s7).put hH (s7.f L (by rw [h5]; simp) n5)
        · exact s7.f L (by rw [h5]; simp) n5
        · have e8 : ((es d).take (j + 1)).map (q d) = ((es d).take j).map (q d) ++ [q d d5] := by
            rw [List.take_add_one, hd5, List.map_append]; rfl
          rw [e8, ← List.append_assoc]
          exact dps_app (Dpsu d4 (s5.g.trans s7.g)) (.cons dv .nil)
      · have he4 : j = (es d).length := by omega
        subst he4
        refine .inl ⟨w1.stop G4 H4 g4 s4.s, G4, vs4, s4, (g'.trans s2.g).trans (s3.g.trans g4), n4, h4, ?_⟩
        rw [List.take_length] at d4
        have e9 : (ds.take (i + 1)).flatMap (fun d => (es d).map (q d)) = ((ds.take i).flatMap fun d => (es d).map (q d)) ++ (es d).map (q d) := by
          rw [List.take_add_one, hd, List.flatMap_append]; simp
        rw [e9]
        exact d4
    · have he' : i = ds.length := by omega
      subst he'
      refine .inl ⟨w.stop G' H' g' s'.s, ?_⟩
      rw [List.take_length] at d'
      exact k L vs' _ H' (s'.show hH n' h') upd_same (Dpsu d' (.new n'))
end
end Sb

/-! Seamboard, layer 4: what a row of drawn numbers gives: any number below its bound. -/
namespace Sb
open PySem PySem.Spec PyProof.Rows L2

/-! ### the row: [the script, a count, a mix, a rest] -/
structure RowOk (K : PySem.W.Frag) (G H : Hp) (L : Addr) : Prop where
  g : G L = none
  at_ : ∃ (a : Addr) (ns : List Int) (i s r : Int), H L = some (.lst [.ref a, .int i, .int s, .int r]) ∧ SqL K G a (ns.map V.int) ∧ 0 ≤ i
structure StpR (L : Addr) (G H G2 H2 : Hp) : Prop where
  g : Gr G G2
  s : Gr G2 H2
  h : ∀ a o, a ≠ L → H a = some o → H2 a = some o
  f : ∀ a, H a ≠ none → G a = none → G2 a = none
section
variable {K : PySem.W.Frag} {L : Addr} {G H G1 H1 G2 H2 : Hp}
theorem Stp.row (s : Stp G H G2 H2) : StpR L G H G2 H2 := ⟨s.g, s.s, fun a o _ e => s.h a o e, s.f⟩
theorem StpR.refl (s : Gr G H) : StpR L G H G H := (Stp.refl s).row
theorem StpR.trans (a : StpR L G H G1 H1) (b : StpR L G1 H1 G2 H2) (hL : H1 L ≠ none) : StpR L G H G2 H2 :=
  ⟨a.g.trans b.g, b.s, fun x o n e => b.h x o n (a.h x o n e), fun x h1 h2 => b.f x (fun q => by
    by_cases e : x = L
    · exact hL (e ▸ q)
    · cases e2 : H x with
      | none => exact h1 e2
      | some o => rw [a.h x o e e2] at q; cases q) (a.f x h1 h2)⟩
theorem RowOk.there (r : RowOk K G H L) : H L ≠ none := by
  obtain ⟨a, ns, i, s, g, e, _⟩ := r.at_
  rw [e]; simp
theorem RowOk.step (r : RowOk K G H L) (s : Stp G H G2 H2) : RowOk K G2 H2 L := by
  refine ⟨s.f L r.there r.g, ?_⟩
  obtain ⟨a, ns, i, m, g, e, h1, h2⟩ := r.at_
  exact ⟨a, ns, i, m, g, s.h _ _ e, gr_l s.g h1, h2⟩
end
def ER (K : PySem.W.Frag) (L : Addr) (te : TE) (Δ : Sl) (P : Dt → Prop) : Prop :=
  ∀ (σ : L2.St) (G H : Hp) (Q : VK), En K G σ Δ → Gr G H → RowOk K G H L → (∀ v d G2 H2, StpR L G H G2 H2 → RowOk K G2 H2 L → P d → Dp K G2 v d → Q v H2) → te σ H Q
def ERA (K : PySem.W.Frag) (L : Addr) (ta : TA) (Δ : Sl) (P : List Dt → Prop) : Prop :=
  ∀ (σ : L2.St) (G H : Hp) (Q : List V → Hp → Prop), En K G σ Δ → Gr G H → RowOk K G H L → (∀ vs ds G2 H2, StpR L G H G2 H2 → RowOk K G2 H2 L → P ds → DpAll K G2 vs ds → Q vs H2) → ta σ H Q
def ERT (K : PySem.W.Frag) (L : Addr) (tt : TT) (Δ : Sl) (P : Bool → Prop) : Prop :=
  ∀ (σ : L2.St) (G H : Hp) (Q : Bool → Hp → Prop), En K G σ Δ → Gr G H → RowOk K G H L → (∀ b G2 H2, StpR L G H G2 H2 → RowOk K G2 H2 L → P b → Q b H2) → tt σ H Q
/-- a new list -/
def ERN (K : PySem.W.Frag) (L : Addr) (te : TE) (Δ : Sl) (P : List Dt → Prop) : Prop :=
  ∀ (σ : L2.St) (G H : Hp) (Q : VK), En K G σ Δ → Gr G H → RowOk K G H L → (∀ p vs ds G2 H2, StpR L G H G2 H2 → RowOk K G2 H2 L → P ds → G2 p = some (.lst vs) → DpAll K G2 vs ds → Q (.ref p) H2) → te σ H Q
section
variable {K : PySem.W.Frag} {L : Addr} {Δ : Sl} {ta tb te : TE} {t : TA} {tt tu : TT} {d : Dt} {ds : List Dt} {r : R2} {P PA PB : Dt → Prop} {PL PM : List Dt → Prop}
theorem er_of (h : Ev K te Δ d) (p : P d) : ER K L te Δ P := fun σ G H Q e s ro q => h σ G H Q e s fun v G2 H2 s2 dv => q v d G2 H2 s2.row (ro.step s2) p dv
theorem ern_of (h : EvN K te Δ ds) (p : PL ds) : ERN K L te Δ PL := fun σ G H Q e s ro q => h σ G H Q e s fun a vs G2 H2 s2 h2 dv => q a vs ds G2 H2 s2.row (ro.step s2) p h2 dv
theorem er_ofN (h : ERN K L te Δ PL) (p : ∀ ds, PL ds → P (.list ds)) : ER K L te Δ P := fun σ G H Q e s ro q => h σ G H Q e s ro fun a vs ds G2 H2 s2 r2 pp h2 dv => q _ _ G2 H2 s2 r2 (p ds pp) (.lst (.inl (.inl h2)) dv)
theorem er_mono (h : ER K L te Δ PA) (p : ∀ d, PA d → P d) : ER K L te Δ P := fun σ G H Q e s ro q => h σ G H Q e s ro fun v d G2 H2 s2 r2 pd dv => q v d G2 H2 s2 r2 (p d pd) dv
theorem er_op (ha : ER K L ta Δ PA) (hb : ER K L tb Δ PB) (hr : ∀ x y, PA x → PB y → ∃ z, RV K r x y z ∧ P z) : ER K L (tOp r ta tb) Δ P := fun σ G H Q e s ro q =>
  ha σ G H _ e s ro fun v x G1 H1 s1 r1 px dv => hb σ G1 H1 _ (e.up s1.g) s1.s r1 fun u y G2 H2 s2 r2 py du => by
    obtain ⟨z, hz, pz⟩ := hr x y px py
    refine hz G2 H2 v u Q s2.s (Dpu dv s2.g) du fun w G3 H3 s3 dw => ?_
    exact q w z G3 H3 ((s1.trans s2 r1.there).trans s3.row r2.there) (r2.step s3) pz dw
theorem era_nil (p : PL []) : ERA K L tNil Δ PL := fun σ G H Q e s ro q => q [] [] G H (.refl s) ro p .nil
theorem era_cons (ha : ER K L ta Δ PA) (ht : ERA K L t Δ PM) (p : ∀ x xs, PA x → PM xs → PL (x :: xs)) : ERA K L (tCons ta t) Δ PL := fun σ G H Q e s ro q =>
  ha σ G H _ e s ro fun v x G1 H1 s1 r1 px dv => ht σ G1 H1 _ (e.up s1.g) s1.s r1 fun vs ds G2 H2 s2 r2 pm dvs => q _ _ G2 H2 (s1.trans s2 r1.there) r2 (p x ds px pm) (.cons (Dpu dv s2.g) dvs)
theorem era_of {ta : TA} (h : EvA K ta Δ ds) (p : PL ds) : ERA K L ta Δ PL := fun σ G H Q e s ro q => h σ G H Q e s fun v G2 H2 s2 dv => q v ds G2 H2 s2.row (ro.step s2) p dv
theorem er_tup (ha : ERA K L t Δ PL) (p : ∀ ds, PL ds → ds.length ≤ 100000 ∧ P (.tuple ds)) : ER K L (tTup t) Δ P := fun σ G H Q e s ro q =>
  ha σ G H _ e s ro fun vs ds G1 H1 s1 r1 pd dv => ⟨by rw [dps_len dv]; exact Evl.sz_of (p ds pd).1, fun a hp => by
    have n := new_t s1.s hp dv
    exact q _ _ _ _ (s1.trans n.1.row r1.there) (r1.step n.1) (p ds pd).2 n.2⟩
theorem ern_lst (ha : ERA K L t Δ PL) (p : ∀ ds, PL ds → ds.length ≤ 100000 ∧ PM ds) : ERN K L (tLst t) Δ PM := fun σ G H Q e s ro q =>
  ha σ G H _ e s ro fun vs ds G1 H1 s1 r1 pd dv => ⟨by rw [dps_len dv]; exact Evl.sz_of (p ds pd).1, fun a hp => by
    have n := new_n s1.s hp dv
    exact q _ _ _ _ _ (s1.trans n.1.row r1.there) (r1.step n.1) (p ds pd).2 n.2.1 n.2.2⟩
theorem er_cb {r : List V → Hp → VK → Prop} (ha : ERA K L t Δ PL) (hr : ∀ xs, PL xs → ∃ z, RC K r xs z ∧ P z) : ER K L (tCB r t) Δ P := fun σ G H Q e s ro q =>
  ha σ G H _ e s ro fun vs xs G1 H1 s1 r1 px dv => by
    obtain ⟨z, hz, pz⟩ := hr xs px
    exact hz G1 H1 vs Q s1.s dv fun w G3 H3 s3 dw => q w z G3 H3 (s1.trans s3.row r1.there) (r1.step s3) pz dw
theorem ert_test {p : Bool → Prop} (h : ER K L te Δ fun d => ∃ b, d = .bool b ∧ p b) : ERT K L (tTest te) Δ p := fun σ G H Q e s ro q => h σ G H _ e s ro fun v d G1 H1 s1 r1 pd dv => by
  obtain ⟨b, rfl, pb⟩ := pd
  cases dv
  exact ⟨b, rfl, q b _ _ s1 r1 pb⟩
theorem ert_B {p : Bool → Prop} (h : ER K L te Δ fun d => ∃ b, d = .bool b ∧ p b) : ERT K L (tB te) Δ p := fun σ G H Q e s ro q => h σ G H _ e s ro fun v d G1 H1 s1 r1 pd dv => by
  obtain ⟨b, rfl, pb⟩ := pd
  cases dv
  exact ⟨b, rfl, q b _ _ s1 r1 pb⟩
theorem ert_of {b : Bool} {p : Bool → Prop} (h : EvT K tt Δ b) (pb : p b) : ERT K L tt Δ p := fun σ G H Q e s ro q => h σ G H Q e s fun G2 H2 s2 => q b G2 H2 s2.row (ro.step s2) pb
/-- the promise of a def that draws: the row first -/
def spR (K : PySem.W.Frag) (Pre : List Dt → Prop) (F : List Dt → Dt → Prop) : Sp := fun vs H Q _ => ∃ G L ws ds, vs = .ref L :: ws ∧ Gr G H ∧ RowOk K G H L ∧ DpAll K G ws ds ∧ Pre ds ∧
  ∀ v d G2 H2, F ds d → StpR L G H G2 H2 → RowOk K G2 H2 L → Dp K G2 v d → Q v H2
theorem er_call {i : Nat} {Pre : List Dt → Prop} {F : List Dt → Dt → Prop} {E : XK} (hL : Δ[i]? = some (some (.r L))) (ha : ERA K L t Δ PL) (p : ∀ ds, PL ds → Pre ds ∧ ∀ d, F ds d → P d) : ER K L (tCall (spR K Pre F) [] E (tCons (tVar i) t)) Δ P := fun σ G H Q e s ro q => by
  obtain ⟨v, a, b⟩ := e.at_ i _ hL
  cases b
  refine ⟨_, a, ha σ G H _ e s ro fun vs ds G1 H1 s1 r1 pd dv => ⟨G1, L, vs, ds, by rw [List.append_nil], s1.s, r1, dv, (p ds pd).1, fun v d G2 H2 f s2 r2 d2 => ?_⟩⟩
  exact q v d G2 H2 (s1.trans s2 r1.there) r2 ((p ds pd).2 d f) d2
end
/-! ### statements that draw -/
def PostR (K : PySem.W.Frag) (L : Addr) (D : Ends) (G H : Hp) : Out → Prop
  | .nx Δ => ∀ σ G2 H2, StpR L G H G2 H2 → RowOk K G2 H2 L → En K G2 σ Δ → D.nx σ H2
  | .bk Δ => ∀ σ G2 H2, StpR L G H G2 H2 → RowOk K G2 H2 L → En K G2 σ Δ → D.bk σ H2
  | .ct Δ => ∀ σ G2 H2, StpR L G H G2 H2 → RowOk K G2 H2 L → En K G2 σ Δ → D.ct σ H2
  | .rt d => ∀ v G2 H2, StpR L G H G2 H2 → RowOk K G2 H2 L → Dp K G2 v d → D.rt v H2
  | .rl ds => ∀ p vs G2 H2, StpR L G H G2 H2 → RowOk K G2 H2 L → G2 p = some (.lst vs) → DpAll K G2 vs ds → D.rt (.ref p) H2
def SR (K : PySem.W.Frag) (L : Addr) (ts : TS) (Δ : Sl) (P : Out → Prop) : Prop := ∀ (D : Ends) (σ : L2.St) (G H : Hp), En K G σ Δ → Gr G H → RowOk K G H L → (∀ o, P o → PostR K L D G H o) → ts D σ H
section
variable {K : PySem.W.Frag} {L : Addr} {Δ Δ1 Δ2 : Sl} {t u w : TS} {te : TE} {o : Out} {d : Dt} {G H G1 H1 : Hp} {D : Ends} {P : Out → Prop} {PA : Dt → Prop} {PL : List Dt → Prop}
theorem PostR.step (s : StpR L G H G1 H1) (r : RowOk K G1 H1 L) (p : PostR K L D G H o) : PostR K L D G1 H1 o := by
  cases o with
  | nx Δ => exact fun σ G2 H2 s2 r2 e => p σ G2 H2 (s.trans s2 r.there) r2 e
  | bk Δ => exact fun σ G2 H2 s2 r2 e => p σ G2 H2 (s.trans s2 r.there) r2 e
  | ct Δ => exact fun σ G2 H2 s2 r2 e => p σ G2 H2 (s.trans s2 r.there) r2 e
  | rt d => exact fun v G2 H2 s2 r2 e => p v G2 H2 (s.trans s2 r.there) r2 e
  | rl ds => exact fun a vs G2 H2 s2 r2 h e => p a vs G2 H2 (s.trans s2 r.there) r2 h e
theorem sr_of (h : Sx K t Δ o) (p : P o) : SR K L t Δ P := fun D σ G H e s ro q => by
  have q' := q o p
  refine h D σ G H e s ?_
  cases o with
  | nx Δ => exact fun σ G2 H2 s2 e => q' σ G2 H2 s2.row (ro.step s2) e
  | bk Δ => exact fun σ G2 H2 s2 e => q' σ G2 H2 s2.row (ro.step s2) e
  | ct Δ => exact fun σ G2 H2 s2 e => q' σ G2 H2 s2.row (ro.step s2) e
  | rt d => exact fun v G2 H2 s2 e => q' v G2 H2 s2.row (ro.step s2) e
  | rl ds => exact fun a vs G2 H2 s2 h e => q' a vs G2 H2 s2.row (ro.step s2) h e
/-- a pure statement, then the rest -/
theorem sr_pure (h : Sx K t Δ (.nx Δ1)) (k : SR K L u Δ1 P) : SR K L (tSeq t u) Δ P := fun D σ G H e s ro q =>
  h { D with nx := u D } σ G H e s fun σ1 G1 H1 s1 e1 => k D σ1 G1 H1 e1 s1.s (ro.step s1) fun o po => (q o po).step s1.row (ro.step s1)
theorem sr_seq {PM : Sl → Prop} (h : SR K L t Δ fun o => ∃ Δ1, o = .nx Δ1 ∧ PM Δ1) (k : ∀ Δ1, PM Δ1 → SR K L u Δ1 P) : SR K L (tSeq t u) Δ P := fun D σ G H e s ro q =>
  h { D with nx := u D } σ G H e s ro fun o ⟨Δ1, e1, p1⟩ => by
    subst e1
    exact fun σ1 G1 H1 s1 r1 e1 => k Δ1 p1 D σ1 G1 H1 e1 s1.s r1 fun o po => (q o po).step s1 r1
theorem sr_cut {PM : Sl → Prop} (h : SR K L t Δ fun o => ∃ Δ1, o = .nx Δ1 ∧ PM Δ1) (k : ∀ Δ1, PM Δ1 → SR K L u Δ1 P) : SR K L (Evl.tCut t u) Δ P := fun D σ G H e s ro q =>
  ⟨fun σ' H' => ∃ G' Δ1, PM Δ1 ∧ StpR L G H G' H' ∧ RowOk K G' H' L ∧ En K G' σ' Δ1, h _ σ G H e s ro (fun o ⟨Δ1, e1, p1⟩ => by
    subst e1
    exact fun σ1 G1 H1 s1 r1 e1 => ⟨G1, Δ1, p1, s1, r1, e1⟩), fun σ' H' ⟨G', Δ1, p1, s1, r1, e1⟩ => k Δ1 p1 D σ' G' H' e1 s1.s r1 fun o po => (q o po).step s1 r1⟩
theorem sr_asg1 {i : Nat} (h : ER K L te Δ PA) (k : ∀ d, PA d → P (.nx (Δ.set i (some (.d d))))) : SR K L (tAsg te (gName i)) Δ P := fun D σ G H e s ro q =>
  h σ G H _ e s ro fun v d G1 H1 s1 r1 pd dv => q _ (k d pd) _ G1 H1 s1 r1 ((e.up s1.g).set (w := .d d) i dv)
theorem sr_asg {i : Nat} (h : ER K L te Δ PA) (k : ∀ d, PA d → SR K L u (Δ.set i (some (.d d))) P) : SR K L (tSeq (tAsg te (gName i)) u) Δ P := fun D σ G H e s ro q =>
  h σ G H _ e s ro fun v d G1 H1 s1 r1 pd dv => k d pd D _ G1 H1 ((e.up s1.g).set (w := .d d) i dv) s1.s r1 fun o po => (q o po).step s1 r1
theorem sr_asgN {i : Nat} (h : ERN K L te Δ PL) (k : ∀ ds, PL ds → SR K L u (Δ.set i (some (.l ds))) P) : SR K L (tSeq (tAsg te (gName i)) u) Δ P := fun D σ G H e s ro q =>
  h σ G H _ e s ro fun p vs ds G1 H1 s1 r1 pd h1 dv => k ds pd D _ G1 H1 ((e.up s1.g).set (w := .l ds) i ⟨p, vs, rfl, h1, dv⟩) s1.s r1 fun o po => (q o po).step s1 r1
theorem sr_asgN1 {i : Nat} (h : ERN K L te Δ PL) (k : ∀ ds, PL ds → P (.nx (Δ.set i (some (.l ds))))) : SR K L (tAsg te (gName i)) Δ P := fun D σ G H e s ro q =>
  h σ G H _ e s ro fun p vs ds G1 H1 s1 r1 pd h1 dv => q _ (k ds pd) _ G1 H1 s1 r1 ((e.up s1.g).set (w := .l ds) i ⟨p, vs, rfl, h1, dv⟩)
theorem sr_par {i j : Nat} {ta : TA} {PP : Dt → Dt → Prop} (h : ERA K L ta Δ fun ds => ∃ a b, ds = [a, b] ∧ PP a b) (k : ∀ a b, PP a b → SR K L u ((Δ.set i (some (.d a))).set j (some (.d b))) P) : SR K L (tSeq (tPar i j ta) u) Δ P := fun D σ G H e s ro q =>
  h σ G H _ e s ro fun vs ds G1 H1 s1 r1 pd dv => by
    obtain ⟨a, b, rfl, p⟩ := pd
    cases dv with
    | cons x y =>
      cases y with
      | cons z y =>
        cases y
        exact ⟨_, _, rfl, k a b p D _ G1 H1 (((e.up s1.g).set (w := .d a) i x).set (w := .d b) j z) s1.s r1 fun o po => (q o po).step s1 r1⟩
theorem sr_par3 {i j l : Nat} {ta : TA} {PP : Dt → Dt → Dt → Prop} (h : ERA K L ta Δ fun ds => ∃ a b c, ds = [a, b, c] ∧ PP a b c) (k : ∀ a b c, PP a b c → SR K L u (((Δ.set i (some (.d a))).set j (some (.d b))).set l (some (.d c))) P) : SR K L (tSeq (tPar3 i j l ta) u) Δ P := fun D σ G H e s ro q =>
  h σ G H _ e s ro fun vs ds G1 H1 s1 r1 pd dv => by
    obtain ⟨a, b, c, rfl, p⟩ := pd
    cases dv with
    | cons x y =>
      cases y with
      | cons z y =>
        cases y with
        | cons z2 y =>
          cases y
          exact ⟨_, _, _, rfl, k a b c p D _ G1 H1 ((((e.up s1.g).set (w := .d a) i x).set (w := .d b) j z).set (w := .d c) l z2) s1.s r1 fun o po => (q o po).step s1 r1⟩
theorem sr_ret (h : ER K L te Δ PA) (k : ∀ d, PA d → P (.rt d)) : SR K L (tRet te) Δ P := fun D σ G H e s ro q =>
  h σ G H _ e s ro fun v d G1 H1 s1 r1 pd dv => q _ (k d pd) v G1 H1 s1 r1 dv
theorem sr_if {tt : TT} {p : Bool → Prop} (h : ERT K L tt Δ p) (h1 : p true → SR K L t Δ P) (h2 : p false → SR K L u Δ P) : SR K L (tIfS tt t u) Δ P := fun D σ G H e s ro q =>
  h σ G H _ e s ro fun b G1 H1 s1 r1 pb => by
    cases b with
    | true => exact iteT (h1 pb D σ G1 H1 (e.up s1.g) s1.s r1 fun o po => (q o po).step s1 r1)
    | false => exact iteF (h2 pb D σ G1 H1 (e.up s1.g) s1.s r1 fun o po => (q o po).step s1 r1)
/-- if c: .. that is not taken, then the rest -/
theorem sr_skip {tt : TT} (h : EvT K tt Δ false) (k : SR K L u Δ P) : SR K L (tSeq (tIfS tt t tNext) u) Δ P := fun D σ G H e s ro q =>
  h σ G H _ e s fun G1 H1 s1 => iteF (k D σ G1 H1 (e.up s1.g) s1.s (ro.step s1) fun o po => (q o po).step s1.row (ro.step s1))
/-- if c: .. , both ways on to the rest -/
theorem sr_when {tt : TT} {p : Bool → Prop} {PM : Sl → Prop} (h : ERT K L tt Δ p) (h1 : p true → SR K L t Δ fun o => ∃ Δ1, o = .nx Δ1 ∧ PM Δ1) (h0 : p false → PM Δ) (k : ∀ Δ1, PM Δ1 → SR K L u Δ1 P) : SR K L (tSeq (tIfS tt t tNext) u) Δ P :=
  sr_seq (sr_if h h1 (fun pf => sr_of sx_nil ⟨Δ, rfl, h0 pf⟩)) k
theorem sr_weak (h : SR K L t Δ2 P) (l : Lt Δ Δ2) : SR K L t Δ P := fun D σ G H e s ro q => h D σ G H (e.weak l) s ro q
/-- a loop whose turns draw -/
theorem sr_for {wi : TI} {tb : TS} {j : Nat} {PD : List Dt → Prop} (Iv : List Dt → Nat → Sl → Prop)
    (hi : ∀ (σ : L2.St) (G H : Hp) (R : It → Hp → Prop), En K G σ Δ → Gr G H → RowOk K G H L → (∀ J ds G2 H2, PD ds → StpR L G H G2 H2 → RowOk K G2 H2 L → WalkD K J G2 ds → R J H2) → wi σ H R)
    (h0 : ∀ ds, PD ds → Iv ds 0 Δ) (hb : ∀ ds i d Δi, PD ds → ds[i]? = some d → Iv ds i Δi → SR K L tb (Δi.set j (some (.d d))) fun o => ∃ Δ', (o = .nx Δ' ∨ o = .ct Δ') ∧ Iv ds (i + 1) Δ')
    (k : ∀ ds Δ', PD ds → Iv ds ds.length Δ' → SR K L u Δ' P) : SR K L (tSeq (tFor wi (gName j) tb) u) Δ P := fun D σ G H e s ro q =>
  hi σ G H _ e s ro fun J ds G1 H1 pd s1 r1 w => by
    refine ⟨fun i m σ' H' => m = ds.length - i ∧ i ≤ ds.length ∧ ∃ G' Δ', StpR L G H G' H' ∧ RowOk K G' H' L ∧ Gr G1 G' ∧ Iv ds i Δ' ∧ En K G' σ' Δ', ⟨ds.length, rfl, Nat.zero_le _, G1, Δ, s1, r1, .refl _, h0 ds pd, e.up s1.g⟩, ?_⟩
    rintro i m σ' H' ⟨rfl, hle, G', Δ', s', r', g', iv, e'⟩
    by_cases hlt : i < ds.length
    · refine .inr ⟨w.go i G' H' g' s'.s hlt, fun σ'' H'' => ∃ G'' Δ'', StpR L G H G'' H'' ∧ RowOk K G'' H'' L ∧ Gr G1 G'' ∧ Iv ds (i + 1) Δ'' ∧ En K G'' σ'' Δ'', fun σ'' H'' ⟨G'', Δ'', a, b, c, f, g⟩ => ⟨ds.length - (i + 1), by omega, rfl, hlt, G'', Δ'', a, b, c, f, g⟩, fun x H2 y => ?_⟩
      obtain ⟨G2, d, s2, hd, dx⟩ := w.yld i G' H' x H2 g' s'.s hlt y
      have r2 := r'.step s2
      refine hb ds i d Δ' pd hd iv _ _ G2 H2 ((e'.up s2.g).set (w := .d d) j dx) s2.s r2 fun o ⟨Δ'', ho, iv'⟩ => ?_
      have st : ∀ {G3 H3}, StpR L G2 H2 G3 H3 → StpR L G H G3 H3 := fun s3 => (s'.trans s2.row r'.there).trans s3 r2.there
      rcases ho with ho | ho
      · subst ho
        exact fun σ3 G3 H3 s3 r3 e3 => ⟨G3, Δ'', st s3, r3, (g'.trans s2.g).trans s3.g, iv', e3⟩
      · subst ho
        exact fun σ3 G3 H3 s3 r3 e3 => ⟨G3, Δ'', st s3, r3, (g'.trans s2.g).trans s3.g, iv', e3⟩
    · have he : i = ds.length := by omega
      subst he
      exact .inl ⟨w.stop G' H' g' s'.s, k ds Δ' pd iv D σ' G' H' e' s'.s r' fun o po => (q o po).step s' r'⟩
theorem ri_of {wi : TI} {ds : List Dt} {PD : List Dt → Prop} (h : EvI K wi Δ ds) (p : PD ds) (σ : L2.St) (G H : Hp) (R : It → Hp → Prop) (e : En K G σ Δ) (s : Gr G H) (ro : RowOk K G H L) (q : ∀ J ds G2 H2, PD ds → StpR L G H G2 H2 → RowOk K G2 H2 L → WalkD K J G2 ds → R J H2) : wi σ H R :=
  h σ G H R e s fun J G2 H2 s2 w => q J ds G2 H2 p s2.row (ro.step s2) w
theorem ri_rng1 {ta : TA} {PD : List Dt → Prop} (h : ERA K L ta Δ fun ds => ∃ j : Int, ds = [.int j] ∧ -1000000 ≤ j ∧ j ≤ 1000000 ∧ PD (upto 0 j.toNat)) (σ : L2.St) (G H : Hp) (R : It → Hp → Prop) (e : En K G σ Δ) (s : Gr G H) (ro : RowOk K G H L)
    (q : ∀ J ds G2 H2, PD ds → StpR L G H G2 H2 → RowOk K G2 H2 L → WalkD K J G2 ds → R J H2) : iRng1 ta σ H R := h σ G H _ e s ro fun vs ds G1 H1 s1 r1 pd dv => by
  obtain ⟨j, rfl, h1, h2, pj⟩ := pd
  cases dv with
  | cons a b => cases b; cases a; exact ⟨j, rfl, by omega, by omega, q _ _ _ _ pj s1 r1 walkD_range⟩
end
/-! ### a def of the text, told by its promise -/
structure Has (P : Program) (w : World) (K : PySem.W.Frag) (mg : Str → Option Value) (base : Heap) (x : Str) (k : Nat) (ps : List Str) (sp : Sp) : Prop where
  ex : ∃ f fd, FnOk P w K mg base CX0 k f fd ps sp ∧ mg x = some (.ref f) ∧ PySem.W.keepIn K (.ref f) = true ∧ Binds K fd ps []
structure TextFn (K : PySem.W.Frag) (x : Str) (st : Stmt) : Prop where
  ex : ∃ (f : Addr) (oc : Value) (od : Option Addr) (osl : Array (Option Value)) (kV dc pm : Value) (an : Option Addr) (cd ct : Value), PySem.W.nsIn K mainGlobals x = some (some (.ref f)) ∧
    K.lookup f = some ⟨oc, od, .func (PySem.W.fnOf x x (defArgs st) (defBody st) (defScope st) .none kV dc pm an cd ct), osl⟩ ∧ PySem.W.codeIn K cd x = true ∧ PySem.W.keepIn K (.ref f) = true
theorem textFn_mk {K : PySem.W.Frag} {x : Str} {st : Stmt} {f : Addr} {oc : Value} {od : Option Addr} {osl : Array (Option Value)} {kV dc pm : Value} {an : Option Addr} {cd ct : Value} (a : PySem.W.nsIn K mainGlobals x = some (some (.ref f)))
    (l : K.lookup f = some ⟨oc, od, .func (PySem.W.fnOf x x (defArgs st) (defBody st) (defScope st) .none kV dc pm an cd ct), osl⟩) (c : PySem.W.codeIn K cd x = true) (k : PySem.W.keepIn K (.ref f) = true) : TextFn K x st :=
  ⟨f, oc, od, osl, kV, dc, pm, an, cd, ct, a, l, c, k⟩
structure FnAt (K : PySem.W.Frag) (mg : Str → Option Value) (x : Str) (st : Stmt) : Prop where
  ex : ∃ f fd, Fun K x x st f fd ∧ mg x = some (.ref f)
theorem TextFn.at_ {K : PySem.W.Frag} {mg : Str → Option Value} {h : Heap} {x : Str} {st : Stmt} (t : TextFn K x st) (X : K.In h) (G : h.Ns mainGlobals mg) : FnAt K mg x st := by
  obtain ⟨f, oc, od, osl, kV, dc, pm, an, cd, ct, a, l, c, k⟩ := t.ex
  exact ⟨f, _, fun_mk (st := st) l c k, PySem.W.mg_of X G a⟩
/-- how the arguments bind: one word a def -/
def BindsAt (x : Str) (st : Stmt) (ps : List Str) : Prop :=
  ∀ (kV doc pm : Value) (an : Option Addr) (cdv ct : Value) (us : List Value), us.length = ps.length → bindArgs (PySem.W.fnOf x x (defArgs st) (defBody st) (defScope st) .none kV doc pm an cdv ct) ⟨us, []⟩ = pure (ps.zip us)
section
variable {P : Program} {w : World} {K : PySem.W.Frag} {mg : Str → Option Value} {base : Heap} {x : Str} {st : Stmt} {N ps : List Str} {k : Nat}
theorem start_env {G : Hp} {vs : List V} {ds : List Dt} (N : List Str) (h : DpAll K G vs ds) : En K G (L2.start N vs) (ds.map (fun d => some (.d d)) ++ List.replicate (N.length - ds.length) none) := by
  have hl := dps_len h
  refine ⟨by unfold L2.start; simp [hl], fun i w hi => ?_⟩
  unfold L2.start
  by_cases h1 : i < ds.length
  · rw [List.getElem?_append_left (by simpa using h1), List.getElem?_map, List.getElem?_eq_getElem h1] at hi
    have e : w = .d ds[i] := by
      have := Option.some.inj hi
      exact (Option.some.inj this).symm
    subst e
    obtain ⟨v, e1, e2⟩ := dps_get h (List.getElem?_eq_getElem h1)
    exact ⟨v, by rw [List.getElem?_append_left (by simpa [hl] using h1), List.getElem?_map, e1]; rfl, e2⟩
  · rw [List.getElem?_append_right (by simpa using h1), List.getElem?_replicate] at hi
    split at hi <;> cases hi
/-- THE RULE for a def that draws nothing: every way out is told -/
theorem has_pure {F : List Dt → Dt → Prop} (A : FnAt K mg x st) (B : BindsAt x st ps) (S : FnScope N ps (defScope st)) (hlen : ∀ ds d, F ds d → ds.length = ps.length)
    (hb : ∀ (cdv : Value) (f : Addr) (A : Around) (outer : List Env) (s : Shared) (H : Hp) (E : XK), Room k (A.deeper (envOfC x (defScope st) s.heap.objs.size f cdv)) →
      ∃ t, PSs (cxOf CX0 P w K mg base N x (defScope st) f cdv A outer s H E).nox (defBody st) t ∧ ∀ ds d, F ds d → Sx K t (ds.map (fun d => some (.d d)) ++ List.replicate (N.length - ds.length) none) (.rt d) ∨
        (d = .none ∧ ∃ Δ, Sx K t (ds.map (fun d => some (.d d)) ++ List.replicate (N.length - ds.length) none) (.nx Δ))) : Has P w K mg base x (k + 1) ps (spD K F) := by
  obtain ⟨f, fd, hF, hm⟩ := A.ex
  refine ⟨f, fd, ?_, hm, hF.kp, hF.binds fun kV doc pm an cdv ct us hl => B kV doc pm an cdv ct us hl⟩
  refine hF.ok S (fun vs H Q E h => ?_) (fun cdv A outer s H vs Q E hr h => ?_)
  · obtain ⟨G, ds, d, _, dv, f, _⟩ := h
    rw [dps_len dv, hlen ds d f]
  · obtain ⟨G, ds, d, g, dv, fd, q⟩ := h
    obtain ⟨t, ht, hx⟩ := hb cdv f A outer s H E hr
    refine ⟨t, ht, ?_⟩
    rcases hx ds d fd with hx | ⟨rfl, Δ, hx⟩
    · exact hx _ _ G H (start_env N dv) g fun v G2 H2 s2 d2 => q v G2 H2 s2 d2
    · exact hx _ _ G H (start_env N dv) g fun σ G2 H2 s2 e2 => q .non G2 H2 s2 .non
/-- .. for one that hands back a new list -/
def spDL (K : PySem.W.Frag) (F : List Dt → List Dt → Prop) : Sp := fun vs H Q _ => ∃ G ds es, Gr G H ∧ DpAll K G vs ds ∧ F ds es ∧ ∀ p us G2 H2, Stp G H G2 H2 → G2 p = some (.lst us) → DpAll K G2 us es → Q (.ref p) H2
theorem has_list {F : List Dt → List Dt → Prop} (A : FnAt K mg x st) (B : BindsAt x st ps) (S : FnScope N ps (defScope st)) (hlen : ∀ ds d, F ds d → ds.length = ps.length)
    (hb : ∀ (cdv : Value) (f : Addr) (A : Around) (outer : List Env) (s : Shared) (H : Hp) (E : XK), Room k (A.deeper (envOfC x (defScope st) s.heap.objs.size f cdv)) →
      ∃ t, PSs (cxOf CX0 P w K mg base N x (defScope st) f cdv A outer s H E).nox (defBody st) t ∧ ∀ ds es, F ds es → Sx K t (ds.map (fun d => some (.d d)) ++ List.replicate (N.length - ds.length) none) (.rl es)) : Has P w K mg base x (k + 1) ps (spDL K F) := by
  obtain ⟨f, fd, hF, hm⟩ := A.ex
  refine ⟨f, fd, ?_, hm, hF.kp, hF.binds fun kV doc pm an cdv ct us hl => B kV doc pm an cdv ct us hl⟩
  refine hF.ok S (fun vs H Q E h => ?_) (fun cdv A outer s H vs Q E hr h => ?_)
  · obtain ⟨G, ds, d, _, dv, f, _⟩ := h
    rw [dps_len dv, hlen ds d f]
  · obtain ⟨G, ds, es, g, dv, fd, q⟩ := h
    obtain ⟨t, ht, hx⟩ := hb cdv f A outer s H E hr
    exact ⟨t, ht, hx ds es fd _ _ G H (start_env N dv) g fun p us G2 H2 s2 h2 d2 => q p us G2 H2 s2 h2 d2⟩
theorem en_call {K : PySem.W.Frag} {Δ : Sl} {t : TA} {ds es : List Dt} {F : List Dt → List Dt → Prop} {E : XK} (ha : EvA K t Δ ds) (hF : F ds es) : EvN K (tCall (spDL K F) [] E t) Δ es := fun σ G H Q e s q =>
  ha σ G H _ e s fun vs G1 H1 s1 dv => ⟨G1, ds, es, s1.s, by rw [List.append_nil]; exact dv, hF, fun p us G2 H2 s2 h2 d2 => q p us G2 H2 (s1.trans s2) h2 d2⟩
/-- a def that is never come to here -/
theorem has_none (A : FnAt K mg x st) (B : BindsAt x st ps) (k : Nat) : Has P w K mg base x k ps (spD K fun _ _ => False) := by
  obtain ⟨f, fd, hF, hm⟩ := A.ex
  exact ⟨f, fd, ⟨fun vs H Q E ⟨_, _, _, _, _, h, _⟩ => h.elim, fun _ _ _ _ _ _ _ _ _ _ _ _ _ ⟨_, _, _, _, _, h, _⟩ => h.elim⟩, hm, hF.kp, hF.binds fun kV doc pm an cdv ct us hl => B kV doc pm an cdv ct us hl⟩
/-- .. for one that draws: the row is its first parameter -/
theorem has_row {Pre : List Dt → Prop} {F : List Dt → Dt → Prop} (A : FnAt K mg x st) (B : BindsAt x st ps) (S : FnScope N ps (defScope st)) (hlen : ∀ ds, Pre ds → ds.length + 1 = ps.length)
    (hb : ∀ (cdv : Value) (f : Addr) (A : Around) (outer : List Env) (s : Shared) (H : Hp) (E : XK), Room k (A.deeper (envOfC x (defScope st) s.heap.objs.size f cdv)) →
      ∃ t, PSs (cxOf CX0 P w K mg base N x (defScope st) f cdv A outer s H E).nox (defBody st) t ∧ ∀ L ds, Pre ds → SR K L t (some (.r L) :: (ds.map (fun d => some (.d d)) ++ List.replicate (N.length - (ds.length + 1)) none)) (fun o => ∃ d, o = .rt d ∧ F ds d)) :
    Has P w K mg base x (k + 1) ps (spR K Pre F) := by
  obtain ⟨f, fd, hF, hm⟩ := A.ex
  refine ⟨f, fd, ?_, hm, hF.kp, hF.binds fun kV doc pm an cdv ct us hl => B kV doc pm an cdv ct us hl⟩
  refine hF.ok S (fun vs H Q E h => ?_) (fun cdv A outer s H vs Q E hr h => ?_)
  · obtain ⟨G, L, ws, ds, rfl, _, _, dv, pre, _⟩ := h
    rw [List.length_cons, dps_len dv, hlen ds pre]
  · obtain ⟨G, L, ws, ds, rfl, g, ro, dv, pre, q⟩ := h
    obtain ⟨t, ht, hx⟩ := hb cdv f A outer s H E hr
    refine ⟨t, ht, ?_⟩
    have e0 : En K G (L2.start N (.ref L :: ws)) (some (.r L) :: (ds.map (fun d => some (.d d)) ++ List.replicate (N.length - (ds.length + 1)) none)) := by
      have hl := dps_len dv
      refine ⟨by unfold L2.start; simp [hl], fun i w hi => ?_⟩
      cases i with
      | zero =>
        have e : w = .r L := by
          have := Option.some.inj hi
          exact (Option.some.inj this).symm
        subst e
        exact ⟨.ref L, rfl, rfl⟩
      | succ i =>
        have hi' : (ds.map (fun d => some (Wd.d d)) ++ List.replicate (N.length - (ds.length + 1)) none)[i]? = some (some w) := by simpa using hi
        show ∃ v, ((some (V.ref L) :: ws.map some) ++ List.replicate (N.length - (ws.length + 1)) none)[i + 1]? = some (some v) ∧ _
        rw [List.cons_append, List.getElem?_cons_succ]
        by_cases h1 : i < ds.length
        · rw [List.getElem?_append_left (by simpa using h1), List.getElem?_map, List.getElem?_eq_getElem h1] at hi'
          have e : w = .d ds[i] := by
            have := Option.some.inj hi'
            exact (Option.some.inj this).symm
          subst e
          obtain ⟨v, e1, e2⟩ := dps_get dv (List.getElem?_eq_getElem h1)
          exact ⟨v, by rw [List.getElem?_append_left (by simpa [hl] using h1), List.getElem?_map, e1]; rfl, e2⟩
        · rw [List.getElem?_append_right (by simpa using h1), List.getElem?_replicate] at hi'
          split at hi' <;> cases hi'
    exact hx L ds pre _ _ G H e0 g ro fun o ⟨d, ho, hf⟩ => by
      subst ho
      exact fun v G2 H2 s2 r2 d2 => q v d G2 H2 hf s2 r2 d2
end
section
variable {X : Cx} {x : Str} {k : Nat} {ps : List Str} {sp : Sp} {p pos : Pos} {e : Expr} {es : List Expr} {t : TA}
/-- a call of such a def -/
theorem ca (h : Has X.prog X.w X.K X.mg X.base x k ps sp) (hr : Room k X.A) (hg : Gl X x) (ha : PA X (e :: es) t) (hdb : (x == ("__debug__" : Str)) = false := by decide) (he : starEach (e :: es) X.env = (false, eval e X.env) :: starEach es X.env := by rfl)
    (hpl : (backTo pos (starEach es X.env)).any (·.1) = false := by rfl) : PE X (.Call (.Name x p) (e :: es) [] pos) (tCall sp [] E0 t) := by
  obtain ⟨f, fd, F, hm, hk, hb⟩ := h.ex
  exact pe_call F hr hg hm hk hb .nil pass0 ha hdb he hpl
end
/-! ### the law itself -/
def spLaw (K : PySem.W.Frag) : Sp := fun vs H Q _ => ∃ (a : Addr) (ns : List Int), vs = [.ref a] ∧ SqL K H a (ns.map V.int) ∧ ns.length ≤ 63 ∧ ∀ H', Q (.bl true) H'
theorem law_go {K : PySem.W.Frag} {u : TS} {a : Addr} {ns : List Int} {H : Hp} {n : Nat} {Q : VK} {nx : L2.St → Hp → Prop} (hs : SqL K H a (ns.map V.int)) (q : ∀ H', Q (.bl true) H')
    (h : ∀ L, SR K L u (none :: some (.r L) :: List.replicate n none) fun o => o = .rt (.bool true)) :
    tSeq (tAsg (tLst (tCons (tVar 0) (tCons (tC (.int 0)) (tCons (tC (.int 0)) (tCons (tC (.int 0)) tNil))))) (gName 1)) u { nx := nx, rt := Q } (some (.ref a) :: none :: List.replicate n none) H := by
  refine ⟨.ref a, rfl, by show 4 ≤ sizeLine; decide, fun L hL => ?_⟩
  have g : Gr H (upd H L (.lst [.ref a, .int 0, .int 0, .int 0])) := .new hL
  refine h L _ _ H _ ⟨by simp, fun i w hi => ?_⟩ g ⟨hL, a, ns, 0, 0, 0, upd_same, hs, Int.le_refl _⟩ fun o ho => ?_
  · match i with
    | 0 => cases hi
    | 1 => cases hi; exact ⟨.ref L, rfl, rfl⟩
    | i + 2 =>
      have hi' : (List.replicate n (none : Option Wd))[i]? = some (some w) := by simpa using hi
      rw [List.getElem?_replicate] at hi'
      split at hi' <;> cases hi'
  · subst ho
    exact fun v G2 H2 _ _ dv => by
      cases dv
      exact q H2
end Sb

/-! Seamboard, layer 5: shapes of data, sets as chosen numbers. -/
namespace Sb
open PySem PySem.Spec PyProof.Rows L2
theorem PIor {X : Cx} {tg l : Expr} {wi wj : TI} (h1 : PI X tg l wi) (h2 : PI X tg l wj) : PI X tg l (fun σ H R => wi σ H R ∨ wj σ H R) :=
  ⟨fun pins s σ H R I h => h.elim (fun h => h1.run pins s σ H R I h) (fun h => h2.run pins s σ H R I h)⟩
theorem pi_or {X : Cx} {tg l : Expr} {wi wj : TI} (h1 : PI X tg l wi) (h2 : PI X tg l wj) : PI X tg l (fun σ H R => wi σ H R ∨ wj σ H R) := PIor h1 h2
theorem ei_or1 {K : PySem.W.Frag} {Δ : Sl} {wi wj : TI} {ds : List Dt} (h : EvI K wi Δ ds) : EvI K (fun σ H R => wi σ H R ∨ wj σ H R) Δ ds := fun σ G H R e s q => .inl (h σ G H R e s q)
theorem ei_or2 {K : PySem.W.Frag} {Δ : Sl} {wi wj : TI} {ds : List Dt} (h : EvI K wj Δ ds) : EvI K (fun σ H R => wi σ H R ∨ wj σ H R) Δ ds := fun σ G H R e s q => .inr (h σ G H R e s q)

/-! ### the rules that name the written part, by K itself (a block of a comprehension has the same one) -/
section
variable {X : Cx} {K : PySem.W.Frag} {tg l e o : Expr} {es : List Expr} {tl te to : TE} {t : TA}
theorem pi_tupK (q : X.K = K) (h : PE X l tl) : PI X tg l (iTup K tl) := q ▸ pi_tup h
theorem pi_listK (q : X.K = K) (h : PE X l tl) : PI X tg l (iList K tl) := q ▸ pi_list h
theorem pi_enumTK {p pos tpos : Pos} {elts : List Expr} {kk : Nat} (q : X.K = K) (hg : Gl X "enumerate") (hm : X.mg "enumerate" = none) (ha : PA X [e] (tCons te tNil)) (hs : starEach [e] X.env = [(false, eval e X.env)] := by rfl) :
    PI X (.Tuple elts kk tpos) (.Call (.Name "enumerate" p) [e] [] pos) (iEnumT K te) := q ▸ pi_enumT hg hm ha hs
theorem pi_enumK {p pos tpos : Pos} {elts : List Expr} {kk : Nat} (q : X.K = K) (hg : Gl X "enumerate") (hm : X.mg "enumerate" = none) (ha : PA X [e] t) (hs : starEach [e] X.env = [(false, eval e X.env)] := by rfl) :
    PI X (.Tuple elts kk tpos) (.Call (.Name "enumerate" p) [e] [] pos) (iEnum K t) := q ▸ pi_enum hg hm ha hs
theorem op_eqK (q : X.K = K) (hu : X.A.units + 64 < cLine) : OpR X (compareOp .Eq) (rEqD K) := q ▸ op_eqD hu
theorem op_neK (q : X.K = K) (hu : X.A.units + 64 < cLine) : OpR X (compareOp .NotEq) (rNeD K) := q ▸ op_neD hu
theorem op_inK (q : X.K = K) : OpR X (compareOp .In) (rIn K false) := q ▸ op_in_seq
theorem op_niK (q : X.K = K) : OpR X (compareOp .NotIn) (rIn K true) := q ▸ op_notIn_seq
theorem op_catAK (q : X.K = K) : OpR X (binaryOp .Add) (rCatA K) := q ▸ op_catA
theorem ix_tupK (q : X.K = K) : IxR X (rIxT K) := q ▸ ix_tup
theorem ix_listK (q : X.K = K) : IxR X (rIxL K) := q ▸ ix_list
def rIxO (K : PySem.W.Frag) : R2 := fun x y H Q => rIxT K x y H Q ∨ rIxL K x y H Q
theorem ix_orK (q : X.K = K) : IxR X (rIxO K) := q ▸ ix_tup.or ix_list
theorem get_listK (q : X.K = K) : PGet X (rIxL K) := q ▸ get_list
def rLen (K : PySem.W.Frag) : List V → Hp → VK → Prop := fun xs H Q => ∃ p ys, xs = [.ref p] ∧ (SqL K H p ys ∨ SqT K H p ys) ∧ Q (.int ys.length) H
def rTupOf (K : PySem.W.Frag) : List V → Hp → VK → Prop := fun xs H Q => ∃ p ys, xs = [.ref p] ∧ ((SqL K H p ys ∧ ∀ l, H l = none → Q (.ref l) (upd H l (.tup ys))) ∨ (SqT K H p ys ∧ Q (.ref p) H))
def rListOf (K : PySem.W.Frag) : List V → Hp → VK → Prop := fun xs H Q => ∃ p ys, xs = [.ref p] ∧ (SqL K H p ys ∨ SqT K H p ys) ∧ ∀ l, H l = none → Q (.ref l) (upd H l (.lst ys))
theorem kc_len (q : X.K = K) : CallR X (.builtin "len") (rLen K) := q ▸ call_len_seq
theorem kc_tup (q : X.K = K) : CallR X (.type "tuple") (rTupOf K) := q ▸ call_tuple_of
theorem kc_list (q : X.K = K) : CallR X (.type "list") (rListOf K) := q ▸ call_list_of
theorem kc_isi (q : X.K = K) : CallR X (.builtin "isinstance") (rIsi K) := q ▸ call_isi
theorem kc_isiT (q : X.K = K) : CallR X (.builtin "isinstance") (rIsiT K) := q ▸ call_isiT
theorem kc_sorted (q : X.K = K) : CallR X (.builtin "sorted") (rSortedI K) := q ▸ cr_sortedI
theorem kc_sum (q : X.K = K) (hc : X.calm = true) : CallR X (.builtin "sum") (rSum K) := q ▸ cr_sum hc
theorem pe_countK {apos cpos : Pos} (q : X.K = K) (ho : PE X o to) (ha : PA X (e :: es) t) (hbase : attributeBase o "count" X.env (eval o X.env) = eval o X.env := by rfl)
    (hfew : ((backTo cpos (starEach (e :: es) X.env)).all (fun x => !x.1) && (backToKw cpos (keywordEach [] X.env)).all (fun x => x.1.isSome) && decide ((e :: es).length + ([] : List Keyword).length + (if ([] : List Keyword).isEmpty then 0 else 1) < 30)) = true := by rfl)
    (hline : (apos.endLine == cpos.line) = true := by rfl) (hs : starEach (e :: es) X.env = (false, eval e X.env) :: starEach es X.env := by rfl) (hplain : (backTo cpos (starEach es X.env)).any (·.1) = false := by rfl) :
    PE X (.Call (.Attribute o "count" apos) (e :: es) [] cpos) (tBM K "list" (rCntI K) to t) := q ▸ pe_bm PySem.F.plainAttrs_list PySem.F.slot_list_count PySem.F.type_list_count mt_lcount ho ha hbase hfew hline hs hplain
theorem pa_starK {p : Pos} (q : X.K = K) (he : PE X e te) (hr : PA X es t) (hs : starEach (.Starred e p :: es) X.env = (true, eval e X.env) :: starEach es X.env := by rfl) : PA X (.Starred e p :: es) (StX.tStar K te t) := q ▸ StX.pa_star he hr hs
end
section
variable {K : PySem.W.Frag} {Δ : Sl} {t u : TS} {te : TE} {o : Out} {d : Dt} {ds : List Dt}
theorem sx_let {i : Nat} (h : Ev K te Δ d) (k : Sx K u (Δ.set i (some (.d d))) o) : Sx K (tSeq (tAsg te (gName i)) u) Δ o := sx_seq (sx_asg h) k
theorem sx_letL {i : Nat} (h : EvN K te Δ ds) (k : Sx K u (Δ.set i (some (.l ds))) o) : Sx K (tSeq (tAsg te (gName i)) u) Δ o := sx_seq (sx_asgL h) k
theorem sx_do (h : Ev K te Δ d) (k : Sx K u Δ o) : Sx K (tSeq (tDrop te) u) Δ o := sx_seq (sx_drop h) k
theorem sx_un {g : TG} {js : List Nat} {Δ1 : Sl} (h : Ev K te Δ d) (hg : EvG K g Δ d Δ1 js) (k : Sx K u Δ1 o) : Sx K (tSeq (tAsg te g) u) Δ o := sx_seq (sx_unp h hg) k
theorem sx_par3 {i j l : Nat} {ta : TA} {d1 d2 d3 : Dt} (h : EvA K ta Δ [d1, d2, d3]) : Sx K (tPar3 i j l ta) Δ (.nx (((Δ.set i (some (.d d1))).set j (some (.d d2))).set l (some (.d d3)))) := fun D σ G H e s p =>
  h σ G H _ e s fun vs G1 H1 s1 dv => by
    cases dv with
    | cons a b =>
      cases b with
      | cons c b =>
        cases b with
        | cons x b =>
          cases b
          exact ⟨_, _, _, rfl, p _ _ _ s1 (En.set (En.set (En.set (e.up s1.g) i (w := .d d1) a) j (w := .d d2) c) l (w := .d d3) x)⟩
theorem eg_triple {i j l : Nat} {d1 d2 d3 : Dt} : EvG K (gTup K 3 (gCons (gName i) (gCons (gName j) (gCons (gName l) gNil)))) Δ (.tuple [d1, d2, d3]) (((Δ.set i (some (.d d1))).set j (some (.d d2))).set l (some (.d d3))) [i, j, l] := fun v σ G H Q e s dv q => by
  cases dv with
  | tup h1 h2 =>
    cases h2 with
    | cons a b =>
      cases b with
      | cons c b =>
        cases b with
        | cons x b =>
          cases b
          exact ⟨_, _, rfl, gr_t s h1, rfl, _, _, rfl, _, _, rfl, _, _, rfl, rfl, q _ (((e.set (w := .d d1) i a).set (w := .d d2) j c).set (w := .d d3) l x) fun vs hv => by
            rw [wipe_set _ l _ vs (hv l (by simp)), wipe_set _ j _ vs (hv j (by simp)), wipe_set _ i _ vs (hv i (by simp))]⟩
/-- if c: .. , not taken, then the rest; taken, and it leaves -/
theorem sx_skip {tt : TT} (h : EvT K tt Δ false) (k : Sx K u Δ o) : Sx K (tSeq (tIfS tt t tNext) u) Δ o := sx_seq (sx_if h (fun e => nomatch e) fun _ => sx_nil) k
theorem sx_take {tt : TT} (h : EvT K tt Δ true) (k : Sx K t Δ (.rt d)) : Sx K (tSeq (tIfS tt t tNext) u) Δ (.rt d) := sx_seqR (sx_if h (fun _ => k) fun e => nomatch e)
theorem sx_pass1 {tt : TT} (h : EvT K tt Δ false) : Sx K (tIfS tt t tNext) Δ (.nx Δ) := sx_if h (fun e => nomatch e) fun _ => sx_nil
end
theorem cmul {i j : Int} (h : -1000000000000 ≤ i ∧ i ≤ 1000000000000) : CMul i j := by
  have e : (2 : Int) ^ 64 = 18446744073709551616 := by decide
  refine .inl ⟨?_, ?_⟩ <;> rw [e] <;> omega
theorem cmul' {i j : Int} (h : -1000000000000 ≤ j ∧ j ≤ 1000000000000) : CMul i j := by
  have e : (2 : Int) ^ 64 = 18446744073709551616 := by decide
  refine .inr ⟨?_, ?_⟩ <;> rw [e] <;> omega
theorem cdiv {i j : Int} (h : 0 < j ∧ j < 1073741824) : CDiv i j := h
theorem Sx.go {K : PySem.W.Frag} {ts : TS} {Δ : Sl} {o : Out} {D : Ends} {σ : L2.St} {G H : Hp} (h : Sx K ts Δ o) (e : En K G σ Δ) (s : Gr G H) (p : Post K D G H o) : ts D σ H := h D σ G H e s p
/-- x = xs * k: a new list that will change -/
theorem sx_hidRep {K : PySem.W.Frag} {Δ : Sl} {ta tb : TE} {u : TS} {xs : List Dt} {k : Int} {i : Nat} {D : Ends} {σ : L2.St} {G H : Hp} (ha : EvN K ta Δ xs) (hb : Ev K tb Δ (.int k)) (h0 : 0 ≤ k) (hk : k ≤ 1000) (hl : xs.length ≤ 100) (e : En K G σ Δ) (s : Gr G H)
    (q : ∀ c vs G1 H1, Stp G H G1 H1 → H1 c = none → DpAll K G1 vs xs → u D (σ.set i (some (.ref c))) (upd H1 c (.lst (List.replicate k.toNat vs).flatten))) : tSeq (tAsg (tOp rRep ta tb) (gName i)) u D σ H := by
  show tOp rRep ta tb σ H _
  show ta σ H _
  refine ha σ G H _ e s fun a vs G1 H1 s1 h1 d1 => hb σ G1 H1 _ (e.up s1.g) s1.s fun u2 G2 H2 s2 du => ?_
  cases du
  refine ⟨a, k, vs, rfl, rfl, s2.s _ _ (s2.g _ _ h1), by omega, by omega, ?_, fun c hc => q c vs G2 H2 (s1.trans s2) hc (Dpsu d1 s2.g)⟩
  rw [dps_len d1]
  have h3 : k.toNat ≤ 1000 := by omega
  exact Evl.sz_of (Nat.le_trans (Nat.mul_le_mul hl h3) (by decide))
theorem for_go {K : PySem.W.Frag} {Δ : Sl} {wi : TI} {g : TG} {tb u : TS} {ds : List Dt} {D : Ends} {σ : L2.St} {G H : Hp} (hi : EvI K wi Δ ds) (e : En K G σ Δ) (s : Gr G H)
    (k : ∀ J G1 H1, Stp G H G1 H1 → WalkD K J G1 ds → ∃ W : Nat → Nat → L2.St → Hp → Prop, (∃ m, W 0 m σ H1) ∧ ∀ i m σ' H', W i m σ' H' → (J.stop i H' ∧ u D σ' H') ∨
      (J.go i H' ∧ ∃ N : L2.St → Hp → Prop, (∀ σ'' H'', N σ'' H'' → ∃ m', m' < m ∧ W (i + 1) m' σ'' H'') ∧ ∀ x H'', J.yld i H' x H'' → g x σ' H'' fun σ2 H2 => tb { D with nx := N, ct := N, bk := u D } σ2 H2)) : tSeq (tFor wi g tb) u D σ H :=
  hi σ G H _ e s fun J G1 H1 s1 w => k J G1 H1 s1 w
/-- x = [..]: a new list that will change -/
theorem sx_hidLst {K : PySem.W.Frag} {Δ : Sl} {ta : TA} {u : TS} {xs : List Dt} {i : Nat} {D : Ends} {σ : L2.St} {G H : Hp} (ha : EvA K ta Δ xs) (hl : xs.length ≤ 100000) (e : En K G σ Δ) (s : Gr G H)
    (q : ∀ c vs G1 H1, Stp G H G1 H1 → H1 c = none → DpAll K G1 vs xs → u D (σ.set i (some (.ref c))) (upd H1 c (.lst vs))) : tSeq (tAsg (tLst ta) (gName i)) u D σ H := by
  show tLst ta σ H (fun x H1 => gName i x σ H1 (u D))
  exact ha σ G H _ e s fun vs G1 H1 s1 dv => ⟨by rw [dps_len dv]; exact Evl.sz_of hl, fun c hc => q c vs G1 H1 s1 hc dv⟩
/-- a tuple of ints; a board -/
abbrev ti (ns : List Int) : Dt := .tuple (ns.map .int)
abbrev li (ns : List Int) : Dt := .list (ns.map .int)
abbrev bd (r c : Int) : Dt := .tuple [.int r, .int c]
/-- the numbers below n that f takes -/
def sel (n : Nat) (f : Nat → Bool) : List Int := ((List.range n).filter f).map fun (k : Nat) => (k : Int)
theorem sel_len (n : Nat) (f : Nat → Bool) : (sel n f).length ≤ n := by
  unfold sel
  rw [List.length_map]
  exact Nat.le_trans (List.length_filter_le _ _) (by rw [List.length_range]; exact Nat.le_refl _)
theorem mem_sel {n : Nat} {f : Nat → Bool} {x : Int} : x ∈ sel n f ↔ ∃ k : Nat, x = k ∧ k < n ∧ f k = true := by
  unfold sel
  rw [List.mem_map]
  constructor
  · rintro ⟨k, hk, rfl⟩
    rw [List.mem_filter, List.mem_range] at hk
    exact ⟨k, rfl, hk.1, hk.2⟩
  · rintro ⟨k, rfl, h1, h2⟩
    exact ⟨k, by rw [List.mem_filter, List.mem_range]; exact ⟨h1, h2⟩, rfl⟩
theorem mem_sel_nat {n : Nat} {f : Nat → Bool} {k : Nat} : (k : Int) ∈ sel n f ↔ k < n ∧ f k = true := by
  rw [mem_sel]
  constructor
  · rintro ⟨j, e, h1, h2⟩
    have : k = j := by omega
    subst this
    exact ⟨h1, h2⟩
  · rintro ⟨h1, h2⟩
    exact ⟨k, rfl, h1, h2⟩
theorem sel_congr {n : Nat} {f g : Nat → Bool} (h : ∀ k, k < n → f k = g k) : sel n f = sel n g := by
  unfold sel
  congr 1
  apply List.filter_congr
  intro k hk
  rw [List.mem_range] at hk
  rw [h k hk]
theorem sel_inj {n : Nat} {f g : Nat → Bool} (h : sel n f = sel n g) : ∀ k, k < n → f k = g k := fun k hk => by
  have h1 : (k : Int) ∈ sel n f ↔ (k : Int) ∈ sel n g := by rw [h]
  rw [mem_sel_nat, mem_sel_nat] at h1
  cases e1 : f k <;> cases e2 : g k <;> simp_all
theorem sel_rise (n : Nat) (f : Nat → Bool) : (sel n f).Pairwise (· < ·) := by
  unfold sel
  refine List.Pairwise.map _ (fun a b (h : a < b) => ?_) (List.Pairwise.filter _ List.pairwise_lt_range)
  omega
theorem sel_nodup (n : Nat) (f : Nat → Bool) : (sel n f).Nodup := (sel_rise n f).imp fun h => Int.ne_of_lt h
theorem hasI_sel {n : Nat} {f : Nat → Bool} {k : Nat} (h : k < n) : hasI (k : Int) (sel n f) = f k := by
  unfold hasI
  cases e : f k with
  | true => exact List.elem_eq_true_of_mem (mem_sel_nat.mpr ⟨h, e⟩)
  | false =>
    cases e2 : (sel n f).contains (k : Int) with
    | false => rfl
    | true =>
      have := mem_sel_nat.mp (List.mem_of_elem_eq_true e2)
      rw [e] at this
      exact absurd this.2 (by decide)
/-- a rising list is what its members choose -/
theorem rise_eq : ∀ {l m : List Int}, l.Pairwise (· < ·) → m.Pairwise (· < ·) → (∀ x, x ∈ l ↔ x ∈ m) → l = m := fun {l m} h1 h2 h => by
  have n1 : l.Nodup := h1.imp fun h => Int.ne_of_lt h
  have n2 : m.Nodup := h2.imp fun h => Int.ne_of_lt h
  exact pw_uniq ((List.perm_ext_iff_of_nodup n1 n2).mpr h) (h1.imp fun h => Int.le_of_lt h) (h2.imp fun h => Int.le_of_lt h)
theorem sel_of {n : Nat} {l : List Int} (h : l.Pairwise (· < ·)) (hb : ∀ x ∈ l, 0 ≤ x ∧ x < n) : l = sel n fun k => hasI (k : Int) l := rise_eq h (sel_rise _ _) fun x => by
  rw [mem_sel]
  constructor
  · intro hx
    obtain ⟨h0, h1⟩ := hb x hx
    refine ⟨x.toNat, by omega, by omega, ?_⟩
    have e : ((x.toNat : Nat) : Int) = x := by omega
    rw [e]
    exact List.elem_eq_true_of_mem hx
  · rintro ⟨k, rfl, _, hk⟩
    exact List.mem_of_elem_eq_true hk
/-! ### equal data -/
theorem can_ints : ∀ ns : List Int, PyData.canLayAll0 (ns.map PyData.int) = true
  | [] => rfl
  | n :: ns => by
    rw [List.map_cons]
    show (PyData.canLay0 (.int n) && PyData.canLayAll0 (ns.map PyData.int)) = true
    rw [can_ints ns]; rfl
theorem depth_ints : ∀ ns : List Int, PyData.depthAll (ns.map PyData.int) = 0
  | [] => rfl
  | n :: ns => by
    rw [List.map_cons]
    show max 0 (PyData.depthAll (ns.map PyData.int)) = 0
    rw [depth_ints ns]; rfl
theorem shaped_ti (ns : List Int) : SeqAt.shaped (ti ns) = true := by
  show (PyData.canLayAll0 (ns.map PyData.int) && decide (PyData.depthAll (ns.map PyData.int) + 1 ≤ 64)) = true
  rw [can_ints, depth_ints]; rfl
theorem shaped_int (i : Int) : SeqAt.shaped (.int i) = true := rfl
theorem shaped_none : SeqAt.shaped .none = true := rfl
theorem shaped_bool (b : Bool) : SeqAt.shaped (.bool b) = true := rfl
theorem shaped_bd (i j : Int) : SeqAt.shaped (bd i j) = true := rfl
theorem eqv_ints : ∀ (a b : List Int), PyData.eqvAll (a.map .int) (b.map .int) = decide (a = b)
  | [], [] => rfl
  | [], _ :: _ => rfl
  | _ :: _, [] => rfl
  | x :: a, y :: b => by
    rw [List.map_cons, List.map_cons]
    show (x == y && PyData.eqvAll (a.map .int) (b.map .int)) = _
    rw [eqv_ints a b]
    by_cases h1 : x = y
    · subst h1
      by_cases h2 : a = b
      · subst h2; simp
      · simp [h2]
    · simp [h1]
theorem eqv_ti (a b : List Int) : PyData.eqv (ti a) (ti b) = decide (a = b) := eqv_ints a b
theorem eqv_int (a b : Int) : PyData.eqv (.int a) (.int b) = decide (a = b) := by
  show (a == b) = decide (a = b)
  exact Bool.beq_eq_decide_eq a b
theorem eqv_bd (a b c d : Int) : PyData.eqv (bd a b) (bd c d) = (decide (a = c) && decide (b = d)) := by
  show (a == c && (b == d && true)) = _
  rw [Bool.and_true, Bool.beq_eq_decide_eq, Bool.beq_eq_decide_eq]
theorem eqv_bool (a b : Bool) : PyData.eqv (.bool a) (.bool b) = (a == b) := rfl
/-! ### draws within calls that draw nothing; tests that draw -/
section
variable {K : PySem.W.Frag} {L : Addr} {Δ Δ1 : Sl} {ta te : TE} {t : TA} {tt tu : TT} {u v : TS} {P : Out → Prop}
theorem er_callD {PL : List Dt → Prop} {PA : Dt → Prop} {F : List Dt → Dt → Prop} {E : XK} (ha : ERA K L t Δ PL) (p : ∀ ds, PL ds → ∃ d, F ds d ∧ PA d) : ER K L (tCall (spD K F) [] E t) Δ PA := fun σ G H Q e s ro q =>
  ha σ G H _ e s ro fun vs ds G1 H1 s1 r1 pd dv => by
    obtain ⟨d, hF, pa⟩ := p ds pd
    exact ⟨G1, ds, d, s1.s, by rw [List.append_nil]; exact dv, hF, fun v G2 H2 s2 d2 => q v d G2 H2 (s1.trans s2.row r1.there) (r1.step s2) pa d2⟩
theorem ert_not {p q : Bool → Prop} (h : ERT K L tt Δ p) (hq : ∀ b, p b → q (!b)) : ERT K L (tNot tt) Δ q := fun σ G H Q e s ro k => h σ G H _ e s ro fun b G1 H1 s1 r1 pb => k _ G1 H1 s1 r1 (hq b pb)
theorem sr_skipR {t : TS} (h : ERT K L tt Δ (fun b => b = false)) (k : SR K L u Δ P) : SR K L (tSeq (tIfS tt t tNext) u) Δ P := fun D σ G H e s ro q =>
  h σ G H _ e s ro fun b G1 H1 s1 r1 pb => by
    subst pb
    exact iteF (k D σ G1 H1 (e.up s1.g) s1.s r1 fun o po => (q o po).step s1 r1)
theorem sr_pass1R {t : TS} (h : ERT K L tt Δ (fun b => b = false)) (k : P (.nx Δ)) : SR K L (tIfS tt t tNext) Δ P := fun D σ G H e s ro q =>
  h σ G H _ e s ro fun b G1 H1 s1 r1 pb => by
    subst pb
    exact iteF (q _ k σ G1 H1 s1 r1 (e.up s1.g))
/-- a target of several names, of a tuple that is drawn -/
theorem sr_unp {g : TG} {PA : Dt → Prop} (h : ER K L te Δ PA) (k : ∀ d, PA d → ∃ Δ1 js, EvG K g Δ d Δ1 js ∧ SR K L u Δ1 P) : SR K L (tSeq (tAsg te g) u) Δ P := fun D σ G H e s ro q =>
  h σ G H _ e s ro fun v d G1 H1 s1 r1 pd dv => by
    obtain ⟨Δ1, js, hg, hu⟩ := k d pd
    exact hg v σ G1 H1 _ (e.up s1.g) s1.s dv fun σ' e' _ => hu D σ' G1 H1 e' s1.s r1 fun o po => (q o po).step s1 r1
/-- tuple(range(n)) -/
theorem ev_tupRg {n : Nat} (h : Ev K te Δ (.int (n : Int))) (hn : n ≤ 100000) : Ev K (tTupRg (tRg1 te)) Δ (ti (sel n fun _ => true)) := fun σ G H Q e s q => h σ G H _ e s fun v G1 H1 s1 dv => by
  cases dv
  refine ⟨(n : Int), rfl, .of_le (by omega) (by omega) (by omega) (by omega), fun p hp => ?_⟩
  have e1 : rgV 0 (n : Int) = (sel n fun _ => true).map V.int := by
    unfold rgV sel
    rw [List.filter_eq_self.mpr fun _ _ => rfl, List.map_map, show ((n : Int) - 0).toNat = n by omega]
    apply List.map_congr_left
    intro i _
    show V.int (0 + (i : Int)) = V.int (i : Int)
    rw [Int.zero_add]
  rw [e1]
  have nn := new_t (ds := (sel n fun _ => true).map PyData.int) s1.s hp (dps_ints (K := K) _)
  exact q _ _ _ (s1.trans nn.1) nn.2
end
section
variable {K : PySem.W.Frag} {Δ : Sl} {te : TE} {x z : Dt} {xs : List Dt} {t u : TS}
theorem rv_ixOT {i : Int} (e : atI xs i = some z) : RV K (rIxO K) (.tuple xs) (.int i) z := fun G H v u Q s a b q => .inl (rv_ixT e G H v u Q s a b q)
theorem rv_ixOL {i : Int} (e : atI xs i = some z) : RV K (rIxO K) (.list xs) (.int i) z := fun G H v u Q s a b q => .inr (rv_ixL e G H v u Q s a b q)
def kTL : Dt → Bool
  | .tuple _ => true
  | .list _ => true
  | _ => false
theorem kit_TL (K : PySem.W.Frag) : ∀ x : Dt, PySem.W.kitAny K (.type (tyN x)) [.type "tuple", .type "list"] = some (kTL x)
  | .none => kitAny_cons (kit_ty (by decide +kernel : kitB "NoneType" "tuple" = some false)) (fun _ => kitAny_cons (kit_ty (by decide +kernel : kitB "NoneType" "list" = some false)) (fun _ => rfl) fun h => nomatch h) fun h => nomatch h
  | .bool _ => kitAny_cons (kit_ty (by decide +kernel : kitB "bool" "tuple" = some false)) (fun _ => kitAny_cons (kit_ty (by decide +kernel : kitB "bool" "list" = some false)) (fun _ => rfl) fun h => nomatch h) fun h => nomatch h
  | .int _ => kitAny_cons (kit_ty (by decide +kernel : kitB "int" "tuple" = some false)) (fun _ => kitAny_cons (kit_ty (by decide +kernel : kitB "int" "list" = some false)) (fun _ => rfl) fun h => nomatch h) fun h => nomatch h
  | .str _ => kitAny_cons (kit_ty (by decide +kernel : kitB "str" "tuple" = some false)) (fun _ => kitAny_cons (kit_ty (by decide +kernel : kitB "str" "list" = some false)) (fun _ => rfl) fun h => nomatch h) fun h => nomatch h
  | .list _ => kitAny_cons (kit_ty (by decide +kernel : kitB "list" "tuple" = some false)) (fun _ => kitAny_cons (kit_ty (by decide +kernel : kitB "list" "list" = some true)) (fun h => nomatch h) fun _ => rfl) fun h => nomatch h
  | .tuple _ => kitAny_cons (kit_ty (by decide +kernel : kitB "tuple" "tuple" = some true)) (fun h => nomatch h) fun _ => rfl
  | .dict _ => kitAny_cons (kit_ty (by decide +kernel : kitB "dict" "tuple" = some false)) (fun _ => kitAny_cons (kit_ty (by decide +kernel : kitB "dict" "list" = some false)) (fun _ => rfl) fun h => nomatch h) fun h => nomatch h
/-- isinstance(x, (tuple, list)) -/
theorem ev_isiTL (h : Ev K te Δ x) : Ev K (tCB (rIsiT K) (tCons te (tCons (tTup (tCons (tC (.ty "tuple")) (tCons (tC (.ty "list")) tNil))) tNil))) Δ (.bool (kTL x)) := fun σ G H Q e s q => h σ G H _ e s fun v G1 H1 s1 dv =>
  ⟨by show 2 ≤ sizeLine; decide, fun p hp => ⟨v, p, [.ty "tuple", .ty "list"], _, [.type "tuple", .type "list"], kTL x, rfl, upd_same, .cons (.ty _) (.cons (.ty _) .nil), tyx_of (s1.s.trans (.new hp)) dv, kit_TL K x, q _ _ _ (s1.trans (.hid s1.s hp)) (.bl _)⟩⟩
end
end Sb

/-! Seamboard, layer 6: texts. -/
namespace Sb
open PySem PySem.Spec PyProof.Rows L2
abbrev dS (z : Str) : Dt := .str z
/-- one sign -/
abbrev sg (c : Nat) : Str := ⟨#[c]⟩
def rCatS : R2 := fun x y H Q => ∃ i j, x = .str i ∧ y = .str j ∧ i.length + j.length ≤ sizeLine ∧ Q (.str (i ++ j)) H
def rLenS : List V → Hp → VK → Prop := fun xs H Q => ∃ z, xs = [.str z] ∧ z.length ≤ sizeLine ∧ Q (.int z.length) H
def rInC : R2 := fun x y H Q => ∃ (c : Nat) (z : Str), x = .str ⟨#[c]⟩ ∧ y = .str z ∧ Q (.bl (decide (c ∈ z.cps.toList))) H
def rNiC : R2 := fun x y H Q => ∃ (c : Nat) (z : Str), x = .str ⟨#[c]⟩ ∧ y = .str z ∧ Q (.bl (!decide (c ∈ z.cps.toList))) H
def rJoin (K : PySem.W.Frag) : V → List V → Hp → VK → Prop := fun x xs H Q => ∃ a p, ∃ ys : List Str, x = .str a ∧ xs = [.ref p] ∧ (SqL K H p (ys.map V.str) ∨ SqT K H p (ys.map V.str)) ∧
  (ys.map (·.length)).sum + ys.length * a.length ≤ 16777216 ∧ Q (.str (Txt.join a ys)) H
def rSplit : V → List V → Hp → VK → Prop := fun x xs H Q => ∃ a b, x = .str a ∧ xs = [.str b] ∧ (b.length == 0) = false ∧ a.length + 2 ≤ sizeLine ∧ rNewStrs (Txt.split a b) H Q
section
variable {X : Cx} {K : PySem.W.Frag} {o e : Expr} {to te : TE}
theorem op_catSK : OpR X (binaryOp .Add) rCatS := op_add_str
theorem kc_lenS : CallR X (.builtin "len") rLenS := call_len_str
theorem op_inC : OpR X (compareOp .In) rInC := op_in_sign
theorem op_niC : OpR X (compareOp .NotIn) rNiC := op_notIn_sign
theorem pe_joinK {apos pos : Pos} (q : X.K = K) (ho : PE X o to) (he : PE X e te) (hs : starEach [e] X.env = [(false, eval e X.env)] := by rfl) (hbase : attributeBase o "join" X.env (eval o X.env) = eval o X.env := by rfl) (hline : (apos.endLine == pos.line) = true := by rfl) :
    PE X (.Call (.Attribute o "join" apos) [e] [] pos) (tM1 (rJoin K) to te) := q ▸ pe_join ho he hs hbase hline
theorem pe_splitK {apos pos : Pos} (ho : PE X o to) (he : PE X e te) (hs : starEach [e] X.env = [(false, eval e X.env)] := by rfl) (hbase : attributeBase o "split" X.env (eval o X.env) = eval o X.env := by rfl) (hline : (apos.endLine == pos.line) = true := by rfl) :
    PE X (.Call (.Attribute o "split" apos) [e] [] pos) (tM1 rSplit to te) := pe_split ho he hs hbase hline
end
section
variable {K : PySem.W.Frag} {Δ : Sl} {ta tb te to : TE} {xs ds : List Dt}
theorem rv_catS {a b : Str} (h : a.length + b.length ≤ 100000) : RV K rCatS (.str a) (.str b) (.str (a ++ b)) := fun G H v u Q s x y q => by
  cases x; cases y; exact ⟨a, b, rfl, rfl, Evl.sz_of h, q _ G H (.refl s) (.str _)⟩
theorem rv_ixS {z : Str} {i : Int} {c : Nat} (hl : z.length ≤ 100000) (e : atI z.cps.toList i = some c) : RV K rIxS (.str z) (.int i) (.str (sg c)) := fun G H v u Q s x y q => by
  cases x; cases y; exact ⟨z, i, c, rfl, rfl, Evl.sz_of hl, e, q _ G H (.refl s) (.str _)⟩
theorem rc_lenS {z : Str} (h : z.length ≤ 100000) : RC K rLenS [.str z] (.int (z.length : Int)) := fun G H vs Q s h2 q => by
  cases h2 with
  | cons a b => cases b; cases a; exact ⟨z, rfl, Evl.sz_of h, q _ G H (.refl s) (.int _)⟩
theorem rv_inC {c : Nat} {z : Str} : RV K rInC (.str (sg c)) (.str z) (.bool (decide (c ∈ z.cps.toList))) := fun G H v u Q s x y q => by
  cases x; cases y; exact ⟨c, z, rfl, rfl, q _ G H (.refl s) (.bl _)⟩
theorem rv_niC {c : Nat} {z : Str} : RV K rNiC (.str (sg c)) (.str z) (.bool (!decide (c ∈ z.cps.toList))) := fun G H v u Q s x y q => by
  cases x; cases y; exact ⟨c, z, rfl, rfl, q _ G H (.refl s) (.bl _)⟩
theorem strs_of : ∀ {ys : List Str} {vs : List V} {G : Hp}, DpAll K G vs (ys.map PyData.str) → vs = ys.map V.str
  | [], _, _, h => by cases h; rfl
  | y :: ys, _, _, h => by
    rw [List.map_cons] at h
    cases h with
    | cons a b => cases a; rw [strs_of b, List.map_cons]
theorem dps_strs {G : Hp} : ∀ (ys : List Str), DpAll K G (ys.map V.str) (ys.map PyData.str)
  | [] => .nil
  | y :: ys => .cons (.str y) (dps_strs ys)
theorem ev_joinL {a : Str} {ys : List Str} (h1 : Ev K to Δ (.str a)) (h2 : Ev K te Δ (.list (ys.map .str))) (hl : (ys.map (·.length)).sum + ys.length * a.length ≤ 16777216) : Ev K (tM1 (rJoin K) to te) Δ (.str (Txt.join a ys)) := fun σ G H Q e s q =>
  h1 σ G H _ e s fun v G1 H1 s1 d1 => by
    cases d1
    exact ⟨⟨_, rfl⟩, h2 σ G1 H1 _ (e.up s1.g) s1.s fun u G2 H2 s2 d2 => by
      cases d2 with
      | lst h3 h4 =>
        have e := strs_of h4
        subst e
        exact ⟨a, _, ys, rfl, rfl, .inl (gr_l s2.s h3), hl, q _ _ _ (s1.trans s2) (.str _)⟩⟩
theorem ev_joinT {a : Str} {ys : List Str} (h1 : Ev K to Δ (.str a)) (h2 : Ev K te Δ (.tuple (ys.map .str))) (hl : (ys.map (·.length)).sum + ys.length * a.length ≤ 16777216) : Ev K (tM1 (rJoin K) to te) Δ (.str (Txt.join a ys)) := fun σ G H Q e s q =>
  h1 σ G H _ e s fun v G1 H1 s1 d1 => by
    cases d1
    exact ⟨⟨_, rfl⟩, h2 σ G1 H1 _ (e.up s1.g) s1.s fun u G2 H2 s2 d2 => by
      cases d2 with
      | tup h3 h4 =>
        have e := strs_of h4
        subst e
        exact ⟨a, _, ys, rfl, rfl, .inr (gr_t s2.s h3), hl, q _ _ _ (s1.trans s2) (.str _)⟩⟩
theorem en_split {a b : Str} (h1 : Ev K to Δ (.str a)) (h2 : Ev K te Δ (.str b)) (hb : (b.length == 0) = false) (hl : a.length ≤ 90000) : EvN K (tM1 rSplit to te) Δ ((Txt.split a b).map .str) := fun σ G H Q e s q =>
  h1 σ G H _ e s fun v G1 H1 s1 d1 => by
    cases d1
    exact ⟨⟨_, rfl⟩, h2 σ G1 H1 _ (e.up s1.g) s1.s fun u G2 H2 s2 d2 => by
      cases d2
      refine ⟨a, b, rfl, rfl, hb, Evl.sz_of (by omega), fun p hp => ?_⟩
      have n := new_n (ds := (Txt.split a b).map PyData.str) s2.s hp (dps_strs (K := K) _)
      exact q _ _ _ _ ((s1.trans s2).trans n.1) n.2.1 n.2.2⟩
theorem walkD_str {G : Hp} {z : Str} : WalkD K (Its z) G (z.cps.toList.map fun c => .str (sg c)) where
  go := fun i G1 H1 a b hi => by rw [List.length_map, Array.length_toList] at hi; exact hi
  stop := fun G1 H1 a b => by rw [List.length_map, Array.length_toList]; exact Nat.le_refl _
  yld := fun i G1 H1 x H2 a b hi y => by
    obtain ⟨e, c, hc, rfl⟩ := y
    subst e
    refine ⟨G1, _, .refl b, ?_, .str _⟩
    rw [List.getElem?_map, Array.getElem?_toList, hc]; rfl
theorem ei_str {z : Str} (h : Ev K te Δ (.str z)) : EvI K (iStr te) Δ (z.cps.toList.map fun c => .str (sg c)) := fun σ G H R e s q => h σ G H _ e s fun v G1 H1 s1 dv => by
  cases dv
  exact ⟨z, rfl, q _ _ _ s1 walkD_str⟩
/-- a text, a number, a truth or none among such -/
def flatD : Dt → Bool
  | .none => true
  | .bool _ => true
  | .int _ => true
  | .str _ => true
  | _ => false
def inD (x : Dt) (ys : List Dt) : Bool := ys.any fun y => PyData.eqv y x
theorem flat_v {G : Hp} {v : V} {d : Dt} (h : Dp K G v d) (f : flatD d = true) : flatV v = true := by cases h <;> first | rfl | cases f
theorem flats_v {G : Hp} : ∀ {vs : List V} {ds : List Dt}, DpAll K G vs ds → ds.all flatD = true → vs.all flatV = true
  | _, _, .nil, _ => rfl
  | _, _, .cons a b, f => by
    rw [List.all_cons, Bool.and_eq_true] at f
    rw [List.all_cons, flat_v a f.1, flats_v b f.2]; rfl
theorem eqv_v {G : Hp} {v u : V} {x y : Dt} (hx : Dp K G v x) (hy : Dp K G u y) (fx : flatD x = true) (fy : flatD y = true) : eqV v u = PyData.eqv x y := by
  cases hx <;> cases hy <;> first | rfl | (exfalso; cases fx; done) | (exfalso; cases fy; done)
theorem inV_v {G : Hp} {v : V} {x : Dt} (hx : Dp K G v x) (fx : flatD x = true) : ∀ {vs : List V} {ds : List Dt}, DpAll K G vs ds → ds.all flatD = true → inV v vs = inD x ds
  | _, _, .nil, _ => rfl
  | _, _, .cons a b, f => by
    rw [List.all_cons, Bool.and_eq_true] at f
    have ih := inV_v hx fx b f.2
    unfold inV inD at ih ⊢
    rw [List.any_cons, List.any_cons, ih, eqv_v a hx f.1 fx]
theorem rv_inLD {x : Dt} {ds : List Dt} (fx : flatD x = true) (fs : ds.all flatD = true) : RV K (rIn K false) x (.list ds) (.bool (inD x ds)) := fun G H v u Q s a b q => by
  cases b with
  | lst h1 h2 =>
    refine ⟨_, _, rfl, .inl (gr_l s h1), flat_v a fx, flats_v h2 fs, ?_⟩
    show Q (.bl (inV v _)) H
    rw [inV_v a fx h2 fs]
    exact q _ G H (.refl s) (.bl _)
theorem rv_inTD {x : Dt} {ds : List Dt} (fx : flatD x = true) (fs : ds.all flatD = true) : RV K (rIn K false) x (.tuple ds) (.bool (inD x ds)) := fun G H v u Q s a b q => by
  cases b with
  | tup h1 h2 =>
    refine ⟨_, _, rfl, .inr (gr_t s h1), flat_v a fx, flats_v h2 fs, ?_⟩
    show Q (.bl (inV v _)) H
    rw [inV_v a fx h2 fs]
    exact q _ G H (.refl s) (.bl _)
end
end Sb

/-! Seamboard, layer 7: lists that change, kept apart from what stands for good. -/
namespace Sb
open PySem PySem.Spec PyProof.Rows L2
inductive Mo where
  | l (ds : List Dt)
  | d (kds : List (Key × Dt))
/-- a dict's pairs: the same keys, the values as data -/
inductive KdOk (K : PySem.W.Frag) (G : Hp) : List (Key × V) → List (Key × Dt) → Prop where
  | nil : KdOk K G [] []
  | cons {k : Key} {v : V} {d : Dt} {kvs : List (Key × V)} {kds : List (Key × Dt)} : Dp K G v d → KdOk K G kvs kds → KdOk K G ((k, v) :: kvs) ((k, d) :: kds)
def MoOk (K : PySem.W.Frag) (G : Hp) (o : HO) : Mo → Prop
  | .l ds => ∃ vs, o = .lst vs ∧ DpAll K G vs ds
  | .d kds => ∃ kvs, o = .dK kvs ∧ KdOk K G kvs kds
theorem kd_up {K : PySem.W.Frag} {G G2 : Hp} (e : Gr G G2) : ∀ {kvs : List (Key × V)} {kds : List (Key × Dt)}, KdOk K G kvs kds → KdOk K G2 kvs kds
  | _, _, .nil => .nil
  | _, _, .cons a b => .cons (Dpu a e) (kd_up e b)
abbrev Mt := List (Addr × Mo)
/-- M lies apart: new since H0, not among G -/
structure Own (K : PySem.W.Frag) (H0 G H : Hp) (M : Mt) : Prop where
  nd : (M.map (·.1)).Nodup
  at_ : ∀ p m, (p, m) ∈ M → H0 p = none ∧ G p = none ∧ ∃ o, H p = some o ∧ MoOk K G o m
inductive OutM where
  | nx (Δ : Sl) (M : Mt) | bk (Δ : Sl) (M : Mt) | ct (Δ : Sl) (M : Mt) | rt (d : Dt) | rl (ds : List Dt)
def PostM (K : PySem.W.Frag) (D : Ends) (G0 H0 : Hp) : OutM → Prop
  | .nx Δ M => ∀ σ G H, Stp G0 H0 G H → En K G σ Δ → Own K H0 G H M → D.nx σ H
  | .bk Δ M => ∀ σ G H, Stp G0 H0 G H → En K G σ Δ → Own K H0 G H M → D.bk σ H
  | .ct Δ M => ∀ σ G H, Stp G0 H0 G H → En K G σ Δ → Own K H0 G H M → D.ct σ H
  | .rt d => ∀ v G H, Stp G0 H0 G H → Dp K G v d → D.rt v H
  | .rl ds => ∀ p vs G H, Stp G0 H0 G H → G p = some (.lst vs) → DpAll K G vs ds → D.rt (.ref p) H
def SM (K : PySem.W.Frag) (t : TS) (Δ : Sl) (M : Mt) (o : OutM) : Prop :=
  ∀ (D : Ends) (σ : L2.St) (G0 H0 G H : Hp), Stp G0 H0 G H → En K G σ Δ → Own K H0 G H M → PostM K D G0 H0 o → t D σ H
def Out.wM : Out → Mt → OutM
  | .nx Δ, M => .nx Δ M
  | .bk Δ, M => .bk Δ M
  | .ct Δ, M => .ct Δ M
  | .rt d, _ => .rt d
  | .rl ds, _ => .rl ds
section
variable {K : PySem.W.Frag} {G0 H0 G H G2 H2 : Hp} {M M1 M2 : Mt} {Δ Δ1 Δ2 : Sl} {σ : L2.St} {t u : TS} {o : OutM} {p : Addr} {d : Dt} {ds : List Dt} {te ta tb : TE} {tt : TT} {m : Mo}
theorem moOk_up {a : HO} (h : MoOk K G a m) (e : Gr G G2) : MoOk K G2 a m := by
  cases m with
  | l ds => obtain ⟨vs, a, b⟩ := h; exact ⟨vs, a, Dpsu b e⟩
  | d kds => obtain ⟨kvs, a, b⟩ := h; exact ⟨kvs, a, kd_up e b⟩
theorem Own.step (w : Own K H0 G H M) (s : Stp G H G2 H2) : Own K H0 G2 H2 M :=
  ⟨w.nd, fun p m hm => by
    obtain ⟨a, b, o, c, e⟩ := w.at_ p m hm
    exact ⟨a, s.f p (by rw [c]; simp) b, o, s.h p o c, moOk_up e s.g⟩⟩
theorem Own.nil : Own K H0 G H [] := ⟨List.nodup_nil, fun _ _ h => nomatch h⟩
theorem Own.sub (w : Own K H0 G H M) (s : M2.Sublist M) : Own K H0 G H M2 := ⟨List.Sublist.nodup (s.map _) w.nd, fun p m hm => w.at_ p m (s.subset hm)⟩
/-- what stands for good goes back, flat things are known all the same -/
theorem dp_flat {v : V} (h : Dp K G v d) (f : flatD d = true) : Dp K G2 v d := by
  cases h with
  | non => exact .non
  | bl b => exact .bl b
  | int i => exact .int i
  | str x => exact .str x
  | lst _ _ => cases f
  | tup _ _ => cases f
/-! reading -/
inductive Fz (M : Mt) (Δ : Sl) : Sl → Prop
  | refl : Fz M Δ Δ
  | step {Δ' : Sl} (i : Nat) (p : Addr) (ds : List Dt) : Fz M Δ Δ' → Δ[i]? = some (some (.r p)) → (p, Mo.l ds) ∈ M → Fz M Δ (Δ'.set i (some (.l ds)))
def allG (G H : Hp) (M : Mt) : Hp := fun a => if a ∈ M.map (·.1) then H a else G a
theorem allG_gr (w : Own K H0 G H M) : Gr G (allG G H M) := fun a o e => by
  unfold allG
  by_cases h : a ∈ M.map (·.1)
  · obtain ⟨⟨p, m⟩, hm, rfl⟩ := List.mem_map.mp h
    have := (w.at_ _ _ hm).2.1
    rw [this] at e
    cases e
  · rw [if_neg h]; exact e
theorem allG_le (s : Gr G H) : Gr (allG G H M) H := fun a o e => by
  unfold allG at e
  by_cases h : a ∈ M.map (·.1)
  · rw [if_pos h] at e; exact e
  · rw [if_neg h] at e; exact s a o e
theorem fz_en (w : Own K H0 G H M) (e : En K G σ Δ) (f : Fz M Δ Δ1) : En K (allG G H M) σ Δ1 := by
  induction f with
  | refl => exact e.up (allG_gr w)
  | @step Δ' i p ds f hi hm ih =>
    obtain ⟨v, hv, hw⟩ := e.at_ i _ hi
    obtain ⟨_, _, o, c, vs, x, y⟩ := w.at_ _ _ hm
    subst x
    have hp : allG G H M p = some (.lst vs) := by
      unfold allG
      rw [if_pos (List.mem_map.mpr ⟨_, hm, rfl⟩)]; exact c
    refine ⟨by rw [ih.len, List.length_set], fun j u hj => ?_⟩
    by_cases q : j = i
    · subst q
      have hl : j < (Δ'.set j (some (.l ds))).length := (List.getElem?_eq_some_iff.mp hj).1
      rw [List.length_set] at hl
      rw [List.getElem?_set_self hl] at hj
      cases hj
      cases hw
      exact ⟨_, hv, p, vs, rfl, hp, Dpsu y (allG_gr w)⟩
    · rw [List.getElem?_set_ne (Ne.symm q)] at hj
      exact ih.at_ j u hj
def EvM (K : PySem.W.Frag) (te : TE) (Δ : Sl) (M : Mt) (d : Dt) : Prop :=
  ∀ (σ : L2.St) (H0 G H : Hp) (Q : VK), En K G σ Δ → Gr G H → Own K H0 G H M → (∀ v G2 H2, Stp G H G2 H2 → Dp K G2 v d → Q v H2) → te σ H Q
def EvTM (K : PySem.W.Frag) (tt : TT) (Δ : Sl) (M : Mt) (b : Bool) : Prop :=
  ∀ (σ : L2.St) (H0 G H : Hp) (Q : Bool → Hp → Prop), En K G σ Δ → Gr G H → Own K H0 G H M → (∀ G2 H2, Stp G H G2 H2 → Q b H2) → tt σ H Q
theorem em_of (h : Ev K te Δ d) : EvM K te Δ M d := fun σ H0 G H Q e s _ q => h σ G H Q e s q
theorem etm_of {b : Bool} (h : EvT K tt Δ b) : EvTM K tt Δ M b := fun σ H0 G H Q e s _ q => h σ G H Q e s q
/-- what is read of lists that change, if it's flat -/
theorem em_thaw (f : Fz M Δ Δ1) (h : Ev K te Δ1 d) (fl : flatD d = true) : EvM K te Δ M d := fun σ H0 G H Q e s w q =>
  h σ (allG G H M) H _ (fz_en w e f) (allG_le s) fun v G1 H1 s1 dv => q v G H1 ⟨.refl _, s.trans s1.h, s1.h, fun _ _ h => h⟩ (dp_flat dv fl)
theorem etm_thaw {b : Bool} (f : Fz M Δ Δ1) (h : EvT K tt Δ1 b) : EvTM K tt Δ M b := fun σ H0 G H Q e s w q =>
  h σ (allG G H M) H _ (fz_en w e f) (allG_le s) fun G1 H1 s1 => q G H1 ⟨.refl _, s.trans s1.h, s1.h, fun _ _ h => h⟩
/-- an item, whatever it is -/
theorem em_ix {i : Nat} {k : Int} (hi : Δ[i]? = some (some (.r p))) (hm : (p, Mo.l ds) ∈ M) (hk : Ev K tb Δ (.int k)) (e : atI ds k = some d) : EvM K (tOp (rIxL K) (tVar i) tb) Δ M d := fun σ H0 G H Q en s w q => by
  obtain ⟨v, hv, hw⟩ := en.at_ i _ hi
  cases hw
  refine ⟨_, hv, hk σ G H _ en s fun u G1 H1 s1 du => ?_⟩
  cases du
  obtain ⟨_, _, o, c, vs, x, y⟩ := w.at_ _ _ hm
  subst x
  obtain ⟨z, hz, dz⟩ := at_of y e
  exact ⟨p, vs, k, z, rfl, rfl, SqL.of (s1.h _ _ c), hz, q _ G1 H1 s1 (Dpu dz s1.g)⟩
/-! statements -/
theorem sm_of {a : Out} (h : Sx K t Δ a) : SM K t Δ M (a.wM M) := fun D σ G0 H0 G H s e w p => h D σ G H e s.s (by
  cases a with
  | nx Δ => exact fun σ G2 H2 s2 e2 => p σ G2 H2 (s.trans s2) e2 (w.step s2)
  | bk Δ => exact fun σ G2 H2 s2 e2 => p σ G2 H2 (s.trans s2) e2 (w.step s2)
  | ct Δ => exact fun σ G2 H2 s2 e2 => p σ G2 H2 (s.trans s2) e2 (w.step s2)
  | rt d => exact fun v G2 H2 s2 e2 => p v G2 H2 (s.trans s2) e2
  | rl ds => exact fun a vs G2 H2 s2 h e2 => p a vs G2 H2 (s.trans s2) h e2)
theorem sx_ofM (h : SM K t Δ [] (.nx Δ1 M1)) : Sx K t Δ (.nx Δ1) := fun D σ G H e s p => h D σ G H G H (.refl s) e .nil fun σ G2 H2 s2 e2 _ => p σ G2 H2 s2 e2
theorem sx_ofMr (h : SM K t Δ [] (.rt d)) : Sx K t Δ (.rt d) := fun D σ G H e s p => h D σ G H G H (.refl s) e .nil p
theorem sx_ofMl (h : SM K t Δ [] (.rl ds)) : Sx K t Δ (.rl ds) := fun D σ G H e s p => h D σ G H G H (.refl s) e .nil p
theorem sm_seq (h1 : SM K t Δ M (.nx Δ1 M1)) (h2 : SM K u Δ1 M1 o) : SM K (tSeq t u) Δ M o := fun D σ G0 H0 G H s e w p =>
  h1 { D with nx := u D } σ G0 H0 G H s e w fun σ1 G1 H1 s1 e1 w1 => h2 D σ1 G0 H0 G1 H1 s1 e1 w1 p
theorem sm_seqR (h1 : SM K t Δ M (.rt d)) : SM K (tSeq t u) Δ M (.rt d) := fun D σ G0 H0 G H s e w p => h1 { D with nx := u D } σ G0 H0 G H s e w p
theorem sm_seqRL (h1 : SM K t Δ M (.rl ds)) : SM K (tSeq t u) Δ M (.rl ds) := fun D σ G0 H0 G H s e w p => h1 { D with nx := u D } σ G0 H0 G H s e w p
theorem sm_seqC (h1 : SM K t Δ M (.ct Δ1 M1)) : SM K (tSeq t u) Δ M (.ct Δ1 M1) := fun D σ G0 H0 G H s e w p => h1 { D with nx := u D } σ G0 H0 G H s e w p
theorem sm_seqB (h1 : SM K t Δ M (.bk Δ1 M1)) : SM K (tSeq t u) Δ M (.bk Δ1 M1) := fun D σ G0 H0 G H s e w p => h1 { D with nx := u D } σ G0 H0 G H s e w p
theorem sm_nil : SM K tNext Δ M (.nx Δ M) := fun D σ G0 H0 G H s e w p => p σ G H s e w
theorem sm_weak (h : SM K t Δ M (.nx Δ1 M1)) (l : Lt Δ1 Δ2) (b : M2.Sublist M1) : SM K t Δ M (.nx Δ2 M2) := fun D σ G0 H0 G H s e w p => h D σ G0 H0 G H s e w fun σ1 G1 H1 s1 e1 w1 => p σ1 G1 H1 s1 (e1.weak l) (w1.sub b)
theorem sm_pre (h : SM K t Δ2 M2 o) (l : Lt Δ Δ2) (b : M2.Sublist M) : SM K t Δ M o := fun D σ G0 H0 G H s e w p => h D σ G0 H0 G H s (e.weak l) (w.sub b) p
theorem sm_asg {i : Nat} (h : EvM K te Δ M d) : SM K (tAsg te (gName i)) Δ M (.nx (Δ.set i (some (.d d))) M) := fun D σ G0 H0 G H s e w p =>
  h σ H0 G H _ e s.s w fun v G1 H1 s1 dv => p _ _ _ (s.trans s1) ((e.up s1.g).set i dv) (w.step s1)
theorem sm_let {i : Nat} (h : EvM K te Δ M d) (k : SM K u (Δ.set i (some (.d d))) M o) : SM K (tSeq (tAsg te (gName i)) u) Δ M o := sm_seq (sm_asg h) k
theorem sm_ret (h : EvM K te Δ M d) : SM K (tRet te) Δ M (.rt d) := fun D σ G0 H0 G H s e w p => h σ H0 G H _ e s.s w fun v G1 H1 s1 dv => p v G1 H1 (s.trans s1) dv
theorem sm_drop (h : EvM K te Δ M d) : SM K (tDrop te) Δ M (.nx Δ M) := fun D σ G0 H0 G H s e w p => h σ H0 G H _ e s.s w fun v G1 H1 s1 _ => p _ _ _ (s.trans s1) (e.up s1.g) (w.step s1)
theorem sm_if {b : Bool} (h : EvTM K tt Δ M b) (h1 : b = true → SM K t Δ M o) (h2 : b = false → SM K u Δ M o) : SM K (tIfS tt t u) Δ M o := fun D σ G0 H0 G H s e w p => h σ H0 G H _ e s.s w fun G1 H1 s1 => by
  cases b with
  | true => exact iteT (h1 rfl D σ G0 H0 G1 H1 (s.trans s1) (e.up s1.g) (w.step s1) p)
  | false => exact iteF (h2 rfl D σ G0 H0 G1 H1 (s.trans s1) (e.up s1.g) (w.step s1) p)
theorem sm_skip (h : EvTM K tt Δ M false) (k : SM K u Δ M o) : SM K (tSeq (tIfS tt t tNext) u) Δ M o := sm_seq (sm_if h (fun e => nomatch e) fun _ => sm_nil) k
/-- a new list that will change -/
theorem own_new (w : Own K H0 G H M) (s : Stp G0 H0 G H) (hp : H p = none) {o : HO} (ok : MoOk K G o m) : Own K H0 G (upd H p o) ((p, m) :: M) := by
  have np : p ∉ M.map (·.1) := fun h => by
    obtain ⟨⟨q, m⟩, hm, e⟩ := List.mem_map.mp h
    obtain ⟨_, _, o, c, _⟩ := w.at_ _ _ hm
    cases e
    rw [hp] at c
    cases c
  refine ⟨List.nodup_cons.mpr ⟨np, w.nd⟩, fun q m hm => ?_⟩
  rcases List.mem_cons.mp hm with h | h
  · cases h
    exact ⟨s.h.back hp, s.s.back hp, _, upd_same, ok⟩
  · obtain ⟨a, b, o, c, e⟩ := w.at_ _ _ h
    have : q ≠ p := fun z => by subst z; rw [hp] at c; cases c
    exact ⟨a, b, o, by rw [upd_ne this]; exact c, e⟩
theorem sm_newL {ta : TA} {i : Nat} (ha : EvA K ta Δ ds) (hl : ds.length ≤ 100000) (k : ∀ p, SM K u (Δ.set i (some (.r p))) ((p, .l ds) :: M) o) : SM K (tSeq (tAsg (tLst ta) (gName i)) u) Δ M o := fun D σ G0 H0 G H s e w p =>
  ha σ G H _ e s.s fun vs G1 H1 s1 dv => ⟨by rw [dps_len dv]; exact Evl.sz_of hl, fun c hc =>
    k c D _ G0 H0 G1 _ ((s.trans s1).trans (.hid s1.s hc)) ((e.up s1.g).set (w := .r c) i rfl) (own_new (w.step s1) (s.trans s1) hc ⟨vs, rfl, dv⟩) p⟩
theorem sm_newRep {i : Nat} {n : Int} (ha : EvN K ta Δ ds) (hb : Ev K tb Δ (.int n)) (h0 : 0 ≤ n) (hn : n ≤ 1000) (hl : ds.length ≤ 100) (k : ∀ p, SM K u (Δ.set i (some (.r p))) ((p, .l (List.replicate n.toNat ds).flatten) :: M) o) : SM K (tSeq (tAsg (tOp rRep ta tb) (gName i)) u) Δ M o := fun D σ G0 H0 G H s e w p =>
  sx_hidRep (D := D) (u := u) ha hb h0 hn hl e s.s fun c vs G1 H1 s1 hc dv => k c D _ G0 H0 G1 _ ((s.trans s1).trans (.hid s1.s hc)) ((e.up s1.g).set (w := .r c) i rfl) (own_new (w.step s1) (s.trans s1) hc ⟨_, rfl, dps_rep dv _⟩) p
theorem mem_mid : (p, m) ∈ M1 ++ (p, m) :: M2 := List.mem_append_right _ List.mem_cons_self
theorem mid_ne (nd : ((M1 ++ (p, m) :: M2).map (·.1)).Nodup) {q : Addr} {m' : Mo} (h : (q, m') ∈ M1 ++ M2) : q ≠ p := fun e => by
  subst e
  rw [List.map_append, List.map_cons] at nd
  have n2 := List.nodup_append.mp nd
  rcases List.mem_append.mp h with h | h
  · exact n2.2.2 _ (List.mem_map.mpr ⟨_, h, rfl⟩) _ List.mem_cons_self rfl
  · exact (List.nodup_cons.mp n2.2.1).1 (List.mem_map.mpr ⟨_, h, rfl⟩)
/-- it is written -/
theorem own_put (w : Own K H0 G H (M1 ++ (p, m) :: M2)) {m2 : Mo} {o2 : HO} (ok : MoOk K G o2 m2) : Own K H0 G (upd H p o2) (M1 ++ (p, m2) :: M2) := by
  refine ⟨by have := w.nd; rw [List.map_append, List.map_cons] at this ⊢; exact this, fun q m' hm => ?_⟩
  obtain ⟨a, b, _⟩ := w.at_ p _ mem_mid
  have rest : (q, m') ∈ M1 ++ M2 → H0 q = none ∧ G q = none ∧ ∃ o, (upd H p o2) q = some o ∧ MoOk K G o m' := fun h => by
    have ne := mid_ne w.nd h
    have h2 : (q, m') ∈ M1 ++ (p, m) :: M2 := by
      rcases List.mem_append.mp h with h | h
      · exact List.mem_append_left _ h
      · exact List.mem_append_right _ (List.mem_cons_of_mem _ h)
    obtain ⟨a, b, o, c, e⟩ := w.at_ _ _ h2
    exact ⟨a, b, o, by rw [upd_ne ne]; exact c, e⟩
  rcases List.mem_append.mp hm with h | h
  · exact rest (List.mem_append_left _ h)
  · rcases List.mem_cons.mp h with h | h
    · cases h
      exact ⟨a, b, _, upd_same, ok⟩
    · exact rest (List.mem_append_right _ h)
theorem sm_append {i : Nat} (hi : Δ[i]? = some (some (.r p))) (h : EvM K te Δ (M1 ++ (p, .l ds) :: M2) d) (hl : ds.length < 100000) :
    SM K (tDrop (tBM K "list" rAppend (tVar i) (tCons te tNil))) Δ (M1 ++ (p, .l ds) :: M2) (.nx Δ (M1 ++ (p, .l (ds ++ [d])) :: M2)) := fun D σ G0 H0 G H s e w q => by
  obtain ⟨v, hv, hw⟩ := e.at_ i _ hi
  cases hw
  obtain ⟨a, b, o, c, vs, x, y⟩ := w.at_ p _ mem_mid
  subst x
  refine ⟨_, hv, .inl ⟨rfl, _, SqL.of c⟩, h σ H0 G H _ e s.s w fun z G1 H1 s1 dz => ?_⟩
  have w1 := w.step s1
  have c1 := s1.h _ _ c
  have n1 := (w1.at_ p _ mem_mid).2.1
  refine ⟨p, vs, z, rfl, rfl, c1, ?_, q σ G1 _ ((s.trans s1).put a n1) (e.up s1.g) (own_put w1 ⟨_, rfl, dps_app (Dpsu y s1.g) (.cons dz .nil)⟩)⟩
  rw [dps_len y]
  exact Evl.sz_lt (by omega)
/-- from now on it stands for good -/
theorem sm_frz {i : Nat} (hi : Δ[i]? = some (some (.r p))) (k : SM K t (Δ.set i (some (.l ds))) (M1 ++ M2) o) : SM K t Δ (M1 ++ (p, .l ds) :: M2) o := fun D σ G0 H0 G H s e w q => by
  obtain ⟨v, hv, hw⟩ := e.at_ i _ hi
  cases hw
  obtain ⟨a, b, o, c, vs, x, y⟩ := w.at_ p _ mem_mid
  subst x
  have g2 : Gr G (upd G p (.lst vs)) := .new b
  refine k D σ G0 H0 (upd G p (.lst vs)) H (s.show a b c) ?_ ?_ q
  · have e2 := (e.up g2).set (v := .ref p) (w := .l ds) i ⟨p, vs, rfl, upd_same, Dpsu y g2⟩
    have e3 : σ.set i (some (.ref p)) = σ := by
      apply List.ext_getElem?
      intro j
      by_cases z : j = i
      · subst z
        rw [List.getElem?_set_self (List.getElem?_eq_some_iff.mp hv).1, hv]
      · rw [List.getElem?_set_ne (Ne.symm z)]
    rw [e3] at e2
    exact e2
  · refine ⟨List.Sublist.nodup (List.Sublist.map _ (List.Sublist.append (List.Sublist.refl M1) (List.sublist_cons_self _ M2))) w.nd, fun r m hm => ?_⟩
    have ne := mid_ne w.nd hm
    have h2 : (r, m) ∈ M1 ++ (p, .l ds) :: M2 := by
      rcases List.mem_append.mp hm with h | h
      · exact List.mem_append_left _ h
      · exact List.mem_append_right _ (List.mem_cons_of_mem _ h)
    obtain ⟨a, b, o, c, z⟩ := w.at_ _ _ h2
    exact ⟨a, by rw [upd_ne ne]; exact b, o, c, moOk_up z g2⟩
def lowH (H : Hp) (M : Mt) : Hp := fun a => if a ∈ M.map (·.1) then none else H a
theorem lowH_le : Gr (lowH H M) H := fun a o e => by
  unfold lowH at e
  split at e
  · cases e
  · exact e
theorem low_stp (s : Stp G0 H0 G H) (w : Own K H0 G H M) : Stp G0 H0 G (lowH H M) ∧ Stp G (lowH H M) G H ∧ Own K (lowH H M) G H M := by
  have out : ∀ a o, (G a = some o ∨ H0 a = some o) → a ∉ M.map (·.1) := fun a o e h => by
    obtain ⟨⟨q, m⟩, hm, z⟩ := List.mem_map.mp h
    cases z
    obtain ⟨x, y, _⟩ := w.at_ _ _ hm
    rcases e with e | e
    · rw [y] at e; cases e
    · rw [x] at e; cases e
  refine ⟨⟨s.g, fun a o e => ?_, fun a o e => ?_, s.f⟩, ⟨.refl _, s.s, lowH_le, fun _ _ h => h⟩, w.nd, fun q m hm => ?_⟩
  · unfold lowH; rw [if_neg (out a o (.inl e))]; exact s.s a o e
  · unfold lowH; rw [if_neg (out a o (.inr e))]; exact s.h a o e
  · obtain ⟨_, b, c⟩ := w.at_ _ _ hm
    exact ⟨by unfold lowH; rw [if_pos (List.mem_map.mpr ⟨_, hm, rfl⟩)], b, c⟩
theorem own_up (w : Own K H2 G H M) (e : Gr H0 H2) : Own K H0 G H M := ⟨w.nd, fun q m hm => let ⟨a, b, c⟩ := w.at_ _ _ hm; ⟨e.back a, b, c⟩⟩
theorem sm_for {wi : TI} {g : TG} {tb : TS} {js : List Nat} (Δs Δt : Nat → Sl) (Ms : Nat → Mt) (hi : EvI K wi (Δs 0) ds) (hg : ∀ i d, ds[i]? = some d → EvG K g (Δs i) d (Δt i) js)
    (hb : ∀ i, i < ds.length → SM K tb (Δt i) (Ms i) (.nx (Δs (i + 1)) (Ms (i + 1))) ∨ SM K tb (Δt i) (Ms i) (.ct (Δs (i + 1)) (Ms (i + 1)))) : SM K (tFor wi g tb) (Δs 0) (Ms 0) (.nx (Δs ds.length) (Ms ds.length)) := fun D σ G0 H0 G H s e w p =>
  hi σ G H _ e s.s fun J G1 H1 s1 wk => by
    refine ⟨fun i m σ' H' => m = ds.length - i ∧ i ≤ ds.length ∧ ∃ G', Stp G0 H0 G' H' ∧ Gr G1 G' ∧ En K G' σ' (Δs i) ∧ Own K H0 G' H' (Ms i), ⟨ds.length, rfl, Nat.zero_le _, G1, s.trans s1, .refl _, e.up s1.g, w.step s1⟩, ?_⟩
    rintro i m σ' H' ⟨rfl, hle, G', s', g', e', w'⟩
    by_cases hlt : i < ds.length
    · refine .inr ⟨wk.go i G' H' g' s'.s hlt, fun σ'' H'' => ∃ G'', Stp G0 H0 G'' H'' ∧ Gr G1 G'' ∧ En K G'' σ'' (Δs (i + 1)) ∧ Own K H0 G'' H'' (Ms (i + 1)), fun σ'' H'' ⟨G'', a, b, c, f⟩ => ⟨ds.length - (i + 1), by omega, rfl, hlt, G'', a, b, c, f⟩, fun x H2 y => ?_⟩
      obtain ⟨G2, d, s2, hd, dx⟩ := wk.yld i G' H' x H2 g' s'.s hlt y
      refine hg i d hd x σ' G2 H2 _ (e'.up s2.g) s2.s dx fun σ2 e2 _ => ?_
      have base := s'.trans s2
      have w2 := w'.step s2
      have g2 := g'.trans s2.g
      obtain ⟨l1, l2, l3⟩ := low_stp base w2
      rcases hb i hlt with h | h
      · exact h _ σ2 G2 (lowH H2 (Ms i)) G2 H2 l2 e2 l3 fun σ3 G3 H3 s3 e3 w3 => ⟨G3, l1.trans s3, g2.trans s3.g, e3, own_up w3 l1.h⟩
      · exact h _ σ2 G2 (lowH H2 (Ms i)) G2 H2 l2 e2 l3 fun σ3 G3 H3 s3 e3 w3 => ⟨G3, l1.trans s3, g2.trans s3.g, e3, own_up w3 l1.h⟩
    · have he : i = ds.length := by omega
      subst he
      exact .inl ⟨wk.stop G' H' g' s'.s, p σ' G' H' s' e' w'⟩
end
end Sb

/-! Seamboard, layer 8: stores, loops, dicts, of what changes. -/
namespace Sb
open PySem PySem.Spec PyProof.Rows L2
section
variable {K : PySem.W.Frag} {G0 H0 G H G2 H2 : Hp} {M M1 M2 : Mt} {Δ Δ1 Δ2 : Sl} {σ : L2.St} {t u tb : TS} {o : OutM} {p : Addr} {d : Dt} {ds : List Dt} {te tk : TE} {tt : TT} {m : Mo}
theorem dps_setAt {G : Hp} : ∀ {vs : List V} {ds : List Dt} {j : Nat} {v : V} {d : Dt}, DpAll K G vs ds → Dp K G v d → DpAll K G (vs.set j v) (ds.set j d)
  | _, _, _, _, _, .nil, _ => .nil
  | _, _, 0, _, _, .cons a b, h => .cons h b
  | _, _, j + 1, _, _, .cons a b, h => .cons a (dps_setAt b h)
/-- xs[k] = e -/
theorem sm_store {i j : Nat} {k : Int} (hi : Δ[i]? = some (some (.r p))) (h : EvM K te Δ (M1 ++ (p, .l ds) :: M2) d) (hk : EvM K tk Δ (M1 ++ (p, .l ds) :: M2) (.int k)) (hj : ixN ds.length k = some j) :
    SM K (tAsg te (gSub (tVar i) tk rSetL)) Δ (M1 ++ (p, .l ds) :: M2) (.nx Δ (M1 ++ (p, .l (ds.set j d)) :: M2)) := fun D σ G0 H0 G H s e w q =>
  h σ H0 G H _ e s.s w fun z G1 H1 s1 dz => by
    obtain ⟨v, hv, hw⟩ := (e.up s1.g).at_ i _ hi
    cases hw
    refine ⟨_, hv, hk σ H0 G1 H1 _ (e.up s1.g) s1.s (w.step s1) fun y G2 H2 s2 dy => ?_⟩
    cases dy
    have w2 := (w.step s1).step s2
    obtain ⟨a, b, o, c, vs, x, y⟩ := w2.at_ p _ mem_mid
    subst x
    refine ⟨p, vs, k, j, rfl, rfl, c, by rw [dps_len y]; exact hj, q σ G2 _ (((s.trans s1).trans s2).put a b) ((e.up s1.g).up s2.g) (own_put w2 ⟨_, rfl, dps_setAt y (Dpu dz s2.g)⟩)⟩
/-- xs[k] += e, of numbers -/
theorem sm_aug {i j : Nat} {k a b : Int} {f : Int → Int → Int} (hi : Δ[i]? = some (some (.r p))) (hk : EvM K tk Δ (M1 ++ (p, .l ds) :: M2) (.int k)) (hj : ixN ds.length k = some j) (ha : ds[j]? = some (.int a)) (h : EvM K te Δ (M1 ++ (p, .l ds) :: M2) (.int b)) :
    SM K (tAugS (tVar i) tk te (rIxL K) (ipI f) rSetL) Δ (M1 ++ (p, .l ds) :: M2) (.nx Δ (M1 ++ (p, .l (ds.set j (.int (f a b)))) :: M2)) := fun D σ G0 H0 G H s e w q => by
  obtain ⟨v, hv, hw⟩ := e.at_ i _ hi
  cases hw
  refine ⟨_, hv, hk σ H0 G H _ e s.s w fun y G1 H1 s1 dy => ?_⟩
  cases dy
  have w1 := w.step s1
  obtain ⟨_, _, o, c, vs, x, y⟩ := w1.at_ p _ mem_mid
  subst x
  obtain ⟨z, hz, dz⟩ := at_of (i := k) (d := .int a) y (by unfold atI; rw [hj]; exact ha)
  cases dz
  refine ⟨p, vs, k, .int a, rfl, rfl, SqL.of c, hz, h σ H0 G1 H1 _ (e.up s1.g) s1.s w1 fun u G2 H2 s2 du => ?_⟩
  cases du
  have w2 := w1.step s2
  obtain ⟨n0, n1, o2, c2, vs2, x2, y2⟩ := w2.at_ p _ mem_mid
  subst x2
  exact ⟨a, b, rfl, rfl, p, vs2, k, j, rfl, rfl, c2, by rw [dps_len y2]; exact hj, q σ G2 _ (((s.trans s1).trans s2).put n0 n1) ((e.up s1.g).up s2.g) (own_put w2 ⟨_, rfl, dps_setAt y2 (.int _)⟩)⟩
/-- a while, by the states ahead of its turns -/
theorem sm_while (Δs : Nat → Sl) (Ms : Nat → Mt) (n : Nat) (ht : ∀ i, i < n → EvTM K tt (Δs i) (Ms i) true) (he : EvTM K tt (Δs n) (Ms n) false)
    (hb : ∀ i, i < n → SM K tb (Δs i) (Ms i) (.nx (Δs (i + 1)) (Ms (i + 1))) ∨ SM K tb (Δs i) (Ms i) (.ct (Δs (i + 1)) (Ms (i + 1)))) : SM K (tWhile tt tb) (Δs 0) (Ms 0) (.nx (Δs n) (Ms n)) := fun D σ G0 H0 G H s e w q => by
  refine ⟨fun m σ' H' => ∃ i G', m = n - i ∧ i ≤ n ∧ Stp G0 H0 G' H' ∧ En K G' σ' (Δs i) ∧ Own K H0 G' H' (Ms i), ⟨n, 0, G, rfl, Nat.zero_le _, s, e, w⟩, ?_⟩
  rintro m σ' H' ⟨i, G', rfl, hle, s', e', w'⟩
  by_cases hlt : i < n
  · refine ht i hlt σ' H0 G' H' _ e' s'.s w' fun G1 H1 s1 => ?_
    rw [if_pos rfl]
    refine ⟨fun σ'' H'' => ∃ G'', Stp G0 H0 G'' H'' ∧ En K G'' σ'' (Δs (i + 1)) ∧ Own K H0 G'' H'' (Ms (i + 1)), fun σ'' H'' ⟨G'', a, b, c⟩ => ⟨n - (i + 1), by omega, i + 1, G'', rfl, hlt, a, b, c⟩, ?_⟩
    rcases hb i hlt with h | h
    · exact h _ σ' G0 H0 G1 H1 (s'.trans s1) (e'.up s1.g) (w'.step s1) fun σ3 G3 H3 s3 e3 w3 => ⟨G3, s3, e3, w3⟩
    · exact h _ σ' G0 H0 G1 H1 (s'.trans s1) (e'.up s1.g) (w'.step s1) fun σ3 G3 H3 s3 e3 w3 => ⟨G3, s3, e3, w3⟩
  · have hi : i = n := by omega
    subst hi
    refine he σ' H0 G' H' _ e' s'.s w' fun G1 H1 s1 => ?_
    rw [if_neg (by decide)]
    exact q σ' G1 H1 (s'.trans s1) (e'.up s1.g) (w'.step s1)
/-- a for that is left at turn n: what its last turn comes to -/
def OutM.up : OutM → OutM
  | .bk Δ M => .nx Δ M
  | o => o
theorem sm_forE {wi : TI} {g : TG} {js : List Nat} (Δs Δt : Nat → Sl) (Ms : Nat → Mt) (n : Nat) (hn : n < ds.length) (hi : EvI K wi (Δs 0) ds) (hg : ∀ i d, ds[i]? = some d → EvG K g (Δs i) d (Δt i) js)
    (hb : ∀ i, i < n → SM K tb (Δt i) (Ms i) (.nx (Δs (i + 1)) (Ms (i + 1))) ∨ SM K tb (Δt i) (Ms i) (.ct (Δs (i + 1)) (Ms (i + 1)))) (hl : SM K tb (Δt n) (Ms n) o) (ho : ∀ Δ M, o ≠ .nx Δ M ∧ o ≠ .ct Δ M) : SM K (tFor wi g tb) (Δs 0) (Ms 0) o.up := fun D σ G0 H0 G H s e w p =>
  hi σ G H _ e s.s fun J G1 H1 s1 wk => by
    refine ⟨fun i m σ' H' => m = n - i ∧ i ≤ n ∧ ∃ G', Stp G0 H0 G' H' ∧ Gr G1 G' ∧ En K G' σ' (Δs i) ∧ Own K H0 G' H' (Ms i), ⟨n, rfl, Nat.zero_le _, G1, s.trans s1, .refl _, e.up s1.g, w.step s1⟩, ?_⟩
    rintro i m σ' H' ⟨rfl, hle, G', s', g', e', w'⟩
    by_cases hlt : i < n
    · refine .inr ⟨wk.go i G' H' g' s'.s (by omega), fun σ'' H'' => ∃ G'', Stp G0 H0 G'' H'' ∧ Gr G1 G'' ∧ En K G'' σ'' (Δs (i + 1)) ∧ Own K H0 G'' H'' (Ms (i + 1)), fun σ'' H'' ⟨G'', a, b, c, f⟩ => ⟨n - (i + 1), by omega, rfl, hlt, G'', a, b, c, f⟩, fun x H2 y => ?_⟩
      obtain ⟨G2, d, s2, hd, dx⟩ := wk.yld i G' H' x H2 g' s'.s (by omega) y
      refine hg i d hd x σ' G2 H2 _ (e'.up s2.g) s2.s dx fun σ2 e2 _ => ?_
      have w2 := w'.step s2
      have g2 := g'.trans s2.g
      obtain ⟨l1, l2, l3⟩ := low_stp (s'.trans s2) w2
      rcases hb i hlt with h | h
      · exact h _ σ2 G2 (lowH H2 (Ms i)) G2 H2 l2 e2 l3 fun σ3 G3 H3 s3 e3 w3 => ⟨G3, l1.trans s3, g2.trans s3.g, e3, own_up w3 l1.h⟩
      · exact h _ σ2 G2 (lowH H2 (Ms i)) G2 H2 l2 e2 l3 fun σ3 G3 H3 s3 e3 w3 => ⟨G3, l1.trans s3, g2.trans s3.g, e3, own_up w3 l1.h⟩
    · have hi2 : i = n := by omega
      subst hi2
      refine .inr ⟨wk.go i G' H' g' s'.s hn, fun _ _ => False, fun _ _ h => h.elim, fun x H2 y => ?_⟩
      obtain ⟨G2, d, s2, hd, dx⟩ := wk.yld i G' H' x H2 g' s'.s hn y
      refine hg i d hd x σ' G2 H2 _ (e'.up s2.g) s2.s dx fun σ2 e2 _ => ?_
      refine hl _ σ2 G0 H0 G2 H2 (s'.trans s2) e2 (w'.step s2) ?_
      cases o with
      | nx Δ M => exact absurd rfl (ho Δ M).1
      | ct Δ M => exact absurd rfl (ho Δ M).2
      | bk Δ M => exact p
      | rt d => exact p
      | rl ds => exact p
/-! dicts with keys that are numbers or texts -/
def getK (kds : List (Key × Dt)) (k : Key) : Option Dt := (kds.find? fun kd => decide (kd.1 = k)).map (·.2)
def putD (kds : List (Key × Dt)) (k : Key) (d : Dt) : List (Key × Dt) := if (kds.any fun kd => decide (kd.1 = k)) = true then kds.map (fun kd => if kd.1 = k then (kd.1, d) else kd) else kds ++ [(k, d)]
def kD : Key → Dt
  | .inl i => .int i
  | .inr x => .str x
theorem kd_key {G : Hp} {v : V} {k : Key} (h : Dp K G v (kD k)) : v = kV k := by
  cases k with
  | inl i => cases h; rfl
  | inr x => cases h; rfl
theorem kd_get {G : Hp} {k : Key} : ∀ {kvs : List (Key × V)} {kds : List (Key × Dt)}, KdOk K G kvs kds → (valV kvs k = none ∧ getK kds k = none) ∨ ∃ v d, valV kvs k = some v ∧ getK kds k = some d ∧ Dp K G v d
  | _, _, .nil => .inl ⟨rfl, rfl⟩
  | _, _, .cons (k := k') (v := v) (d := d) a b => by
    by_cases h : k' = k
    · exact .inr ⟨v, d, by simp [valV, List.find?_cons, h], by simp [getK, List.find?_cons, h], a⟩
    · rcases kd_get (k := k) b with ⟨x, y⟩ | ⟨v', d', x, y, z⟩
      · exact .inl ⟨by rw [← x]; simp [valV, List.find?_cons, h], by rw [← y]; simp [getK, List.find?_cons, h]⟩
      · exact .inr ⟨v', d', by rw [← x]; simp [valV, List.find?_cons, h], by rw [← y]; simp [getK, List.find?_cons, h], z⟩
theorem kd_len {G : Hp} : ∀ {kvs : List (Key × V)} {kds : List (Key × Dt)}, KdOk K G kvs kds → kvs.length = kds.length
  | _, _, .nil => rfl
  | _, _, .cons _ b => by rw [List.length_cons, List.length_cons, kd_len b]
theorem kd_any {G : Hp} {k : Key} : ∀ {kvs : List (Key × V)} {kds : List (Key × Dt)}, KdOk K G kvs kds → (kvs.any fun kv => decide (kv.1 = k)) = (kds.any fun kd => decide (kd.1 = k))
  | _, _, .nil => rfl
  | _, _, .cons _ b => by rw [List.any_cons, List.any_cons, kd_any b]
theorem kd_map {G : Hp} {k : Key} {v : V} {d : Dt} (h : Dp K G v d) : ∀ {kvs : List (Key × V)} {kds : List (Key × Dt)}, KdOk K G kvs kds → KdOk K G (kvs.map fun kv => if kv.1 = k then (kv.1, v) else kv) (kds.map fun kd => if kd.1 = k then (kd.1, d) else kd)
  | _, _, .nil => .nil
  | _, _, .cons (k := k') a b => by
    rw [List.map_cons, List.map_cons]
    by_cases q : k' = k
    · rw [if_pos q, if_pos q]; exact .cons h (kd_map h b)
    · rw [if_neg q, if_neg q]; exact .cons a (kd_map h b)
theorem kd_app {G : Hp} {k : Key} {v : V} {d : Dt} (h : Dp K G v d) : ∀ {kvs : List (Key × V)} {kds : List (Key × Dt)}, KdOk K G kvs kds → KdOk K G (kvs ++ [(k, v)]) (kds ++ [(k, d)])
  | _, _, .nil => .cons h .nil
  | _, _, .cons a b => .cons a (kd_app h b)
theorem kd_put {G : Hp} {k : Key} {v : V} {d : Dt} (h : Dp K G v d) {kvs : List (Key × V)} {kds : List (Key × Dt)} (b : KdOk K G kvs kds) : KdOk K G (putK kvs k v) (putD kds k d) := by
  unfold putK putD
  rw [kd_any b]
  split
  · exact kd_map h b
  · exact kd_app h b
/-- x = {} -/
theorem sm_newD {i : Nat} (k : ∀ p, SM K u (Δ.set i (some (.r p))) ((p, .d []) :: M) o) : SM K (tSeq (tAsg tDNewK (gName i)) u) Δ M o := fun D σ G0 H0 G H s e w q => fun c hc =>
  k c D _ G0 H0 G _ (s.trans (.hid s.s hc)) (e.set (w := .r c) i rfl) (own_new w s hc ⟨[], rfl, .nil⟩) q
/-- d[k] = e -/
theorem sm_dput {i : Nat} {k : Key} {kds : List (Key × Dt)} (hi : Δ[i]? = some (some (.r p))) (h : EvM K te Δ (M1 ++ (p, .d kds) :: M2) d) (hk : EvM K tk Δ (M1 ++ (p, .d kds) :: M2) (kD k)) (hl : kds.length < 100000) :
    SM K (sDPut (tVar i) tk te) Δ (M1 ++ (p, .d kds) :: M2) (.nx Δ (M1 ++ (p, .d (putD kds k d)) :: M2)) := fun D σ G0 H0 G H s e w q =>
  h σ H0 G H _ e s.s w fun z G1 H1 s1 dz => by
    obtain ⟨v, hv, hw⟩ := (e.up s1.g).at_ i _ hi
    cases hw
    refine ⟨_, hv, hk σ H0 G1 H1 _ (e.up s1.g) s1.s (w.step s1) fun y G2 H2 s2 dy => ?_⟩
    have := kd_key dy
    subst this
    have w2 := (w.step s1).step s2
    obtain ⟨a, b, o, c, kvs, x, y⟩ := w2.at_ p _ mem_mid
    subst x
    exact ⟨p, _, rfl, .inl ⟨kvs, k, c, rfl, by rw [kd_len y]; exact Evl.sz_lt hl, rfl⟩, q σ G2 _ (((s.trans s1).trans s2).put a b) ((e.up s1.g).up s2.g) (own_put w2 ⟨_, rfl, kd_put (Dpu dz s2.g) y⟩)⟩
/-- d[k] -/
theorem em_dget {i : Nat} {k : Key} {kds : List (Key × Dt)} (hi : Δ[i]? = some (some (.r p))) (hm : (p, Mo.d kds) ∈ M) (hk : EvM K tk Δ M (kD k)) (hg : getK kds k = some d) : EvM K (tDGet (tVar i) tk) Δ M d := fun σ H0 G H Q e s w q => by
  obtain ⟨v, hv, hw⟩ := e.at_ i _ hi
  cases hw
  refine ⟨_, hv, hk σ H0 G H _ e s w fun y G1 H1 s1 dy => ?_⟩
  have := kd_key dy
  subst this
  obtain ⟨_, _, o, c, kvs, x, z⟩ := (w.step s1).at_ _ _ hm
  subst x
  rcases kd_get (k := k) z with ⟨_, h⟩ | ⟨v, d', h1, h2, h3⟩
  · rw [hg] at h; cases h
  · rw [hg] at h2
    cases h2
    exact ⟨p, v, rfl, .inl ⟨kvs, k, .inl c, rfl, h1.symm⟩, q v G1 H1 s1 h3⟩
/-- k in d -/
theorem em_din {i : Nat} {k : Key} {kds : List (Key × Dt)} (hi : Δ[i]? = some (some (.r p))) (hm : (p, Mo.d kds) ∈ M) (hk : EvM K tk Δ M (kD k)) : EvM K (tDIn tk (tVar i)) Δ M (.bool (getK kds k).isSome) := fun σ H0 G H Q e s w q =>
  hk σ H0 G H _ e s w fun y G1 H1 s1 dy => by
    obtain ⟨v, hv, hw⟩ := (e.up s1.g).at_ i _ hi
    cases hw
    have := kd_key dy
    subst this
    obtain ⟨_, _, o, c, kvs, x, z⟩ := (w.step s1).at_ _ _ hm
    subst x
    refine ⟨_, hv, p, valV kvs k, rfl, .inl ⟨kvs, k, .inl c, rfl, rfl⟩, ?_⟩
    have e1 : (valV kvs k).isSome = (getK kds k).isSome := by
      rcases kd_get (k := k) z with ⟨a, b⟩ | ⟨v, d', h1, h2, h3⟩
      · rw [a, b]; rfl
      · rw [h1, h2]; rfl
    rw [e1]
    exact q _ G1 H1 s1 (.bl _)
theorem em_dni {i : Nat} {k : Key} {kds : List (Key × Dt)} (hi : Δ[i]? = some (some (.r p))) (hm : (p, Mo.d kds) ∈ M) (hk : EvM K tk Δ M (kD k)) : EvM K (tDNotIn tk (tVar i)) Δ M (.bool (!(getK kds k).isSome)) := fun σ H0 G H Q e s w q =>
  hk σ H0 G H _ e s w fun y G1 H1 s1 dy => by
    obtain ⟨v, hv, hw⟩ := (e.up s1.g).at_ i _ hi
    cases hw
    have := kd_key dy
    subst this
    obtain ⟨_, _, o, c, kvs, x, z⟩ := (w.step s1).at_ _ _ hm
    subst x
    refine ⟨_, hv, p, valV kvs k, rfl, .inl ⟨kvs, k, .inl c, rfl, rfl⟩, ?_⟩
    have e1 : (valV kvs k).isSome = (getK kds k).isSome := by
      rcases kd_get (k := k) z with ⟨a, b⟩ | ⟨v, d', h1, h2, h3⟩
      · rw [a, b]; rfl
      · rw [h1, h2]; rfl
    rw [e1]
    exact q _ G1 H1 s1 (.bl _)
/-- d.get(k, x) -/
theorem em_dget2 {i : Nat} {k : Key} {kds : List (Key × Dt)} (hi : Δ[i]? = some (some (.r p))) (hm : (p, Mo.d kds) ∈ M) (hk : EvM K tk Δ M (kD k)) (hx : EvM K te Δ M d) : EvM K (tDGet2 (tVar i) tk te) Δ M ((getK kds k).getD d) := fun σ H0 G H Q e s w q => by
  obtain ⟨v, hv, hw⟩ := e.at_ i _ hi
  cases hw
  have w0 := w.at_ _ _ hm
  obtain ⟨_, _, o, c, kvs0, x, z0⟩ := w0
  subst x
  refine ⟨_, hv, p, rfl, .inl ⟨kvs0, .inl c⟩, hk σ H0 G H _ e s w fun y G1 H1 s1 dy => ?_⟩
  have := kd_key dy
  subst this
  refine hx σ H0 G1 H1 _ (e.up s1.g) s1.s (w.step s1) fun y2 G2 H2 s2 d2 => ?_
  obtain ⟨_, _, o, c, kvs, x, z⟩ := ((w.step s1).step s2).at_ _ _ hm
  subst x
  refine ⟨valV kvs k, .inl ⟨kvs, k, .inl c, rfl, rfl⟩, ?_⟩
  rcases kd_get (k := k) z with ⟨a, b⟩ | ⟨v, d', h1, h2, h3⟩
  · rw [b] at q; rw [a]; exact q _ G2 H2 (s1.trans s2) d2
  · rw [h2] at q; rw [h1]; exact q _ G2 H2 (s1.trans s2) h3
theorem etm_B {b : Bool} (h : EvM K te Δ M (.bool b)) : EvTM K (tTest te) Δ M b := fun σ H0 G H Q e s w q => h σ H0 G H _ e s w fun v G1 H1 s1 dv => by cases dv; exact ⟨b, rfl, q _ _ s1⟩
theorem etm_is {b c : Bool} (h : EvTM K tt Δ M b) (e : b = c) : EvTM K tt Δ M c := e ▸ h
theorem em_is {d' : Dt} (h : EvM K te Δ M d) (e : d = d') : EvM K te Δ M d' := e ▸ h
theorem em_op {ta tb : TE} {r : R2} {x y z : Dt} (ha : EvM K ta Δ M x) (hb : EvM K tb Δ M y) (hr : RV K r x y z) : EvM K (tOp r ta tb) Δ M z := fun σ H0 G H Q e s w q =>
  ha σ H0 G H _ e s w fun v G1 H1 s1 d1 => hb σ H0 G1 H1 _ (e.up s1.g) s1.s (w.step s1) fun u G2 H2 s2 d2 => hr G2 H2 v u _ s2.s (Dpu d1 s2.g) d2 fun z G3 H3 s3 d3 => q z G3 H3 ((s1.trans s2).trans s3) d3
end
end Sb

/-! Seamboard, layer 9: defs with arguments that are handed in by name alone. -/
namespace Sb
open PySem PySem.Spec PyProof.Rows L2
structure TextFnK (K : PySem.W.Frag) (x : Str) (st : Stmt) (kws : List (Str × V)) : Prop where
  ex : ∃ (f D : Addr) (oc : Value) (od : Option Addr) (osl : Array (Option Value)) (dc pm : Value) (an : Option Addr) (cd ct : Value), PySem.W.nsIn K mainGlobals x = some (some (.ref f)) ∧
    K.lookup f = some ⟨oc, od, .func (PySem.W.fnOf x x (defArgs st) (defBody st) (defScope st) .none (.ref D) dc pm an cd ct), osl⟩ ∧ PySem.W.codeIn K cd x = true ∧ PySem.W.keepIn K (.ref f) = true ∧ ∀ q ∈ kws, ∃ u, PySem.W.nsIn K D q.1 = some (some u) ∧ RelV q.2 u
section
variable {K : PySem.W.Frag} {x : Str} {st : Stmt} {f D : Addr} {oc : Value} {od : Option Addr} {osl : Array (Option Value)} {dc pm : Value} {an : Option Addr} {cd ct : Value}
theorem textFnK_non {n : Str} (a : PySem.W.nsIn K mainGlobals x = some (some (.ref f))) (l : K.lookup f = some ⟨oc, od, .func (PySem.W.fnOf x x (defArgs st) (defBody st) (defScope st) .none (.ref D) dc pm an cd ct), osl⟩)
    (c : PySem.W.codeIn K cd x = true) (k : PySem.W.keepIn K (.ref f) = true) (d : PySem.W.nsIn K D n = some (some .none)) : TextFnK K x st [(n, .non)] :=
  ⟨f, D, oc, od, osl, dc, pm, an, cd, ct, a, l, c, k, fun q hq => by
    rw [List.mem_singleton] at hq
    subst hq
    exact ⟨_, d, rfl⟩⟩
theorem textFnK_int2 {n m : Str} {i j : Int} {t u : Tok} (a : PySem.W.nsIn K mainGlobals x = some (some (.ref f))) (l : K.lookup f = some ⟨oc, od, .func (PySem.W.fnOf x x (defArgs st) (defBody st) (defScope st) .none (.ref D) dc pm an cd ct), osl⟩)
    (c : PySem.W.codeIn K cd x = true) (k : PySem.W.keepIn K (.ref f) = true) (d : PySem.W.nsIn K D n = some (some (.int i t))) (e : PySem.W.nsIn K D m = some (some (.int j u))) : TextFnK K x st [(n, .int i), (m, .int j)] :=
  ⟨f, D, oc, od, osl, dc, pm, an, cd, ct, a, l, c, k, fun q hq => by
    rcases List.mem_cons.mp hq with h | h
    · subst h; exact ⟨_, d, t, rfl⟩
    · rw [List.mem_singleton] at h; subst h; exact ⟨_, e, u, rfl⟩⟩
end
structure FnAtK (K : PySem.W.Frag) (mg : Str → Option Value) (x : Str) (st : Stmt) (kws : List (Str × V)) : Prop where
  ex : ∃ f fd, FunD K x x (defArgs st) (defBody st) (defScope st) [] kws f fd ∧ Fun K x x st f fd ∧ mg x = some (.ref f)
theorem TextFnK.at_ {K : PySem.W.Frag} {mg : Str → Option Value} {h : Heap} {x : Str} {st : Stmt} {kws : List (Str × V)} (t : TextFnK K x st kws) (X : K.In h) (G : h.Ns mainGlobals mg) : FnAtK K mg x st kws := by
  obtain ⟨f, D, oc, od, osl, dc, pm, an, cd, ct, a, l, c, k, d⟩ := t.ex
  exact ⟨f, _, ⟨⟨oc, od, .none, .ref D, dc, pm, an, cd, ct, osl, rfl, l, c, .inl ⟨rfl, rfl⟩, .inr ⟨D, rfl, d⟩⟩, k⟩, fun_mk (st := st) l c k, PySem.W.mg_of X G a⟩
structure HasK (P : Program) (w : World) (K : PySem.W.Frag) (mg : Str → Option Value) (base : Heap) (x : Str) (k : Nat) (ps : List Str) (st : Stmt) (kws : List (Str × V)) (sp : Sp) : Prop where
  ex : ∃ f fd, FnOk P w K mg base CX0 k f fd ps sp ∧ mg x = some (.ref f) ∧ PySem.W.keepIn K (.ref f) = true ∧ FunD K x x (defArgs st) (defBody st) (defScope st) [] kws f fd
section
variable {P : Program} {w : World} {K : PySem.W.Frag} {mg : Str → Option Value} {base : Heap} {x : Str} {st : Stmt} {N ps : List Str} {k : Nat} {kws : List (Str × V)}
/-- a def by its body, read by data: what is handed in, the named ones behind -/
theorem hasK_pure {F : List Dt → Dt → Prop} (A : FnAtK K mg x st kws) (S : FnScope N ps (defScope st)) (hlen : ∀ ds d, F ds d → ds.length = ps.length)
    (hb : ∀ (cdv : Value) (f : Addr) (A : Around) (outer : List Env) (s : Shared) (H : Hp) (E : XK), Room k (A.deeper (envOfC x (defScope st) s.heap.objs.size f cdv)) →
      ∃ t, PSs (cxOf CX0 P w K mg base N x (defScope st) f cdv A outer s H E).nox (defBody st) t ∧ ∀ ds d, F ds d → Sx K t (ds.map (fun d => some (.d d)) ++ List.replicate (N.length - ds.length) none) (.rt d)) : HasK P w K mg base x (k + 1) ps st kws (spD K F) := by
  obtain ⟨f, fd, hD, hF, hm⟩ := A.ex
  refine ⟨f, fd, ?_, hm, hF.kp, hD⟩
  refine hF.ok S (fun vs H Q E h => ?_) (fun cdv A outer s H vs Q E hr h => ?_)
  · obtain ⟨G, ds, d, _, dv, f, _⟩ := h
    rw [dps_len dv, hlen ds d f]
  · obtain ⟨G, ds, d, g, dv, fd, q⟩ := h
    obtain ⟨t, ht, hx⟩ := hb cdv f A outer s H E hr
    exact ⟨t, ht, hx ds d fd _ _ G H (start_env N dv) g fun v G2 H2 s2 d2 => q v G2 H2 s2 d2⟩
end
section
variable {X : Cx} {x : Str} {k n : Nat} {ps ks : List Str} {sp : Sp} {p pos : Pos} {e : Expr} {es : List Expr} {t tk : TA} {st : Stmt} {kws : List (Str × V)} {kwe : List Keyword}
/-- a call that names none -/
theorem caD (h : HasK X.prog X.w X.K X.mg X.base x k ps st kws sp) (hr : Room k X.A) (n : Nat) (hk : kws ≠ []) (hn : n + kws.length = ps.length)
    (hc : ∀ (D : Addr) (doc pm : Value) (an : Option Addr) (cdv ct : Value) (us ks : List Value), us.length = n → ks.length = kws.length → KwChain D ((kws.map (·.1)).zip ks) (bindArgs (PySem.W.fnOf x x (defArgs st) (defBody st) (defScope st) .none (.ref D) doc pm an cdv ct) ⟨us, []⟩) (ps.zip (us ++ ks)))
    (hg : Gl X x) (ha : PA X (e :: es) t) (hdb : (x == ("__debug__" : Str)) = false := by decide) (he : starEach (e :: es) X.env = (false, eval e X.env) :: starEach es X.env := by rfl)
    (hpl : (backTo pos (starEach es X.env)).any (·.1) = false := by rfl) : PE X (.Call (.Name x p) (e :: es) [] pos) (tCall sp (kws.map (·.2)) E0 t) := by
  obtain ⟨f, fd, F, hm, hkp, hD⟩ := h.ex
  obtain ⟨ds, hv, hb⟩ := hD.binds0 (ps := ps) n hk hn hc
  exact pe_call F hr hg hm hkp hb hv pass0 ha hdb he hpl
/-- a call that names some: ks these, ms the others with what they are unless told; g puts all in the order of the def -/
theorem caK (h : HasK X.prog X.w X.K X.mg X.base x k ps st kws sp) (hr : Room k X.A) (n : Nat) (ks : List Str) (ms : List (Str × V)) (g : {α : Type} → List α → List α → List α → List α) (hk : kws ≠ []) (hms : ∀ q ∈ ms, q ∈ kws)
    (hrel : ∀ {vs mz zs : List V} {us mv ws : List Value}, Vals vs us → Vals mz mv → Vals zs ws → Vals (g vs mz zs) (g us mv ws))
    (hc : ∀ (D : Addr) (doc pm : Value) (an : Option Addr) (cdv ct : Value) (us mv ws : List Value), us.length = n → mv.length = ms.length → ws.length = ks.length →
      KwChain D ((ms.map (·.1)).zip mv) (bindArgs (PySem.W.fnOf x x (defArgs st) (defBody st) (defScope st) .none (.ref D) doc pm an cdv ct) ⟨us, ks.zip ws⟩) (ps.zip (g us mv ws)))
    (hg : Gl X x) (ha : PA X (e :: es) t) (hkw : PK X kwe tk) (hall : (backToKw pos (keywordEach kwe X.env)).all (·.1.isSome) = true := by rfl) (hks : (backToKw pos (keywordEach kwe X.env)).filterMap (·.1) = ks := by rfl)
    (hdb : (x == ("__debug__" : Str)) = false := by decide) (he : starEach (e :: es) X.env = (false, eval e X.env) :: starEach es X.env := by rfl)
    (hpl : ((backTo pos (starEach (e :: es) X.env)).any (·.1) || (backToKw pos (keywordEach kwe X.env)).any (·.1.isNone)) = false := by rfl) :
    PE X (.Call (.Name x p) (e :: es) kwe pos) (tCallN n ks.length sp (fun vs zs => g vs (ms.map (·.2)) zs) E0 t tk) := by
  obtain ⟨f, fd, F, hm, hkp, hD⟩ := h.ex
  obtain ⟨mv, hb⟩ := hD.kbinds0 (ps := ps) n ks ms g hk hms hrel hc
  exact pe_callN F hr hg hm hkp hb pass0 ha hkw hall hks hdb he hpl
end
section
variable {K : PySem.W.Frag} {Δ : Sl} {t tk : TA} {ds ms zs : List Dt} {d : Dt} {F : List Dt → Dt → Prop} {E : XK}
/-- behind the written ones stand the values of those that are not told -/
theorem ev_callD {mv : List V} (ha : EvA K t Δ ds) (hm : ∀ G, DpAll K G mv ms) (hF : F (ds ++ ms) d) : Ev K (tCall (spD K F) mv E t) Δ d := fun σ G H Q e s q =>
  ha σ G H _ e s fun vs G1 H1 s1 dv => ⟨G1, ds ++ ms, d, s1.s, dps_app dv (hm G1), hF, fun v G2 H2 s2 d2 => q v G2 H2 (s1.trans s2) d2⟩
theorem ev_callN {n m : Nat} {gV : List V → List V → List V} {gD : List Dt} (ha : EvA K t Δ ds) (hk : EvA K tk Δ zs) (hn : ds.length = n) (hm : zs.length = m) (hg : ∀ G vs ws, DpAll K G vs ds → DpAll K G ws zs → DpAll K G (gV vs ws) gD) (hF : F gD d) :
    Ev K (tCallN n m (spD K F) gV E t tk) Δ d := fun σ G H Q e s q =>
  ha σ G H _ e s fun vs G1 H1 s1 dv => hk σ G1 H1 _ (e.up s1.g) s1.s fun ws G2 H2 s2 dw =>
    ⟨by rw [dps_len dv, hn], by rw [dps_len dw, hm], G2, gD, d, s2.s, hg G2 vs ws (Dpsu dv s2.g) dw, hF, fun v G3 H3 s3 d3 => q v G3 H3 ((s1.trans s2).trans s3) d3⟩
end
end Sb

/-! Seamboard, layer 10: counts in texts. -/
namespace Sb
open PySem PySem.Spec PyProof.Rows L2
def rCountS : V → List V → Hp → VK → Prop := fun x xs H Q => ∃ a b, x = .str a ∧ xs = [.str b] ∧ Q (.int (Txt.count a b)) H
section
variable {X : Cx} {K : PySem.W.Frag} {Δ : Sl} {o e : Expr} {to te : TE}
theorem pe_countS {apos pos : Pos} (ho : PE X o to) (he : PE X e te) (hs : starEach [e] X.env = [(false, eval e X.env)] := by rfl) (hbase : attributeBase o "count" X.env (eval o X.env) = eval o X.env := by rfl) (hline : (apos.endLine == pos.line) = true := by rfl) :
    PE X (.Call (.Attribute o "count" apos) [e] [] pos) (tM1 rCountS to te) := pe_m1 PySem.F.slot_str_count PySem.F.type_str_count mt_count ho he hs hbase hline
theorem ev_countS {a b : Str} (h1 : Ev K to Δ (.str a)) (h2 : Ev K te Δ (.str b)) : Ev K (tM1 rCountS to te) Δ (.int (Txt.count a b)) := fun σ G H Q e s q =>
  h1 σ G H _ e s fun v G1 H1 s1 d1 => by
    cases d1
    exact ⟨⟨_, rfl⟩, h2 σ G1 H1 _ (e.up s1.g) s1.s fun u G2 H2 s2 d2 => by
      cases d2
      exact ⟨a, b, rfl, rfl, q _ _ _ (s1.trans s2) (.int _)⟩⟩
end
end Sb

/-! Seamboard, layer F1: what a text does, as a function of what its names hold. -/
namespace Sb
open PySem PySem.Spec PyProof.Rows L2

/-! ### data laid so that every list is tracked -/
mutual
inductive Dq (K : PySem.W.Frag) (G : Hp) : V → Dt → Prop where
  | non : Dq K G .non .none
  | bl (b : Bool) : Dq K G (.bl b) (.bool b)
  | int (i : Int) : Dq K G (.int i) (.int i)
  | str (x : Str) : Dq K G (.str x) (.str x)
  | lst {a : Addr} {vs : List V} {ds : List Dt} : G a = some (.lst vs) → DqAll K G vs ds → Dq K G (.ref a) (.list ds)
  | tup {a : Addr} {vs : List V} {ds : List Dt} : SqT K G a vs → DqAll K G vs ds → Dq K G (.ref a) (.tuple ds)
inductive DqAll (K : PySem.W.Frag) (G : Hp) : List V → List Dt → Prop where
  | nil : DqAll K G [] []
  | cons {v : V} {vs : List V} {d : Dt} {ds : List Dt} : Dq K G v d → DqAll K G vs ds → DqAll K G (v :: vs) (d :: ds)
end
mutual
theorem dq_up {K : PySem.W.Frag} {H H' : Hp} (e : Gr H H') : ∀ (d : Dt) (v : V), Dq K H v d → Dq K H' v d
  | .none, _, h => by cases h; exact .non
  | .bool b, _, h => by cases h; exact .bl b
  | .int i, _, h => by cases h; exact .int i
  | .str x, _, h => by cases h; exact .str x
  | .list ds, _, h => by cases h with | lst a b => exact .lst (e _ _ a) (dqs_up e ds _ b)
  | .tuple ds, _, h => by cases h with | tup a b => exact .tup (gr_t e a) (dqs_up e ds _ b)
  | .dict _, _, h => by cases h
theorem dqs_up {K : PySem.W.Frag} {H H' : Hp} (e : Gr H H') : ∀ (ds : List Dt) (vs : List V), DqAll K H vs ds → DqAll K H' vs ds
  | [], _, h => by cases h; exact .nil
  | d :: ds, _, h => by cases h with | cons a b => exact .cons (dq_up e d _ a) (dqs_up e ds _ b)
end
mutual
theorem dq_dp {K : PySem.W.Frag} {H : Hp} : ∀ (d : Dt) (v : V), Dq K H v d → Dp K H v d
  | .none, _, h => by cases h; exact .non
  | .bool b, _, h => by cases h; exact .bl b
  | .int i, _, h => by cases h; exact .int i
  | .str x, _, h => by cases h; exact .str x
  | .list ds, _, h => by cases h with | lst a b => exact .lst (SqL.of a) (dqs_dps ds _ b)
  | .tuple ds, _, h => by cases h with | tup a b => exact .tup a (dqs_dps ds _ b)
  | .dict _, _, h => by cases h
theorem dqs_dps {K : PySem.W.Frag} {H : Hp} : ∀ (ds : List Dt) (vs : List V), DqAll K H vs ds → DpAll K H vs ds
  | [], _, h => by cases h; exact .nil
  | d :: ds, _, h => by cases h with | cons a b => exact .cons (dq_dp d _ a) (dqs_dps ds _ b)
end
section
variable {K : PySem.W.Frag} {H H' : Hp} {v : V} {vs : List V} {d : Dt} {ds : List Dt}
theorem Dqu (h : Dq K H v d) (e : Gr H H') : Dq K H' v d := dq_up e d v h
theorem Dqsu (h : DqAll K H vs ds) (e : Gr H H') : DqAll K H' vs ds := dqs_up e ds vs h
theorem Dq.p (h : Dq K H v d) : Dp K H v d := dq_dp d v h
theorem DqAll.p (h : DqAll K H vs ds) : DpAll K H vs ds := dqs_dps ds vs h
theorem dqs_len (h : DqAll K H vs ds) : vs.length = ds.length := dps_len h.p
theorem dqs_get : ∀ {vs : List V} {ds : List Dt} {i : Nat} {d : Dt}, DqAll K H vs ds → ds[i]? = some d → ∃ v, vs[i]? = some v ∧ Dq K H v d
  | _, _, _, _, .nil, e => by simp at e
  | _, _, 0, _, .cons a _, e => by simp at e; subst e; exact ⟨_, rfl, a⟩
  | _, _, i + 1, d, .cons _ h, e => by
    obtain ⟨v, h1, h2⟩ := dqs_get (i := i) (d := d) h (by simpa using e)
    exact ⟨v, by simpa using h1, h2⟩
theorem dqs_get' {vs : List V} {ds : List Dt} {i : Nat} {v : V} (h : DqAll K H vs ds) (e : vs[i]? = some v) : ∃ d, ds[i]? = some d ∧ Dq K H v d := by
  have hi := (List.getElem?_eq_some_iff.mp e).1
  rw [dqs_len h] at hi
  obtain ⟨w, h1, h2⟩ := dqs_get h (List.getElem?_eq_getElem hi)
  rw [e] at h1; cases h1
  exact ⟨_, List.getElem?_eq_getElem hi, h2⟩
theorem dqs_app : ∀ {vs ws : List V} {ds es : List Dt}, DqAll K H vs ds → DqAll K H ws es → DqAll K H (vs ++ ws) (ds ++ es)
  | _, _, _, _, .nil, s => s
  | _, _, _, _, .cons a t, s => .cons a (dqs_app t s)
theorem dqs_ints : ∀ (ns : List Int), DqAll K H (ns.map V.int) (ns.map PyData.int)
  | [] => .nil
  | n :: ns => .cons (.int n) (dqs_ints ns)
theorem dqs_take : ∀ {vs : List V} {ds : List Dt} (n : Nat), DqAll K H vs ds → DqAll K H (vs.take n) (ds.take n)
  | _, _, 0, _ => .nil
  | _, _, _ + 1, .nil => .nil
  | _, _, n + 1, .cons a b => .cons a (dqs_take n b)
theorem dqs_drop : ∀ {vs : List V} {ds : List Dt} (n : Nat), DqAll K H vs ds → DqAll K H (vs.drop n) (ds.drop n)
  | _, _, 0, h => h
  | _, _, _ + 1, .nil => .nil
  | _, _, n + 1, .cons a b => dqs_drop n b
theorem dqs_rep (h : DqAll K H vs ds) : ∀ n : Nat, DqAll K H (List.replicate n vs).flatten (List.replicate n ds).flatten
  | 0 => .nil
  | n + 1 => by
    rw [List.replicate_succ, List.replicate_succ, List.flatten_cons, List.flatten_cons]
    exact dqs_app h (dqs_rep h n)
theorem dqs_set : ∀ {vs : List V} {ds : List Dt} {j : Nat} {v : V} {d : Dt}, DqAll K H vs ds → Dq K H v d → DqAll K H (vs.set j v) (ds.set j d)
  | _, _, _, _, _, .nil, _ => .nil
  | _, _, 0, _, _, .cons a b, h => .cons h b
  | _, _, j + 1, _, _, .cons a b, h => .cons a (dqs_set b h)
/-- a flat thing -/
theorem dp_q (h : Dp K H v d) (f : flatD d = true) : Dq K H' v d := by
  cases h with
  | non => exact .non
  | bl b => exact .bl b
  | int i => exact .int i
  | str x => exact .str x
  | lst _ _ => cases f
  | tup _ _ => cases f
theorem newq_t {G H : Hp} {p : Addr} (s : Gr G H) (hp : H p = none) (h : DqAll K G vs ds) : Stp G H (upd G p (.tup vs)) (upd H p (.tup vs)) ∧ Dq K (upd G p (.tup vs)) (.ref p) (.tuple ds) :=
  ⟨.new s hp, .tup (.inl (.inl upd_same)) (Dqsu h (.new (s.back hp)))⟩
theorem newq_l {G H : Hp} {p : Addr} (s : Gr G H) (hp : H p = none) (h : DqAll K G vs ds) : Stp G H (upd G p (.lst vs)) (upd H p (.lst vs)) ∧ Dq K (upd G p (.lst vs)) (.ref p) (.list ds) :=
  ⟨.new s hp, .lst upd_same (Dqsu h (.new (s.back hp)))⟩
/-- a dict's pairs -/
inductive KqOk (K : PySem.W.Frag) (G : Hp) : List (Key × V) → List (Key × Dt) → Prop where
  | nil : KqOk K G [] []
  | cons {k : Key} {v : V} {d : Dt} {kvs : List (Key × V)} {kds : List (Key × Dt)} : Dq K G v d → KqOk K G kvs kds → KqOk K G ((k, v) :: kvs) ((k, d) :: kds)
theorem kq_up {G G2 : Hp} (e : Gr G G2) : ∀ {kvs : List (Key × V)} {kds : List (Key × Dt)}, KqOk K G kvs kds → KqOk K G2 kvs kds
  | _, _, .nil => .nil
  | _, _, .cons a b => .cons (Dqu a e) (kq_up e b)
end

/-! ### states and results -/
inductive Oc where
  | l (xs : List Dt) | ll (xss : List (List Dt)) | m (kds : List (Key × Dt))
/-- what a name holds: data that stands for good; a thing of its own that may change; the row -/
inductive Wv where
  | d (x : Dt) | o (c : Oc) | row
structure Rw where
  (ns : List Int) (i s r : Int)
abbrev Ss := List (Option Wv)
abbrev Ro := Option Rw
/-- an error: its class, its one value -/
structure Exn where
  (c : Str) (p : Option (Str × Int))
abbrev ME (α : Type) := Ss → Ro → Option (Except Exn α × Ro)
def ret {α : Type} (a : α) : ME α := fun _ ρ => some (.ok a, ρ)
def lft {α : Type} (o : Option α) : ME α := fun _ ρ => match o with
  | none => none
  | some a => some (.ok a, ρ)
def bnd {α β : Type} (g : ME α) (k : α → ME β) : ME β := fun s ρ => match g s ρ with
  | none => none
  | some (.error x, ρ1) => some (.error x, ρ1)
  | some (.ok a, ρ1) => k a s ρ1
inductive Ot where
  | nx (s : Ss) (ρ : Ro) | bk (s : Ss) (ρ : Ro) | ct (s : Ss) (ρ : Ro) | rt (d : Dt) (ρ : Ro) | er (x : Exn) (ρ : Ro)
abbrev MS := Ss → Ro → Option Ot
def fOut {α : Type} (e : ME α) (k : α → MS) : MS := fun s ρ => match e s ρ with
  | none => none
  | some (.error x, ρ1) => some (.er x ρ1)
  | some (.ok a, ρ1) => k a s ρ1

/-! ### steps -/
structure Sq (Lo : Option Addr) (G H G2 H2 : Hp) : Prop where
  g : Gr G G2
  s : Gr G2 H2
  h : ∀ a o, some a ≠ Lo → H a = some o → H2 a = some o
  k : ∀ a, H a ≠ none → H2 a ≠ none
  f : ∀ a, H a ≠ none → G a = none → G2 a = none
/-- within a def: what was there at its start (H0) stands -/
structure Sr (Lo : Option Addr) (H0 G H G2 H2 : Hp) : Prop where
  g : Gr G G2
  s : Gr G2 H2
  h : ∀ a o, some a ≠ Lo → H0 a ≠ none → H a = some o → H2 a = some o
  k : ∀ a, H a ≠ none → H2 a ≠ none
  f : ∀ a, H0 a ≠ none → G a = none → G2 a = none
section
variable {Lo : Option Addr} {H0 G H G1 H1 G2 H2 : Hp}
theorem some_of_ne {α : Type} {o : Option α} (h : o ≠ none) : ∃ x, o = some x := by
  cases o with
  | none => exact absurd rfl h
  | some x => exact ⟨x, rfl⟩
theorem ne_of_some {α : Type} {o : Option α} {x : α} (h : o = some x) : o ≠ none := by rw [h]; simp
theorem Stp.sq (s : Stp G H G2 H2) : Sq Lo G H G2 H2 := ⟨s.g, s.s, fun a o _ e => s.h a o e, fun a e => by
  obtain ⟨o, q⟩ := some_of_ne e
  exact ne_of_some (s.h a o q), s.f⟩
theorem Sq.stp (s : Sq none G H G2 H2) : Stp G H G2 H2 := ⟨s.g, s.s, fun a o e => s.h a o (by simp) e, s.f⟩
theorem Sq.refl (s : Gr G H) : Sq Lo G H G H := (Stp.refl s).sq
theorem Sq.trans (a : Sq Lo G H G1 H1) (b : Sq Lo G1 H1 G2 H2) : Sq Lo G H G2 H2 :=
  ⟨a.g.trans b.g, b.s, fun x o n e => b.h x o n (a.h x o n e), fun x e => b.k x (a.k x e), fun x h1 h2 => b.f x (a.k x h1) (a.f x h1 h2)⟩
theorem Sr.refl (s : Gr G H) : Sr Lo H0 G H G H := ⟨.refl _, s, fun _ _ _ _ h => h, fun _ h => h, fun _ _ h => h⟩
theorem Sr.trans (a : Sr Lo H0 G H G1 H1) (b : Sr Lo H0 G1 H1 G2 H2) : Sr Lo H0 G H G2 H2 :=
  ⟨a.g.trans b.g, b.s, fun x o n m e => b.h x o n m (a.h x o n m e), fun x e => b.k x (a.k x e), fun x h1 h2 => b.f x h1 (a.f x h1 h2)⟩
theorem Sq.sr (s : Sq Lo G H G2 H2) (low : ∀ a, H0 a ≠ none → H a ≠ none) : Sr Lo H0 G H G2 H2 :=
  ⟨s.g, s.s, fun a o n _ e => s.h a o n e, s.k, fun a h1 h2 => s.f a (low a h1) h2⟩
theorem Sr.sq (s : Sr Lo H G H G2 H2) : Sq Lo G H G2 H2 := ⟨s.g, s.s, fun a o n e => s.h a o n (ne_of_some e) e, s.k, s.f⟩
end
/-! ### the row -/
structure RowAt (K : PySem.W.Frag) (G H : Hp) (L : Addr) (x : Rw) : Prop where
  g : G L = none
  at_ : ∃ a : Addr, H L = some (.lst [.ref a, .int x.i, .int x.s, .int x.r]) ∧ SqL K G a (x.ns.map V.int)
def RwOk (K : PySem.W.Frag) (Lo : Option Addr) (G H : Hp) (ρ : Ro) : Prop := ∀ x, ρ = some x → ∃ L, Lo = some L ∧ RowAt K G H L x
section
variable {K : PySem.W.Frag} {Lo : Option Addr} {G H G2 H2 : Hp} {ρ : Ro}
theorem RowAt.step {L : Addr} {x : Rw} (r : RowAt K G H L x) (s : Stp G H G2 H2) : RowAt K G2 H2 L x := by
  obtain ⟨a, e, h⟩ := r.at_
  exact ⟨s.f L (ne_of_some e) r.g, a, s.h _ _ e, gr_l s.g h⟩
theorem RwOk.step (r : RwOk K Lo G H ρ) (s : Stp G H G2 H2) : RwOk K Lo G2 H2 ρ := fun x hx =>
  let ⟨L, e, h⟩ := r x hx
  ⟨L, e, h.step s⟩
end
/-! ### what names hold -/
inductive LlOk (K : PySem.W.Frag) (G H : Hp) : List Addr → List (List Dt) → Prop where
  | nil : LlOk K G H [] []
  | cons {p : Addr} {vs : List V} {ds : List Dt} {ps : List Addr} {dss : List (List Dt)} : H p = some (.lst vs) → DqAll K G vs ds → LlOk K G H ps dss → LlOk K G H (p :: ps) (ds :: dss)
def OcOk (K : PySem.W.Frag) (G H : Hp) (v : V) (fp : List Addr) : Oc → Prop
  | .l xs => ∃ p vs, v = .ref p ∧ fp = [p] ∧ H p = some (.lst vs) ∧ DqAll K G vs xs
  | .ll xss => ∃ p ps, v = .ref p ∧ fp = p :: ps ∧ H p = some (.lst (ps.map V.ref)) ∧ LlOk K G H ps xss
  | .m kds => ∃ p kvs, v = .ref p ∧ fp = [p] ∧ H p = some (.dK kvs) ∧ KqOk K G kvs kds
def WvOk (K : PySem.W.Frag) (Lo : Option Addr) (G H : Hp) (v : V) (fp : List Addr) : Wv → Prop
  | .d x => Dq K G v x
  | .o c => OcOk K G H v fp c
  | .row => ∃ L, Lo = some L ∧ v = .ref L
structure EnS (K : PySem.W.Frag) (Lo : Option Addr) (H0 G H : Hp) (σ : L2.St) (s : Ss) (ρ : Ro) (A : Nat → List Addr) : Prop where
  gr : Gr G H
  row : RwOk K Lo G H ρ
  lo : ∀ L, Lo = some L → H L ≠ none
  low : ∀ a, H0 a ≠ none → H a ≠ none
  len : σ.length = s.length
  at_ : ∀ (i : Nat) (w : Wv), s[i]? = some (some w) → ∃ v, σ[i]? = some (some v) ∧ WvOk K Lo G H v (A i) w
  fp : ∀ i p, p ∈ A i → G p = none ∧ H0 p = none ∧ H p ≠ none ∧ some p ≠ Lo
  dj : ∀ i j p, p ∈ A i → p ∈ A j → i = j
  nd : ∀ i, (A i).Nodup
section
variable {K : PySem.W.Frag} {Lo : Option Addr} {H0 G H G2 H2 : Hp} {σ : L2.St} {s : Ss} {ρ ρ2 : Ro} {A : Nat → List Addr} {v : V} {w : Wv} {fp : List Addr} {c : Oc} {i : Nat}
theorem llOk_step : ∀ {ps : List Addr} {dss : List (List Dt)}, LlOk K G H ps dss → Gr G G2 → (∀ p ∈ ps, ∀ o, H p = some o → H2 p = some o) → LlOk K G2 H2 ps dss
  | _, _, .nil, _, _ => .nil
  | _, _, .cons a b t, g, h => .cons (h _ List.mem_cons_self _ a) (Dqsu b g) (llOk_step t g fun p hp => h p (List.mem_cons_of_mem _ hp))
theorem ocOk_step (o : OcOk K G H v fp c) (g : Gr G G2) (h : ∀ p ∈ fp, ∀ o, H p = some o → H2 p = some o) : OcOk K G2 H2 v fp c := by
  cases c with
  | l xs =>
    obtain ⟨p, vs, e1, e2, e3, e4⟩ := o
    subst e2
    exact ⟨p, vs, e1, rfl, h p List.mem_cons_self _ e3, Dqsu e4 g⟩
  | ll xss =>
    obtain ⟨p, ps, e1, e2, e3, e4⟩ := o
    subst e2
    exact ⟨p, ps, e1, rfl, h p List.mem_cons_self _ e3, llOk_step e4 g fun q hq => h q (List.mem_cons_of_mem _ hq)⟩
  | m kds =>
    obtain ⟨p, kvs, e1, e2, e3, e4⟩ := o
    subst e2
    exact ⟨p, kvs, e1, rfl, h p List.mem_cons_self _ e3, kq_up g e4⟩
theorem wvOk_step (o : WvOk K Lo G H v fp w) (g : Gr G G2) (h : ∀ p ∈ fp, ∀ o, H p = some o → H2 p = some o) : WvOk K Lo G2 H2 v fp w := by
  cases w with
  | d x => exact Dqu o g
  | o c => exact ocOk_step o g h
  | row => exact o
theorem EnS.step (e : EnS K Lo H0 G H σ s ρ A) (q : Sq Lo G H G2 H2) (r : RwOk K Lo G2 H2 ρ2) : EnS K Lo H0 G2 H2 σ s ρ2 A where
  gr := q.s
  row := r
  lo := fun L h => q.k L (e.lo L h)
  low := fun a h => q.k a (e.low a h)
  len := e.len
  at_ := fun i w hw => by
    obtain ⟨v, a, b⟩ := e.at_ i w hw
    exact ⟨v, a, wvOk_step b q.g fun p hp o ho => q.h p o (e.fp i p hp).2.2.2 ho⟩
  fp := fun i p hp => by
    obtain ⟨a, b, c, d⟩ := e.fp i p hp
    exact ⟨q.f p c a, b, q.k p c, d⟩
  dj := e.dj
  nd := e.nd
theorem EnS.stp (e : EnS K Lo H0 G H σ s ρ A) (q : Stp G H G2 H2) : EnS K Lo H0 G2 H2 σ s ρ A := e.step q.sq (e.row.step q)
/-- a name is set -/
theorem EnS.set (e : EnS K Lo H0 G H σ s ρ A) (i : Nat) (hw : WvOk K Lo G H v [] w) (hn : ∀ c : Oc, w ≠ .o c) : EnS K Lo H0 G H (σ.set i (some v)) (s.set i (some w)) ρ A where
  gr := e.gr
  row := e.row
  lo := e.lo
  low := e.low
  len := by rw [List.length_set, List.length_set, e.len]
  at_ := fun j u hj => by
    by_cases q : j = i
    · subst q
      have hl : j < (s.set j (some w)).length := (List.getElem?_eq_some_iff.mp hj).1
      rw [List.length_set] at hl
      rw [List.getElem?_set_self hl] at hj
      have hj' : w = u := by injection hj with hj; injection hj
      subst hj'
      refine ⟨v, by rw [List.getElem?_set_self (by rw [e.len]; exact hl)], ?_⟩
      cases w with
      | d x => exact hw
      | row => exact hw
      | o c => exact absurd rfl (hn c)
    · rw [List.getElem?_set_ne (Ne.symm q)] at hj
      obtain ⟨x, a, b⟩ := e.at_ j u hj
      exact ⟨x, by rw [List.getElem?_set_ne (Ne.symm q)]; exact a, b⟩
  fp := e.fp
  dj := e.dj
  nd := e.nd
theorem EnS.setD {x : Dt} (e : EnS K Lo H0 G H σ s ρ A) (i : Nat) (h : Dq K G v x) : EnS K Lo H0 G H (σ.set i (some v)) (s.set i (some (.d x))) ρ A := e.set i (w := .d x) h fun c h => nomatch h
/-- forgetting: names of s that are none in s2 -/
theorem EnS.weak {s2 : Ss} (e : EnS K Lo H0 G H σ s ρ A) (hl : s.length = s2.length) (h : ∀ (i : Nat) (w : Wv), s2[i]? = some (some w) → s[i]? = some (some w)) : EnS K Lo H0 G H σ s2 ρ A where
  gr := e.gr
  row := e.row
  lo := e.lo
  low := e.low
  len := e.len.trans hl
  at_ := fun i w hw => e.at_ i w (h i w hw)
  fp := e.fp
  dj := e.dj
  nd := e.nd
def wipeS (s : Ss) : List Nat → Ss
  | [] => s
  | v :: vs => (wipeS s vs).set v none
theorem EnS.unset (e : EnS K Lo H0 G H σ s ρ A) (v : Nat) : EnS K Lo H0 G H (σ.set v none) (s.set v none) ρ A where
  gr := e.gr
  row := e.row
  lo := e.lo
  low := e.low
  len := by rw [List.length_set, List.length_set, e.len]
  at_ := fun j u hj => by
    by_cases q : j = v
    · subst q
      have hl : j < (s.set j none).length := (List.getElem?_eq_some_iff.mp hj).1
      rw [List.length_set] at hl
      rw [List.getElem?_set_self hl] at hj
      cases hj
    · rw [List.getElem?_set_ne (Ne.symm q)] at hj
      obtain ⟨x, a, b⟩ := e.at_ j u hj
      exact ⟨x, by rw [List.getElem?_set_ne (Ne.symm q)]; exact a, b⟩
  fp := e.fp
  dj := e.dj
  nd := e.nd
theorem EnS.wipe (e : EnS K Lo H0 G H σ s ρ A) : ∀ vs : List Nat, EnS K Lo H0 G H (wipe σ vs) (wipeS s vs) ρ A
  | [] => e
  | v :: vs => (EnS.wipe e vs).unset v
end
/-! ### judgements -/
def ExOk (mg : Str → Option Value) (x : Exn) (c : Value) (da : Option Addr) (H : Hp) : Prop := mg x.c = some c ∧ match x.p with
  | none => da = none
  | some (f, i) => ∃ d, da = some d ∧ H d = some (.xd [(f, .int i)])
def Kt {β γ : Type} (K : PySem.W.Frag) (mg : Str → Option Value) (E : XK) (P : Hp → β → γ → Prop) (Lo : Option Addr) (G H : Hp) (ρ : Ro) (Q : β → Hp → Prop) : Except Exn γ → Prop
  | .ok d => ∀ v G2 H2, Sq Lo G H G2 H2 → RwOk K Lo G2 H2 ρ → P G2 v d → Q v H2
  | .error x => ∀ c da G2 H2, Sq Lo G H G2 H2 → RwOk K Lo G2 H2 ρ → ExOk mg x c da H2 → E c da H2
def XJ {β γ : Type} (K : PySem.W.Frag) (mg : Str → Option Value) (E : XK) (P : Hp → β → γ → Prop) (t : L2.St → Hp → (β → Hp → Prop) → Prop) (g : ME γ) : Prop :=
  ∀ (Lo : Option Addr) (H0 : Hp) (σ : L2.St) (G H : Hp) (s : Ss) (ρ : Ro) (A : Nat → List Addr) (r : Except Exn γ) (ρ' : Ro) (Q : β → Hp → Prop), g s ρ = some (r, ρ') → EnS K Lo H0 G H σ s ρ A → Kt K mg E P Lo G H ρ' Q r → t σ H Q
abbrev XE (K : PySem.W.Frag) (mg : Str → Option Value) (E : XK) (t : TE) (g : ME Dt) : Prop := XJ K mg E (Dq K) t g
abbrev XA (K : PySem.W.Frag) (mg : Str → Option Value) (E : XK) (t : TA) (g : ME (List Dt)) : Prop := XJ K mg E (DqAll K) t g
abbrev XT (K : PySem.W.Frag) (mg : Str → Option Value) (E : XK) (t : TT) (g : ME Bool) : Prop := XJ K mg E (fun _ b c => b = c) t g
section
variable {K : PySem.W.Frag} {mg : Str → Option Value} {E : XK} {Lo : Option Addr} {H0 G H G1 H1 G2 H2 : Hp} {σ : L2.St} {s : Ss} {ρ ρ' : Ro} {A : Nat → List Addr}
theorem Kt.step {β γ : Type} {P : Hp → β → γ → Prop} {Q : β → Hp → Prop} {r : Except Exn γ} (k : Kt K mg E P Lo G H ρ Q r) (q : Sq Lo G H G1 H1) : Kt K mg E P Lo G1 H1 ρ Q r := by
  cases r with
  | ok d => exact fun v G2 H2 s2 => k v G2 H2 (q.trans s2)
  | error x => exact fun c da G2 H2 s2 => k c da G2 H2 (q.trans s2)
theorem xj_at {α β γ δ : Type} {P1 : Hp → α → γ → Prop} {P2 : Hp → β → δ → Prop} {t1 : L2.St → Hp → (α → Hp → Prop) → Prop} {g : ME γ} {k : γ → ME δ} {r : Except Exn δ} {Q : β → Hp → Prop} {T : α → Hp → Prop}
    (h1 : XJ K mg E P1 t1 g) (hg : bnd g k s ρ = some (r, ρ')) (e : EnS K Lo H0 G H σ s ρ A) (q : Kt K mg E P2 Lo G H ρ' Q r)
    (c : ∀ v d G1 H1 ρ1, Sq Lo G H G1 H1 → P1 G1 v d → k d s ρ1 = some (r, ρ') → EnS K Lo H0 G1 H1 σ s ρ1 A → Kt K mg E P2 Lo G1 H1 ρ' Q r → T v H1) : t1 σ H T := by
  unfold bnd at hg
  cases h : g s ρ with
  | none => rw [h] at hg; cases hg
  | some p =>
    obtain ⟨r1, ρ1⟩ := p
    rw [h] at hg
    cases r1 with
    | error x =>
      cases hg
      exact h1 Lo H0 σ G H s ρ A _ _ _ h e q
    | ok d => exact h1 Lo H0 σ G H s ρ A _ _ _ h e fun v G1 H1 s1 r1 p1 => c v d G1 H1 ρ1 s1 p1 hg (e.step s1 r1) (q.step s1)
theorem lft_some {α : Type} {o : Option α} {s : Ss} {ρ ρ' : Ro} {r : Except Exn α} (h : lft o s ρ = some (r, ρ')) : ∃ a, o = some a ∧ r = .ok a ∧ ρ' = ρ := by
  unfold lft at h
  cases o with
  | none => cases h
  | some a => cases h; exact ⟨a, rfl, rfl, rfl⟩
/-! expressions -/
def fVar (i : Nat) : ME Dt := fun s ρ => match s[i]? with
  | some (some (.d x)) => some (.ok x, ρ)
  | _ => none
theorem xe_var (i : Nat) : XE K mg E (tVar i) (fVar i) := fun Lo H0 σ G H s ρ A r ρ' Q hg e q => by
  unfold fVar at hg
  split at hg
  · rename_i x hx
    cases hg
    obtain ⟨v, a, b⟩ := e.at_ i _ hx
    exact ⟨v, a, q v G H (.refl e.gr) e.row b⟩
  · cases hg
theorem xe_C {v : V} {d : Dt} (h : ∀ G, Dq K G v d) : XE K mg E (tC v) (ret d) := fun Lo H0 σ G H s ρ A r ρ' Q hg e q => by
  cases hg
  exact q v G H (.refl e.gr) e.row (h G)
theorem xe_int (i : Int) : XE K mg E (tC (.int i)) (ret (.int i)) := xe_C fun _ => .int i
theorem xe_bl (b : Bool) : XE K mg E (tC (.bl b)) (ret (.bool b)) := xe_C fun _ => .bl b
theorem xe_non : XE K mg E (tC .non) (ret .none) := xe_C fun _ => .non
theorem xe_str (z : Str) : XE K mg E (tC (.str z)) (ret (.str z)) := xe_C fun _ => .str z
end
end Sb

/-! Seamboard, layer F2: expressions. -/
namespace Sb
open PySem PySem.Spec PyProof.Rows L2
section
variable {K : PySem.W.Frag}
def RVq (K : PySem.W.Frag) (r : R2) (x y z : Dt) : Prop := ∀ (G H : Hp) (v u : V) (Q : VK), Gr G H → Dq K G v x → Dq K G u y → (∀ w G2 H2, Stp G H G2 H2 → Dq K G2 w z → Q w H2) → r v u H Q
def RVo (K : PySem.W.Frag) (r : R2) (o : Dt → Dt → Option Dt) : Prop := ∀ x y z, o x y = some z → RVq K r x y z
def RUo (K : PySem.W.Frag) (r : V → Hp → VK → Prop) (o : Dt → Option Dt) : Prop := ∀ x z, o x = some z → ∀ (G H : Hp) (v : V) (Q : VK), Gr G H → Dq K G v x → (∀ w G2 H2, Stp G H G2 H2 → Dq K G2 w z → Q w H2) → r v H Q
def RCo (K : PySem.W.Frag) (r : List V → Hp → VK → Prop) (o : List Dt → Option Dt) : Prop := ∀ xs z, o xs = some z → ∀ (G H : Hp) (vs : List V) (Q : VK), Gr G H → DqAll K G vs xs → (∀ w G2 H2, Stp G H G2 H2 → Dq K G2 w z → Q w H2) → r vs H Q
theorem rvq_of {r : R2} {x y z : Dt} (h : RV K r x y z) (f : flatD z = true) : RVq K r x y z := fun G H v u Q s a b q => h G H v u Q s a.p b.p fun w G2 H2 s2 d => q w G2 H2 s2 (dp_q d f)
theorem rcq_of {r : List V → Hp → VK → Prop} {xs : List Dt} {z : Dt} (h : RC K r xs z) (f : flatD z = true) (G H : Hp) (vs : List V) (Q : VK) (s : Gr G H) (a : DqAll K G vs xs) (q : ∀ w G2 H2, Stp G H G2 H2 → Dq K G2 w z → Q w H2) : r vs H Q := h G H vs Q s a.p fun w G2 H2 s2 d => q w G2 H2 s2 (dp_q d f)
/-! ### operators -/
def oI (f : Int → Int → Int) : Dt → Dt → Option Dt
  | .int i, .int j => some (.int (f i j))
  | _, _ => none
def oB (f : Int → Int → Bool) : Dt → Dt → Option Dt
  | .int i, .int j => some (.bool (f i j))
  | _, _ => none
def oIC (c : Int → Int → Bool) (f : Int → Int → Int) : Dt → Dt → Option Dt
  | .int i, .int j => if c i j = true then some (.int (f i j)) else none
  | _, _ => none
theorem rvo_I (f : Int → Int → Int) : RVo K (rI0 fun i j => .int (f i j)) (oI f) := fun x y z h => by
  unfold oI at h
  split at h
  · cases h; exact rvq_of rv_I0 rfl
  · cases h
theorem rvo_B (f : Int → Int → Bool) : RVo K (rI0 fun i j => .bl (f i j)) (oB f) := fun x y z h => by
  unfold oB at h
  split at h
  · cases h; exact rvq_of rv_B0 rfl
  · cases h
theorem rvo_IC {C : Int → Int → Prop} {c : Int → Int → Bool} {f : Int → Int → Int} (hc : ∀ i j, c i j = true → C i j) : RVo K (rI C fun i j => .int (f i j)) (oIC c f) := fun x y z h => by
  unfold oIC at h
  split at h
  · split at h
    · rename_i e
      cases h; exact rvq_of (rv_I (hc _ _ e)) rfl
    · cases h
  · cases h
def cMul (i j : Int) : Bool := decide (-1000000000000 ≤ i ∧ i ≤ 1000000000000) || decide (-1000000000000 ≤ j ∧ j ≤ 1000000000000)
def cPos (_ j : Int) : Bool := decide (0 < j)
def cDiv (_ j : Int) : Bool := decide (0 < j ∧ j < 1073741824)
def cPow (i j : Int) : Bool := decide (0 ≤ j ∧ j ≤ 1000000) && decide (i.natAbs < 2 ^ 64)
def cNn (_ j : Int) : Bool := decide (0 ≤ j)
abbrev oAdd := oI fun i j => i + j
abbrev oSub := oI fun i j => i - j
abbrev oMul := oIC cMul fun i j => i * j
abbrev oMod := oIC cPos fun i j => i % j
abbrev oDiv := oIC cDiv fun i j => i / j
abbrev oPow := oIC cPow fun i j => i ^ j.toNat
abbrev oShl := oIC cPow fun i j => i * 2 ^ j.toNat
abbrev oShr := oIC cNn fun i j => i / 2 ^ j.toNat
abbrev oXor := oI fun i j => Builtin.bitXor i j
abbrev oLt := oB fun i j => decide (i < j)
abbrev oLe := oB fun i j => decide (i ≤ j)
abbrev oGt := oB fun i j => decide (j < i)
abbrev oGe := oB fun i j => decide (j ≤ i)
theorem rvo_mul : RVo K (rI CMul fun i j => .int (i * j)) oMul := rvo_IC fun i j h => by
  unfold cMul at h
  rw [Bool.or_eq_true, decide_eq_true_eq, decide_eq_true_eq] at h
  rcases h with h | h
  · exact cmul h
  · exact cmul' h
theorem rvo_mod : RVo K (rI (fun _ j => 0 < j) fun i j => .int (i % j)) oMod := rvo_IC fun i j h => of_decide_eq_true h
theorem rvo_div : RVo K (rI CDiv fun i j => .int (i / j)) oDiv := rvo_IC fun i j h => (of_decide_eq_true (p := 0 < j ∧ j < 1073741824) h : CDiv i j)
theorem cpow_of {i j : Int} (h : cPow i j = true) : CPow i j := by
  unfold cPow at h
  rw [Bool.and_eq_true, decide_eq_true_eq, decide_eq_true_eq] at h
  exact ⟨h.1.1, h.1.2, h.2⟩
theorem rvo_pow : RVo K (rI CPow fun i j => .int (i ^ j.toNat)) oPow := rvo_IC fun i j h => cpow_of h
theorem rvo_shl : RVo K (rI CPow fun i j => .int (i * 2 ^ j.toNat)) oShl := rvo_IC fun i j h => cpow_of h
theorem rvo_shr : RVo K (rI (fun _ j => 0 ≤ j) fun i j => .int (i / 2 ^ j.toNat)) oShr := rvo_IC fun i j h => of_decide_eq_true h
def oEq (x y : Dt) : Option Dt := if (SeqAt.shaped x && SeqAt.shaped y) = true then some (.bool (PyData.eqv x y)) else none
def oNe (x y : Dt) : Option Dt := if (SeqAt.shaped x && SeqAt.shaped y) = true then some (.bool (!PyData.eqv x y)) else none
theorem rvo_eq : RVo K (rEqD K) oEq := fun x y z h => by
  unfold oEq at h
  split at h
  · rename_i e
    rw [Bool.and_eq_true] at e
    cases h; exact rvq_of (rv_eqD e.1 e.2) rfl
  · cases h
theorem rvo_ne : RVo K (rNeD K) oNe := fun x y z h => by
  unfold oNe at h
  split at h
  · rename_i e
    rw [Bool.and_eq_true] at e
    cases h; exact rvq_of (rv_neD e.1 e.2) rfl
  · cases h
def oIsN (x y : Dt) : Option Dt := match y with
  | .none => some (.bool (isNo x))
  | _ => none
def oNotN (x y : Dt) : Option Dt := match y with
  | .none => some (.bool (!isNo x))
  | _ => none
theorem rvo_isN : RVo K (fun x y H Q => y = .non ∧ Q (.bl (decide (x = .non))) H) oIsN := fun x y z h => by
  unfold oIsN at h
  split at h
  · cases h; exact rvq_of rv_isN rfl
  · cases h
theorem rvo_notN : RVo K (fun x y H Q => y = .non ∧ Q (.bl (!decide (x = .non))) H) oNotN := fun x y z h => by
  unfold oNotN at h
  split at h
  · cases h; exact rvq_of rv_notN rfl
  · cases h
/-- a sequence's things -/
def seqD : Dt → Option (List Dt)
  | .tuple ds => some ds
  | .list ds => some ds
  | _ => none
def oIn (x y : Dt) : Option Dt := match seqD y with
  | some ds => if (flatD x && ds.all flatD) = true then some (.bool (inD x ds)) else none
  | none => none
def oNi (x y : Dt) : Option Dt := match seqD y with
  | some ds => if (flatD x && ds.all flatD) = true then some (.bool (!inD x ds)) else none
  | none => none
theorem rvo_inS (neg : Bool) {x y z : Dt} (h : (match seqD y with
  | some ds => if (flatD x && ds.all flatD) = true then some (.bool (if neg then !inD x ds else inD x ds)) else none
  | none => none) = some z) : RVq K (rIn K neg) x y z := fun G H v u Q s a b q => by
  cases hy : seqD y with
  | none => rw [hy] at h; cases h
  | some ds =>
    rw [hy] at h
    simp only [] at h
    split at h
    · rename_i e
      rw [Bool.and_eq_true] at e
      cases h
      have key : ∀ (p : Addr) (vs : List V), u = .ref p → (SqL K H p vs ∨ SqT K H p vs) → DqAll K G vs ds → rIn K neg v u H Q := fun p vs eu hs dv => by
        refine ⟨p, vs, eu, hs, flat_v a.p e.1, flats_v dv.p e.2, ?_⟩
        rw [inV_v a.p e.1 dv.p e.2]
        exact q _ G H (.refl s) (.bl _)
      cases y with
      | list ds' =>
        cases hy
        cases b with
        | lst h1 h2 => exact key _ _ rfl (.inl (SqL.of (s _ _ h1))) h2
      | tuple ds' =>
        cases hy
        cases b with
        | tup h1 h2 => exact key _ _ rfl (.inr (gr_t s h1)) h2
      | none => cases hy
      | bool _ => cases hy
      | int _ => cases hy
      | str _ => cases hy
      | dict _ => cases hy
    · cases h
theorem rvo_in : RVo K (rIn K false) oIn := fun x y z h => rvo_inS false h
theorem rvo_ni : RVo K (rIn K true) oNi := fun x y z h => rvo_inS true h
/-! subscripts -/
theorem atq_of {G : Hp} {vs : List V} {ds : List Dt} {i : Int} {d : Dt} (h : DqAll K G vs ds) (e : atI ds i = some d) : ∃ v, atI vs i = some v ∧ Dq K G v d := by
  unfold atI at e ⊢
  rw [dqs_len h]
  cases q : ixN ds.length i with
  | none => rw [q] at e; cases e
  | some j =>
    rw [q] at e
    exact dqs_get h e
def oIxT : Dt → Dt → Option Dt
  | .tuple ds, .int i => atI ds i
  | _, _ => none
def oIxL : Dt → Dt → Option Dt
  | .list ds, .int i => atI ds i
  | _, _ => none
def oIxO : Dt → Dt → Option Dt
  | .tuple ds, .int i => atI ds i
  | .list ds, .int i => atI ds i
  | _, _ => none
theorem rvq_ixT {ds : List Dt} {i : Int} {d : Dt} (e : atI ds i = some d) : RVq K (rIxT K) (.tuple ds) (.int i) d := fun G H v u Q s a b q => by
  cases b
  cases a with
  | tup h1 h2 =>
    obtain ⟨w, e1, e2⟩ := atq_of h2 e
    exact ⟨_, _, i, w, rfl, rfl, gr_t s h1, e1, q _ G H (.refl s) e2⟩
theorem rvq_ixL {ds : List Dt} {i : Int} {d : Dt} (e : atI ds i = some d) : RVq K (rIxL K) (.list ds) (.int i) d := fun G H v u Q s a b q => by
  cases b
  cases a with
  | lst h1 h2 =>
    obtain ⟨w, e1, e2⟩ := atq_of h2 e
    exact ⟨_, _, i, w, rfl, rfl, SqL.of (s _ _ h1), e1, q _ G H (.refl s) e2⟩
theorem rvo_ixT : RVo K (rIxT K) oIxT := fun x y z h => by
  unfold oIxT at h
  split at h
  · exact rvq_ixT h
  · cases h
theorem rvo_ixL : RVo K (rIxL K) oIxL := fun x y z h => by
  unfold oIxL at h
  split at h
  · exact rvq_ixL h
  · cases h
theorem rvo_ixO : RVo K (rIxO K) oIxO := fun x y z h G H v u Q s a b q => by
  unfold oIxO at h
  split at h
  · exact .inl (rvq_ixT h G H v u Q s a b q)
  · exact .inr (rvq_ixL h G H v u Q s a b q)
  · cases h
/-- a sign of a text -/
def oIxS : Dt → Dt → Option Dt
  | .str z, .int i => if z.length ≤ 100000 then match atI z.cps.toList i with
    | some c => some (.str (sg c))
    | none => none
    else none
  | _, _ => none
theorem rvo_ixS : RVo K rIxS oIxS := fun x y z h => by
  unfold oIxS at h
  split at h
  · split at h
    · rename_i hl
      split at h
      · rename_i e
        cases h; exact rvq_of (rv_ixS hl e) rfl
      · cases h
    · cases h
  · cases h
def oCatT : Dt → Dt → Option Dt
  | .tuple xs, .tuple ys => if xs.length + ys.length ≤ 100000 then some (.tuple (xs ++ ys)) else none
  | _, _ => none
theorem rvo_catT : RVo K (rCatA K) oCatT := fun x y z h G H v u Q s a b q => by
  unfold oCatT at h
  split at h
  · split at h
    · rename_i hl
      cases h
      cases a with
      | tup h1 h2 =>
        cases b with
        | tup k1 k2 =>
          refine ⟨_, _, _, _, rfl, rfl, gr_t s h1, gr_t s k1, by rw [dqs_len h2, dqs_len k2]; exact Evl.sz_of hl, fun e => ?_, fun e e' => ?_, fun e e' p hp => ?_⟩
          · subst e; cases h2; exact q _ G H (.refl s) (.tup k1 k2)
          · subst e'; cases k2; exact q _ G H (.refl s) (by rw [List.append_nil]; exact .tup h1 h2)
          · have n := newq_t s hp (dqs_app h2 k2); exact q _ _ _ n.1 n.2
    · cases h
  · cases h
def oCatS : Dt → Dt → Option Dt
  | .str a, .str b => if a.length + b.length ≤ 100000 then some (.str (a ++ b)) else none
  | _, _ => none
theorem rvo_catS : RVo K rCatS oCatS := fun x y z h => by
  unfold oCatS at h
  split at h
  · split at h
    · rename_i hl
      cases h; exact rvq_of (rv_catS hl) rfl
    · cases h
  · cases h
/-- one sign in a text -/
def oInC : Dt → Dt → Option Dt
  | .str a, .str z => match a.cps.toList with
    | [c] => some (.bool (decide (c ∈ z.cps.toList)))
    | _ => none
  | _, _ => none
def oNiC : Dt → Dt → Option Dt
  | .str a, .str z => match a.cps.toList with
    | [c] => some (.bool (!decide (c ∈ z.cps.toList)))
    | _ => none
  | _, _ => none
theorem one_sign {a : Str} {c : Nat} (h : a.cps.toList = [c]) : a = sg c := by
  cases a with
  | mk cps => 
    have : cps = #[c] := by
      apply Array.toList_inj.mp
      exact h
    subst this; rfl
theorem rvo_inC : RVo K rInC oInC := fun x y z h => by
  unfold oInC at h
  split at h
  · split at h
    · rename_i e
      have := one_sign e
      subst this
      cases h; exact rvq_of rv_inC rfl
    · cases h
  · cases h
theorem rvo_niC : RVo K rNiC oNiC := fun x y z h => by
  unfold oNiC at h
  split at h
  · split at h
    · rename_i e
      have := one_sign e
      subst this
      cases h; exact rvq_of rv_niC rfl
    · cases h
  · cases h
/-! ### built-ins -/
def oLen : List Dt → Option Dt
  | [x] => match seqD x with
    | some ds => some (.int ds.length)
    | none => none
  | _ => none
theorem rco_len : RCo K (rLen K) oLen := fun xs z h => by
  unfold oLen at h
  split at h
  · rename_i x
    cases x with
    | list ds => cases h; exact rcq_of rc_lenL rfl
    | tuple ds => cases h; exact rcq_of rc_lenT rfl
    | none => cases h
    | bool _ => cases h
    | int _ => cases h
    | str _ => cases h
    | dict _ => cases h
  · cases h
def oLenS : List Dt → Option Dt
  | [.str z] => if z.length ≤ 100000 then some (.int z.length) else none
  | _ => none
theorem rco_lenS : RCo K rLenS oLenS := fun xs z h => by
  unfold oLenS at h
  split at h
  · split at h
    · rename_i hl
      cases h; exact rcq_of (rc_lenS hl) rfl
    · cases h
  · cases h
def oTup : List Dt → Option Dt
  | [.list ds] => some (.tuple ds)
  | [.tuple ds] => some (.tuple ds)
  | _ => none
theorem rco_tup : RCo K (rTupOf K) oTup := fun xs z h G H vs Q s a q => by
  unfold oTup at h
  split at h
  · cases h
    cases a with
    | cons a b =>
      cases b
      cases a with
      | lst h1 h2 => exact ⟨_, _, rfl, .inl ⟨SqL.of (s _ _ h1), fun l hl => let n := newq_t s hl h2; q _ _ _ n.1 n.2⟩⟩
  · cases h
    cases a with
    | cons a b =>
      cases b
      cases a with
      | tup h1 h2 => exact ⟨_, _, rfl, .inr ⟨gr_t s h1, q _ G H (.refl s) (.tup h1 h2)⟩⟩
  · cases h
def oInt : List Dt → Option Dt
  | [.int i] => some (.int i)
  | [.bool b] => some (.int (if b then 1 else 0))
  | _ => none
theorem rco_int : RCo K (fun xs H Q => (∃ i, xs = [.int i] ∧ Q (.int i) H) ∨ ∃ k, xs = [.bl k] ∧ Q (.int (if k then 1 else 0)) H) oInt := fun xs z h => by
  unfold oInt at h
  split at h
  · cases h; exact rcq_of rc_int_i rfl
  · cases h; exact rcq_of rc_int_b rfl
  · cases h
def oMin2 : List Dt → Option Dt
  | [.int i, .int j] => some (.int (min i j))
  | _ => none
theorem rco_min2 : RCo K (fun xs H Q => ∃ i j, xs = [.int i, .int j] ∧ Q (.int (if j < i then j else i)) H) oMin2 := fun xs z h => by
  unfold oMin2 at h
  split at h
  · cases h; exact rcq_of rc_min2 rfl
  · cases h
/-- the numbers of data that are numbers -/
def toInts : List Dt → Option (List Int)
  | [] => some []
  | .int i :: ds => match toInts ds with
    | some is => some (i :: is)
    | none => none
  | _ :: _ => none
theorem toInts_eq : ∀ {ds : List Dt} {is : List Int}, toInts ds = some is → ds = is.map .int
  | [], _, h => by cases h; rfl
  | .int i :: ds, _, h => by
    unfold toInts at h
    split at h
    · rename_i e
      cases h
      rw [toInts_eq e]; rfl
    · cases h
  | .none :: _, _, h => by cases h
  | .bool _ :: _, _, h => by cases h
  | .str _ :: _, _, h => by cases h
  | .list _ :: _, _, h => by cases h
  | .tuple _ :: _, _, h => by cases h
  | .dict _ :: _, _, h => by cases h
theorem toInts_map : ∀ is : List Int, toInts (is.map PyData.int) = some is
  | [] => rfl
  | i :: is => by rw [List.map_cons]; unfold toInts; rw [toInts_map is]
def oSum : List Dt → Option Dt
  | [.list ds] => match toInts ds with
    | some is => some (.int is.sum)
    | none => none
  | _ => none
theorem rco_sum : RCo K (rSum K) oSum := fun xs z h => by
  unfold oSum at h
  split at h
  · split at h
    · rename_i e
      cases h
      rw [toInts_eq e]; exact rcq_of rc_sum rfl
    · cases h
  · cases h
end
end Sb

/-! Seamboard, layer F3: expressions, arguments, tests, what is walked. -/
namespace Sb
open PySem PySem.Spec PyProof.Rows L2
section
variable {K : PySem.W.Frag} {mg : Str → Option Value} {E : XK} {Lo : Option Addr} {H0 G H G1 H1 G2 H2 : Hp} {σ : L2.St} {s : Ss} {ρ ρ' : Ro} {A : Nat → List Addr}
theorem Kt.ok {β γ : Type} {P : Hp → β → γ → Prop} {Q : β → Hp → Prop} {d : γ} (q : Kt K mg E P Lo G H ρ Q (.ok d)) (e : EnS K Lo H0 G H σ s ρ A) {v : β} (s1 : Stp G H G2 H2) (p : P G2 v d) : Q v H2 := q v G2 H2 s1.sq (e.row.step s1) p
def fOp (o : Dt → Dt → Option Dt) (a b : ME Dt) : ME Dt := bnd a fun x => bnd b fun y => lft (o x y)
theorem xe_op {r : R2} {o : Dt → Dt → Option Dt} {ta tb : TE} {a b : ME Dt} (hr : RVo K r o) (ha : XE K mg E ta a) (hb : XE K mg E tb b) : XE K mg E (tOp r ta tb) (fOp o a b) := fun Lo H0 σ G H s ρ A r' ρ' Q hg e q => by
  show ta σ H _
  refine xj_at ha hg e q fun v x G1 H1 ρ1 s1 dv hg e q => ?_
  show tb σ H1 _
  refine xj_at hb hg e q fun u y G2 H2 ρ2 s2 du hg e q => ?_
  obtain ⟨z, hz, rfl, rfl⟩ := lft_some hg
  exact hr x y z hz G2 H2 v u Q e.gr (Dqu dv s2.g) du fun w G3 H3 s3 dw => q.ok e s3 dw
def fUn (o : Dt → Option Dt) (a : ME Dt) : ME Dt := bnd a fun x => lft (o x)
theorem xe_un {r : V → Hp → VK → Prop} {o : Dt → Option Dt} {ta : TE} {a : ME Dt} (hr : RUo K r o) (ha : XE K mg E ta a) : XE K mg E (tUn r ta) (fUn o a) := fun Lo H0 σ G H s ρ A r' ρ' Q hg e q => by
  show ta σ H _
  refine xj_at ha hg e q fun v x G1 H1 ρ1 s1 dv hg e q => ?_
  obtain ⟨z, hz, rfl, rfl⟩ := lft_some hg
  exact hr x z hz G1 H1 v Q e.gr dv fun w G3 H3 s3 dw => q.ok e s3 dw
/-! arguments -/
def fNil : ME (List Dt) := ret []
def fCons (a : ME Dt) (t : ME (List Dt)) : ME (List Dt) := bnd a fun x => bnd t fun xs => ret (x :: xs)
def fStar (a : ME Dt) (t : ME (List Dt)) : ME (List Dt) := bnd a fun x => match seqD x with
  | some ds => bnd t fun xs => ret (ds ++ xs)
  | none => lft none
theorem ret_some {α : Type} {a : α} {s : Ss} {ρ ρ' : Ro} {r : Except Exn α} (h : ret a s ρ = some (r, ρ')) : r = .ok a ∧ ρ' = ρ := by
  unfold ret at h; cases h; exact ⟨rfl, rfl⟩
theorem xa_nil : XA K mg E tNil fNil := fun Lo H0 σ G H s ρ A r ρ' Q hg e q => by
  obtain ⟨rfl, rfl⟩ := ret_some hg
  exact q.ok e (.refl e.gr) .nil
theorem xa_cons {ta : TE} {tt : TA} {a : ME Dt} {t : ME (List Dt)} (ha : XE K mg E ta a) (ht : XA K mg E tt t) : XA K mg E (tCons ta tt) (fCons a t) := fun Lo H0 σ G H s ρ A r' ρ' Q hg e q => by
  show ta σ H _
  refine xj_at ha hg e q fun v x G1 H1 ρ1 s1 dv hg e q => ?_
  show tt σ H1 _
  refine xj_at ht hg e q fun u y G2 H2 ρ2 s2 du hg e q => ?_
  obtain ⟨rfl, rfl⟩ := ret_some hg
  exact q.ok e (.refl e.gr) (.cons (Dqu dv s2.g) du)
theorem xa_star {ta : TE} {tt : TA} {a : ME Dt} {t : ME (List Dt)} (ha : XE K mg E ta a) (ht : XA K mg E tt t) : XA K mg E (StX.tStar K ta tt) (fStar a t) := fun Lo H0 σ G H s ρ A r' ρ' Q hg e q => by
  show ta σ H _
  refine xj_at ha hg e q fun v x G1 H1 ρ1 s1 dv hg e q => ?_
  cases hx : seqD x with
  | none => rw [hx] at hg; cases hg
  | some ds =>
    rw [hx] at hg
    have key : ∀ (p : Addr) (vs : List V), v = .ref p → (SqT K H1 p vs ∨ SqL K H1 p vs) → DqAll K G1 vs ds → ∃ p xs, v = V.ref p ∧ (SqT K H1 p xs ∨ SqL K H1 p xs) ∧ tt σ H1 fun ys H2 => Q (xs ++ ys) H2 := fun p vs ev hs dvs => by
      refine ⟨p, vs, ev, hs, ?_⟩
      refine xj_at ht hg e q fun u y G2 H2 ρ2 s2 du hg e q => ?_
      obtain ⟨rfl, rfl⟩ := ret_some hg
      exact q.ok e (.refl e.gr) (dqs_app (Dqsu dvs s2.g) du)
    cases x with
    | list ds' =>
      cases hx
      cases dv with
      | lst h1 h2 => exact key _ _ rfl (.inr (SqL.of (e.gr _ _ h1))) h2
    | tuple ds' =>
      cases hx
      cases dv with
      | tup h1 h2 => exact key _ _ rfl (.inl (gr_t e.gr h1)) h2
    | none => cases hx
    | bool _ => cases hx
    | int _ => cases hx
    | str _ => cases hx
    | dict _ => cases hx

def fTup (t : ME (List Dt)) : ME Dt := bnd t fun ds => lft (if ds.length ≤ 100000 then some (.tuple ds) else none)
theorem xe_tup {tt : TA} {t : ME (List Dt)} (ht : XA K mg E tt t) : XE K mg E (tTup tt) (fTup t) := fun Lo H0 σ G H s ρ A r ρ' Q hg e q => by
  show tt σ H _
  refine xj_at ht hg e q fun vs ds G1 H1 ρ1 s1 dv hg e q => ?_
  obtain ⟨z, hz, rfl, rfl⟩ := lft_some hg
  split at hz
  · rename_i hl
    cases hz
    refine ⟨by rw [dqs_len dv]; exact Evl.sz_of hl, fun p hp => ?_⟩
    have n := newq_t e.gr hp dv
    exact q.ok e n.1 n.2
  · cases hz
def fCB (o : List Dt → Option Dt) (t : ME (List Dt)) : ME Dt := bnd t fun ds => lft (o ds)
theorem xe_cb {r : List V → Hp → VK → Prop} {o : List Dt → Option Dt} {tt : TA} {t : ME (List Dt)} (hr : RCo K r o) (ht : XA K mg E tt t) : XE K mg E (tCB r tt) (fCB o t) := fun Lo H0 σ G H s ρ A r' ρ' Q hg e q => by
  show tt σ H _
  refine xj_at ht hg e q fun vs ds G1 H1 ρ1 s1 dv hg e q => ?_
  obtain ⟨z, hz, rfl, rfl⟩ := lft_some hg
  exact hr ds z hz G1 H1 vs Q e.gr dv fun w G3 H3 s3 dw => q.ok e s3 dw
/-! tests -/
def asB : Dt → Option Bool
  | .bool b => some b
  | _ => none
def fB (a : ME Dt) : ME Bool := bnd a fun x => lft (asB x)
theorem asB_some {x : Dt} {b : Bool} (h : asB x = some b) : x = .bool b := by
  cases x <;> cases h; rfl
theorem xt_test {ta : TE} {a : ME Dt} (ha : XE K mg E ta a) : XT K mg E (tTest ta) (fB a) := fun Lo H0 σ G H s ρ A r ρ' Q hg e q => by
  show ta σ H _
  refine xj_at ha hg e q fun v x G1 H1 ρ1 s1 dv hg e q => ?_
  obtain ⟨b, hb, rfl, rfl⟩ := lft_some hg
  have := asB_some hb
  subst this
  cases dv
  exact ⟨b, rfl, q.ok e (.refl e.gr) rfl⟩
theorem xt_B {ta : TE} {a : ME Dt} (ha : XE K mg E ta a) : XT K mg E (tB ta) (fB a) := xt_test ha
theorem xt_yes : XT K mg E tYes (ret true) := fun Lo H0 σ G H s ρ A r ρ' Q hg e q => by
  obtain ⟨rfl, rfl⟩ := ret_some hg
  exact q.ok e (.refl e.gr) rfl
def fNot (a : ME Bool) : ME Bool := bnd a fun b => ret (!b)
theorem xt_not {ta : TT} {a : ME Bool} (ha : XT K mg E ta a) : XT K mg E (tNot ta) (fNot a) := fun Lo H0 σ G H s ρ A r ρ' Q hg e q => by
  show ta σ H _
  refine xj_at ha hg e q fun v x G1 H1 ρ1 s1 dv hg e q => ?_
  obtain ⟨rfl, rfl⟩ := ret_some hg
  subst dv
  exact q.ok e (.refl e.gr) rfl
def fAnd (a b : ME Bool) : ME Bool := bnd a fun x => if x = true then b else ret false
def fOr (a b : ME Bool) : ME Bool := bnd a fun x => if x = true then ret true else b
theorem xt_and {ta tb : TT} {a b : ME Bool} (ha : XT K mg E ta a) (hb : XT K mg E tb b) : XT K mg E (tAnd ta tb) (fAnd a b) := fun Lo H0 σ G H s ρ A r ρ' Q hg e q => by
  show ta σ H _
  refine xj_at ha hg e q fun v x G1 H1 ρ1 s1 dv hg e q => ?_
  subst dv
  cases v with
  | true => exact iteT (hb Lo H0 σ G1 H1 s ρ1 A r ρ' Q hg e q)
  | false =>
    obtain ⟨rfl, rfl⟩ := ret_some (s := s) hg
    exact iteF (q.ok e (.refl e.gr) rfl)
theorem xt_or {ta tb : TT} {a b : ME Bool} (ha : XT K mg E ta a) (hb : XT K mg E tb b) : XT K mg E (tOr ta tb) (fOr a b) := fun Lo H0 σ G H s ρ A r ρ' Q hg e q => by
  show ta σ H _
  refine xj_at ha hg e q fun v x G1 H1 ρ1 s1 dv hg e q => ?_
  subst dv
  cases v with
  | true =>
    obtain ⟨rfl, rfl⟩ := ret_some (s := s) hg
    exact iteT (q.ok e (.refl e.gr) rfl)
  | false => exact iteF (hb Lo H0 σ G1 H1 s ρ1 A r ρ' Q hg e q)
def fNotV (a : ME Dt) : ME Dt := bnd a fun x => lft ((asB x).map fun b => .bool (!b))
theorem xe_notV {ta : TE} {a : ME Dt} (ha : XE K mg E ta a) : XE K mg E (tNotV ta) (fNotV a) := fun Lo H0 σ G H s ρ A r ρ' Q hg e q => by
  show ta σ H _
  refine xj_at ha hg e q fun v x G1 H1 ρ1 s1 dv hg e q => ?_
  obtain ⟨z, hz, rfl, rfl⟩ := lft_some hg
  cases x <;> cases hz
  cases dv
  exact ⟨_, rfl, q.ok e (.refl e.gr) (.bl _)⟩
def fAndV (a b : ME Dt) : ME Dt := bnd a fun x => match x with
  | .bool true => b
  | .bool false => ret (.bool false)
  | _ => lft none
def fOrV (a b : ME Dt) : ME Dt := bnd a fun x => match x with
  | .bool true => ret (.bool true)
  | .bool false => b
  | _ => lft none
theorem xe_andV {ta tb : TE} {a b : ME Dt} (ha : XE K mg E ta a) (hb : XE K mg E tb b) : XE K mg E (tAndV ta tb) (fAndV a b) := fun Lo H0 σ G H s ρ A r ρ' Q hg e q => by
  show ta σ H _
  refine xj_at ha hg e q fun v x G1 H1 ρ1 s1 dv hg e q => ?_
  cases x with
  | bool c =>
    cases dv
    cases c with
    | true => exact ⟨_, rfl, iteT (hb Lo H0 σ G1 H1 s ρ1 A r ρ' Q hg e q)⟩
    | false =>
      obtain ⟨rfl, rfl⟩ := ret_some hg
      exact ⟨_, rfl, iteF (q.ok e (.refl e.gr) (.bl _))⟩
  | none => cases hg
  | int _ => cases hg
  | str _ => cases hg
  | list _ => cases hg
  | tuple _ => cases hg
  | dict _ => cases hg
theorem xe_orV {ta tb : TE} {a b : ME Dt} (ha : XE K mg E ta a) (hb : XE K mg E tb b) : XE K mg E (tOrV ta tb) (fOrV a b) := fun Lo H0 σ G H s ρ A r ρ' Q hg e q => by
  show ta σ H _
  refine xj_at ha hg e q fun v x G1 H1 ρ1 s1 dv hg e q => ?_
  cases x with
  | bool c =>
    cases dv
    cases c with
    | false => exact ⟨_, rfl, iteF (hb Lo H0 σ G1 H1 s ρ1 A r ρ' Q hg e q)⟩
    | true =>
      obtain ⟨rfl, rfl⟩ := ret_some hg
      exact ⟨_, rfl, iteT (q.ok e (.refl e.gr) (.bl _))⟩
  | none => cases hg
  | int _ => cases hg
  | str _ => cases hg
  | list _ => cases hg
  | tuple _ => cases hg
  | dict _ => cases hg
def fIf (c : ME Bool) (a b : ME Dt) : ME Dt := bnd c fun x => if x = true then a else b
theorem xe_if {tc : TT} {ta tb : TE} {c : ME Bool} {a b : ME Dt} (hc : XT K mg E tc c) (ha : XE K mg E ta a) (hb : XE K mg E tb b) : XE K mg E (tIf tc ta tb) (fIf c a b) := fun Lo H0 σ G H s ρ A r ρ' Q hg e q => by
  show tc σ H _
  refine xj_at hc hg e q fun v x G1 H1 ρ1 s1 dv hg e q => ?_
  subst dv
  cases v with
  | true => exact iteT (ha Lo H0 σ G1 H1 s ρ1 A r ρ' Q hg e q)
  | false => exact iteF (hb Lo H0 σ G1 H1 s ρ1 A r ρ' Q hg e q)
def fChain (o o' : Dt → Dt → Option Dt) (a b c : ME Dt) : ME Dt := bnd a fun x => bnd b fun y => match o x y with
  | some (.bool true) => bnd c fun z => lft (o' y z)
  | some (.bool false) => ret (.bool false)
  | _ => lft none
theorem xe_chain {r r' : R2} {o o' : Dt → Dt → Option Dt} {ta tb tc : TE} {a b c : ME Dt} (hr : RVo K r o) (hr' : RVo K r' o') (ha : XE K mg E ta a) (hb : XE K mg E tb b) (hc : XE K mg E tc c) : XE K mg E (tChain r r' ta tb tc) (fChain o o' a b c) := fun Lo H0 σ G H s ρ A r1 ρ' Q hg e q => by
  show ta σ H _
  refine xj_at ha hg e q fun v x G1 H1 ρ1 s1 dv hg e q => ?_
  show tb σ H1 _
  refine xj_at hb hg e q fun u y G2 H2 ρ2 s2 du hg e q => ?_
  cases ho : o x y with
  | none => rw [ho] at hg; cases hg
  | some z =>
    rw [ho] at hg
    cases z with
    | bool k =>
      refine hr x y _ ho G2 H2 v u _ e.gr (Dqu dv s2.g) du fun w G3 H3 s3 dw => ?_
      cases dw
      refine ⟨k, rfl, ?_⟩
      cases k with
      | true =>
        refine iteT ?_
        refine xj_at hc hg (e.stp s3) (q.step s3.sq) fun u3 z G4 H4 ρ4 s4 du3 hg e q => ?_
        obtain ⟨z2, hz, rfl, rfl⟩ := lft_some hg
        exact hr' y z z2 hz G4 H4 u u3 Q e.gr (Dqu du (s3.g.trans s4.g)) du3 fun w G5 H5 s5 dw => q.ok e s5 dw
      | false =>
        obtain ⟨rfl, rfl⟩ := ret_some hg
        exact iteF (q.ok e s3 (.bl _))
    | none => cases hg
    | int _ => cases hg
    | str _ => cases hg
    | list _ => cases hg
    | tuple _ => cases hg
    | dict _ => cases hg
/-! calls of the text's own defs -/
abbrev Fn := List Dt → Option (Except Exn Dt)
/-- what a def that draws nothing promises -/
def spF (K : PySem.W.Frag) (mg : Str → Option Value) (F : Fn) : Sp := fun vs H Q E => ∃ G ds r, Gr G H ∧ DqAll K G vs ds ∧ F ds = some r ∧ match r with
  | .ok d => ∀ v G2 H2, Stp G H G2 H2 → Dq K G2 v d → Q v H2
  | .error x => ∀ c da G2 H2, Stp G H G2 H2 → ExOk mg x c da H2 → E c da H2
def fCall (F : Fn) (t : ME (List Dt)) : ME Dt := bnd t fun ds s ρ => match F ds with
  | none => none
  | some r => some (r, ρ)
theorem xe_callV {F : Fn} {tt : TA} {t : ME (List Dt)} {mv : List V} {ms : List Dt} (hm : ∀ G, DqAll K G mv ms) (ht : XA K mg E tt t) : XE K mg E (tCall (spF K mg F) mv E tt) (fCall (fun ds => F (ds ++ ms)) t) := fun Lo H0 σ G H s ρ A r ρ' Q hg e q => by
  show tt σ H _
  refine xj_at ht hg e q fun vs ds G1 H1 ρ1 s1 dv hg e q => ?_
  cases hF : F (ds ++ ms) with
  | none => simp only [hF] at hg; cases hg
  | some r2 =>
    simp only [hF] at hg
    cases hg
    refine ⟨G1, ds ++ ms, r, e.gr, dqs_app dv (hm _), hF, ?_⟩
    cases r with
    | ok d => exact fun v G2 H2 s2 d2 => q.ok e s2 d2
    | error x => exact fun c da G2 H2 s2 hx => q c da G2 H2 s2.sq (e.row.step s2) hx
theorem xe_call {F : Fn} {tt : TA} {t : ME (List Dt)} (ht : XA K mg E tt t) : XE K mg E (tCall (spF K mg F) [] E tt) (fCall F t) := by
  have h := xe_callV (F := F) (mv := []) (ms := []) (fun _ => .nil) ht
  have e : (fun ds : List Dt => F (ds ++ [])) = F := by funext ds; rw [List.append_nil]
  rw [e] at h
  exact h
/-- .. some of it by name -/
def fCallN (F : Fn) (n m : Nat) (g : List Dt → List Dt → List Dt) (t tk : ME (List Dt)) : ME Dt := bnd t fun ds => bnd tk fun zs s ρ => if ds.length = n ∧ zs.length = m then match F (g ds zs) with
  | none => none
  | some r => some (r, ρ)
  else none
theorem xe_callN {F : Fn} {n m : Nat} {gV : List V → List V → List V} {g : List Dt → List Dt → List Dt} {tt tk : TA} {t k : ME (List Dt)} (hm : ∀ G vs ws ds zs, DqAll K G vs ds → DqAll K G ws zs → ds.length = n → zs.length = m → DqAll K G (gV vs ws) (g ds zs))
    (ht : XA K mg E tt t) (hk : XA K mg E tk k) : XE K mg E (tCallN n m (spF K mg F) gV E tt tk) (fCallN F n m g t k) := fun Lo H0 σ G H s ρ A r ρ' Q hg e q => by
  show tt σ H _
  refine xj_at ht hg e q fun vs ds G1 H1 ρ1 s1 dv hg e q => ?_
  show tk σ H1 _
  refine xj_at hk hg e q fun ws zs G2 H2 ρ2 s2 dw hg e q => ?_
  split at hg
  · rename_i hl
    cases hF : F (g ds zs) with
    | none => rw [hF] at hg; cases hg
    | some r2 =>
      rw [hF] at hg
      cases hg
      refine ⟨by rw [dqs_len dv, hl.1], by rw [dqs_len dw, hl.2], G2, g ds zs, r, e.gr, hm G2 vs ws ds zs (Dqsu dv s2.g) dw hl.1 hl.2, hF, ?_⟩
      cases r with
      | ok d => exact fun v G2 H2 s2 d2 => q.ok e s2 d2
      | error x => exact fun c da G2 H2 s2 hx => q c da G2 H2 s2.sq (e.row.step s2) hx
  · cases hg
/-- a def that draws: the row first -/
abbrev Fr := Rw → List Dt → Option (Except Exn Dt × Rw)
def spW (K : PySem.W.Frag) (mg : Str → Option Value) (F : Fr) : Sp := fun vs H Q E => ∃ G L ws ds x r x', vs = .ref L :: ws ∧ Gr G H ∧ RowAt K G H L x ∧ DqAll K G ws ds ∧ F x ds = some (r, x') ∧ match r with
  | .ok d => ∀ v G2 H2, Sq (some L) G H G2 H2 → RowAt K G2 H2 L x' → Dq K G2 v d → Q v H2
  | .error y => ∀ c da G2 H2, Sq (some L) G H G2 H2 → RowAt K G2 H2 L x' → ExOk mg y c da H2 → E c da H2
def fCallR (F : Fr) (i : Nat) (t : ME (List Dt)) : ME Dt := fun s ρ => match s[i]? with
  | some (some .row) => bnd t (fun ds s ρ => match ρ with
    | none => none
    | some x => match F x ds with
      | none => none
      | some (r, x') => some (r, some x')) s ρ
  | _ => none
theorem xe_callR {F : Fr} {i : Nat} {tt : TA} {t : ME (List Dt)} (ht : XA K mg E tt t) : XE K mg E (tCall (spW K mg F) [] E (tCons (tVar i) tt)) (fCallR F i t) := fun Lo H0 σ G H s ρ A r ρ' Q hg e q => by
  unfold fCallR at hg
  split at hg
  · rename_i hi
    obtain ⟨v, hv, L, hL, hv2⟩ := e.at_ i _ hi
    subst hv2
    refine ⟨_, hv, ?_⟩
    refine xj_at ht hg e q fun vs ds G1 H1 ρ1 s1 dv hg e q => ?_
    cases ρ1 with
    | none => cases hg
    | some x =>
      simp only [] at hg
      cases hF : F x ds with
      | none => rw [hF] at hg; cases hg
      | some p =>
        obtain ⟨r2, x'⟩ := p
        rw [hF] at hg
        cases hg
        obtain ⟨L', hL', hr⟩ := e.row x rfl
        rw [hL] at hL'
        cases hL'
        subst hL
        refine ⟨G1, L, vs, ds, x, r, x', by rw [List.append_nil], e.gr, hr, dv, hF, ?_⟩
        have row : ∀ {G2 H2}, RowAt K G2 H2 L x' → RwOk K (some L) G2 H2 (some x') := fun h y hy => ⟨L, rfl, by cases hy; exact h⟩
        cases r with
        | ok d => exact fun v G2 H2 s2 r2 d2 => q v G2 H2 s2 (row r2) d2
        | error y => exact fun c da G2 H2 s2 r2 hx => q c da G2 H2 s2 (row r2) hx
  · cases hg
end
end Sb

/-! Seamboard, layer F4: new lists, what is walked, targets, comprehensions. -/
namespace Sb
open PySem PySem.Spec PyProof.Rows L2
section
variable {K : PySem.W.Frag} {mg : Str → Option Value} {E : XK} {Lo : Option Addr} {H0 G H G1 H1 G2 H2 : Hp} {σ : L2.St} {s : Ss} {ρ ρ' : Ro} {A : Nat → List Addr}
/-! ### new lists -/
def KtN (K : PySem.W.Frag) (mg : Str → Option Value) (E : XK) (Lo : Option Addr) (G H : Hp) (ρ : Ro) (Q : VK) : Except Exn (List Dt) → Prop
  | .ok ds => ∀ p vs G2 H2, Sq Lo G H G2 H2 → RwOk K Lo G2 H2 ρ → H p = none → G2 p = none → some p ≠ Lo → H2 p = some (.lst vs) → DqAll K G2 vs ds → Q (.ref p) H2
  | .error x => ∀ c da G2 H2, Sq Lo G H G2 H2 → RwOk K Lo G2 H2 ρ → ExOk mg x c da H2 → E c da H2
def XN (K : PySem.W.Frag) (mg : Str → Option Value) (E : XK) (t : TE) (g : ME (List Dt)) : Prop :=
  ∀ (Lo : Option Addr) (H0 : Hp) (σ : L2.St) (G H : Hp) (s : Ss) (ρ : Ro) (A : Nat → List Addr) (r : Except Exn (List Dt)) (ρ' : Ro) (Q : VK), g s ρ = some (r, ρ') → EnS K Lo H0 G H σ s ρ A → KtN K mg E Lo G H ρ' Q r → t σ H Q
theorem KtN.step {Q : VK} {r : Except Exn (List Dt)} (k : KtN K mg E Lo G H ρ Q r) (q : Sq Lo G H G1 H1) : KtN K mg E Lo G1 H1 ρ Q r := by
  cases r with
  | ok d => exact fun p vs G2 H2 s2 r2 hp => k p vs G2 H2 (q.trans s2) r2 (by
      cases h : H p with
      | none => rfl
      | some o => exact absurd hp (q.k p (by rw [h]; simp)))
  | error x => exact fun c da G2 H2 s2 => k c da G2 H2 (q.trans s2)
theorem xjn_at {α γ : Type} {P1 : Hp → α → γ → Prop} {t1 : L2.St → Hp → (α → Hp → Prop) → Prop} {g : ME γ} {k : γ → ME (List Dt)} {r : Except Exn (List Dt)} {Q : VK} {T : α → Hp → Prop}
    (h1 : XJ K mg E P1 t1 g) (hg : bnd g k s ρ = some (r, ρ')) (e : EnS K Lo H0 G H σ s ρ A) (q : KtN K mg E Lo G H ρ' Q r)
    (c : ∀ v d G1 H1 ρ1, Sq Lo G H G1 H1 → P1 G1 v d → k d s ρ1 = some (r, ρ') → EnS K Lo H0 G1 H1 σ s ρ1 A → KtN K mg E Lo G1 H1 ρ' Q r → T v H1) : t1 σ H T := by
  unfold bnd at hg
  cases h : g s ρ with
  | none => rw [h] at hg; cases hg
  | some p =>
    obtain ⟨r1, ρ1⟩ := p
    rw [h] at hg
    cases r1 with
    | error x =>
      cases hg
      exact h1 Lo H0 σ G H s ρ A _ _ _ h e q
    | ok d => exact h1 Lo H0 σ G H s ρ A _ _ _ h e fun v G1 H1 s1 r1 p1 => c v d G1 H1 ρ1 s1 p1 hg (e.step s1 r1) (q.step s1)
theorem EnS.new_lo {p : Addr} (e : EnS K Lo H0 G H σ s ρ A) (hp : H p = none) : some p ≠ Lo := fun h => e.lo p h.symm hp
/-- the new list is handed on -/
theorem KtN.new {Q : VK} {ds : List Dt} {vs : List V} {p : Addr} (q : KtN K mg E Lo G H ρ Q (.ok ds)) (e : EnS K Lo H0 G H σ s ρ A) (hp : H p = none) (dv : DqAll K G vs ds) : Q (.ref p) (upd H p (.lst vs)) :=
  q p vs G _ (Stp.hid e.gr hp).sq (e.row.step (Stp.hid e.gr hp)) hp (e.gr.back hp) (e.new_lo hp) upd_same dv
def fN (g : ME (List Dt)) : ME Dt := bnd g fun ds => ret (.list ds)
theorem xe_n {t : TE} {g : ME (List Dt)} (h : XN K mg E t g) : XE K mg E t (fN g) := fun Lo H0 σ G H s ρ A r ρ' Q hg e q => by
  unfold fN bnd at hg
  cases hq : g s ρ with
  | none => rw [hq] at hg; cases hg
  | some p =>
    obtain ⟨r1, ρ1⟩ := p
    rw [hq] at hg
    cases r1 with
    | error x =>
      cases hg
      exact h Lo H0 σ G H s ρ A _ _ _ hq e q
    | ok ds =>
      obtain ⟨rfl, rfl⟩ := ret_some (s := s) hg
      refine h Lo H0 σ G H s ρ A _ _ _ hq e fun p vs G2 H2 s2 r2 hp np nl h2 dv => ?_
      have g2 : Gr G2 (upd G2 p (.lst vs)) := .new np
      refine q _ (upd G2 p (.lst vs)) H2 ⟨s2.g.trans g2, fun a u ea => ?_, s2.h, s2.k, fun a h1 h0 => ?_⟩ (fun x hx => ?_) (.lst upd_same (Dqsu dv g2))
      · by_cases z : a = p
        · subst z; rw [upd_same] at ea; rw [h2]; exact ea
        · rw [upd_ne z] at ea; exact s2.s a u ea
      · have : a ≠ p := fun z => h1 (z ▸ hp)
        rw [upd_ne this]; exact s2.f a h1 h0
      · obtain ⟨L, e1, hr⟩ := r2 x hx
        obtain ⟨a, ea, ha⟩ := hr.at_
        have : L ≠ p := fun z => nl (by rw [e1, z])
        exact ⟨L, e1, by rw [upd_ne this]; exact hr.g, a, ea, gr_l g2 ha⟩
def RVn (K : PySem.W.Frag) (r : R2) (o : Dt → Dt → Option (List Dt)) : Prop := ∀ x y ds, o x y = some ds → ∀ (G H : Hp) (v u : V) (Q : VK), Gr G H → Dq K G v x → Dq K G u y → (∀ p vs, H p = none → DqAll K G vs ds → Q (.ref p) (upd H p (.lst vs))) → r v u H Q
def RCn (K : PySem.W.Frag) (r : List V → Hp → VK → Prop) (o : List Dt → Option (List Dt)) : Prop := ∀ xs ds, o xs = some ds → ∀ (G H : Hp) (vs : List V) (Q : VK), Gr G H → DqAll K G vs xs → (∀ p us, H p = none → DqAll K G us ds → Q (.ref p) (upd H p (.lst us))) → r vs H Q
def fOpN (o : Dt → Dt → Option (List Dt)) (a b : ME Dt) : ME (List Dt) := bnd a fun x => bnd b fun y => lft (o x y)
theorem xn_op {r : R2} {o : Dt → Dt → Option (List Dt)} {ta tb : TE} {a b : ME Dt} (hr : RVn K r o) (ha : XE K mg E ta a) (hb : XE K mg E tb b) : XN K mg E (tOp r ta tb) (fOpN o a b) := fun Lo H0 σ G H s ρ A r' ρ' Q hg e q => by
  show ta σ H _
  refine xjn_at ha hg e q fun v x G1 H1 ρ1 s1 dv hg e q => ?_
  show tb σ H1 _
  refine xjn_at hb hg e q fun u y G2 H2 ρ2 s2 du hg e q => ?_
  obtain ⟨z, hz, rfl, rfl⟩ := lft_some hg
  exact hr x y z hz G2 H2 v u Q e.gr (Dqu dv s2.g) du fun p vs hp dvs => q.new e hp dvs
def fCBN (o : List Dt → Option (List Dt)) (t : ME (List Dt)) : ME (List Dt) := bnd t fun xs => lft (o xs)
theorem xn_cb {r : List V → Hp → VK → Prop} {o : List Dt → Option (List Dt)} {tt : TA} {t : ME (List Dt)} (hr : RCn K r o) (ht : XA K mg E tt t) : XN K mg E (tCB r tt) (fCBN o t) := fun Lo H0 σ G H s ρ A r' ρ' Q hg e q => by
  show tt σ H _
  refine xjn_at ht hg e q fun v x G1 H1 ρ1 s1 dv hg e q => ?_
  obtain ⟨z, hz, rfl, rfl⟩ := lft_some hg
  exact hr x z hz G1 H1 v Q e.gr dv fun p vs hp dvs => q.new e hp dvs
def few (ds : List Dt) : Option (List Dt) := if ds.length ≤ 100000 then some ds else none
theorem few_some {ds es : List Dt} (h : few ds = some es) : es = ds ∧ ds.length ≤ 100000 := by
  unfold few at h
  split at h
  · rename_i hl; cases h; exact ⟨rfl, hl⟩
  · cases h
def fLst (t : ME (List Dt)) : ME (List Dt) := bnd t fun ds => lft (few ds)
theorem xn_lst {tt : TA} {t : ME (List Dt)} (ht : XA K mg E tt t) : XN K mg E (tLst tt) (fLst t) := fun Lo H0 σ G H s ρ A r' ρ' Q hg e q => by
  show tt σ H _
  refine xjn_at ht hg e q fun v x G1 H1 ρ1 s1 dv hg e q => ?_
  obtain ⟨z, hz, rfl, rfl⟩ := lft_some hg
  obtain ⟨rfl, hl⟩ := few_some hz
  exact ⟨by rw [dqs_len dv]; exact Evl.sz_of hl, fun p hp => q.new e hp dv⟩
def oCat (x y : Dt) : Option (List Dt) := match x, y with
  | .list a, .list b => few (a ++ b)
  | _, _ => none
theorem rvn_cat : RVn K rCat oCat := fun x y ds h G H v u Q s a b q => by
  unfold oCat at h
  split at h
  · obtain ⟨rfl, hl⟩ := few_some h
    cases a with
    | lst h1 h2 =>
      cases b with
      | lst k1 k2 => exact ⟨_, _, _, _, rfl, rfl, s _ _ h1, s _ _ k1, by rw [dqs_len h2, dqs_len k2, ← List.length_append]; exact Evl.sz_of hl, fun p hp => q p _ hp (dqs_app h2 k2)⟩
  · cases h
def oRep (x y : Dt) : Option (List Dt) := match x, y with
  | .list a, .int k => if -1000 ≤ k ∧ k ≤ 1000 ∧ a.length ≤ 100 then some (List.replicate k.toNat a).flatten else none
  | _, _ => none
theorem rvn_rep : RVn K rRep oRep := fun x y ds h G H v u Q s a b q => by
  unfold oRep at h
  split at h
  · split at h
    · rename_i k hk
      cases h
      cases b
      cases a with
      | lst h1 h2 =>
        refine ⟨_, _, _, rfl, rfl, s _ _ h1, by omega, by omega, ?_, fun p hp => q p _ hp (dqs_rep h2 _)⟩
        rw [dqs_len h2]
        have h3 : k.toNat ≤ 1000 := by omega
        exact Evl.sz_of (Nat.le_trans (Nat.mul_le_mul hk.2.2 h3) (by decide))
    · cases h
  · cases h
def oListOf : List Dt → Option (List Dt)
  | [x] => seqD x
  | _ => none
theorem rcn_listOf : RCn K (rListOf K) oListOf := fun xs ds h G H vs Q s a q => by
  unfold oListOf at h
  split at h
  · rename_i x
    cases a with
    | cons a b =>
      cases b
      cases x with
      | list ds' =>
        cases h
        cases a with
        | lst h1 h2 => exact ⟨_, _, rfl, .inl (SqL.of (s _ _ h1)), fun l hl => q l _ hl h2⟩
      | tuple ds' =>
        cases h
        cases a with
        | tup h1 h2 => exact ⟨_, _, rfl, .inr (gr_t s h1), fun l hl => q l _ hl h2⟩
      | none => cases h
      | bool _ => cases h
      | int _ => cases h
      | str _ => cases h
      | dict _ => cases h
  · cases h
def oSorted : List Dt → Option (List Dt)
  | [.list ds] => match toInts ds with
    | some is => some ((srt is).map .int)
    | none => none
  | _ => none
theorem rcn_sorted : RCn K (rSortedI K) oSorted := fun xs ds h G H vs Q s a q => by
  unfold oSorted at h
  split at h
  · split at h
    · rename_i ds' is e
      cases h
      have e' := toInts_eq e
      subst e'
      cases a with
      | cons a b =>
        cases b
        cases a with
        | lst h1 h2 =>
          have ev := ints_of h2.p
          subst ev
          refine ⟨_, is, rfl, SqL.of (s _ _ h1), fun ns' p hp1 hp2 hp => ?_⟩
          have e2 : ns' = srt is := pw_uniq (hp1.trans (srt_perm is).symm) hp2 (srt_sorted is)
          subst e2
          exact q p _ hp (dqs_ints _)
    · cases h
  · cases h
/-! ### what is walked -/
structure WalkQ (K : PySem.W.Frag) (J : It) (G0 : Hp) (ds : List Dt) : Prop where
  go : ∀ i G H, Gr G0 G → Gr G H → i < ds.length → J.go i H
  stop : ∀ G H, Gr G0 G → Gr G H → J.stop ds.length H
  yld : ∀ i G H x H2, Gr G0 G → Gr G H → i < ds.length → J.yld i H x H2 → ∃ G2 d, Stp G H G2 H2 ∧ ds[i]? = some d ∧ Dq K G2 x d
abbrev XI (K : PySem.W.Frag) (mg : Str → Option Value) (E : XK) (t : TI) (g : ME (List Dt)) : Prop := XJ K mg E (fun G J ds => WalkQ K J G ds) t g
theorem walkQ_list {a : Addr} {vs : List V} {ds : List Dt} (h : SqL K G a vs) (hd : DqAll K G vs ds) : WalkQ K (Itl K a) G ds where
  go := fun i G1 H1 a b hi => ⟨vs, vs[i]'(by rw [dqs_len hd]; exact hi), gr_l b (gr_l a h), by simp [dqs_len hd, hi]⟩
  stop := fun G1 H1 a b => ⟨vs, gr_l b (gr_l a h), by rw [dqs_len hd]; exact Nat.le_refl _⟩
  yld := fun i G1 H1 x H2 a b hi y => by
    obtain ⟨e, y⟩ := y
    subst e
    obtain ⟨d, e1, e2⟩ := dqs_get' hd (y vs (gr_l b (gr_l a h)))
    exact ⟨G1, d, .refl b, e1, Dqu e2 a⟩
theorem walkQ_tup {a : Addr} {vs : List V} {ds : List Dt} (h : SqT K G a vs) (hd : DqAll K G vs ds) : WalkQ K (Itt K a) G ds where
  go := fun i G1 H1 a b hi => ⟨vs, vs[i]'(by rw [dqs_len hd]; exact hi), gr_t b (gr_t a h), by simp [dqs_len hd, hi]⟩
  stop := fun G1 H1 a b => ⟨vs, gr_t b (gr_t a h), by rw [dqs_len hd]; exact Nat.le_refl _⟩
  yld := fun i G1 H1 x H2 a b hi y => by
    obtain ⟨e, y⟩ := y
    subst e
    obtain ⟨d, e1, e2⟩ := dqs_get' hd (y vs (gr_t b (gr_t a h)))
    exact ⟨G1, d, .refl b, e1, Dqu e2 a⟩
theorem walkQ_range {lo : Int} {n : Nat} : WalkQ K (Itr lo n) G (upto lo n) where
  go := fun i G1 H1 a b hi => by rw [upto_len] at hi; exact hi
  stop := fun G1 H1 a b => by rw [upto_len]; exact Nat.le_refl _
  yld := fun i G1 H1 x H2 a b hi y => by
    obtain ⟨e, y⟩ := y
    subst e y
    rw [upto_len] at hi
    exact ⟨G1, _, .refl b, upto_get hi, .int _⟩
theorem walkQ_enum {a : Addr} {vs : List V} {ds : List Dt} (h : SqL K G a vs) (hd : DqAll K G vs ds) : WalkQ K (Ite K a) G (pairsFrom 0 ds) where
  go := fun i G1 H1 a b hi => by
    rw [pairs_len] at hi
    exact ⟨vs, vs[i]'(by rw [dqs_len hd]; exact hi), gr_l b (gr_l a h), by simp [dqs_len hd, hi]⟩
  stop := fun G1 H1 a b => ⟨vs, gr_l b (gr_l a h), by rw [dqs_len hd, pairs_len]; exact Nat.le_refl _⟩
  yld := fun i G1 H1 x H2 a b hi y => by
    obtain ⟨T, v, e, hT, eH, y⟩ := y
    subst e eH
    obtain ⟨d, e1, e2⟩ := dqs_get' hd (y vs (gr_l b (gr_l a h)))
    have n := newq_t (ds := [.int (i : Nat), d]) b hT (.cons (.int _) (.cons (Dqu e2 a) .nil))
    exact ⟨_, _, n.1, by rw [pairs_get e1, Nat.zero_add], n.2⟩
theorem walkQ_enumT {a : Addr} {vs : List V} {ds : List Dt} (h : SqT K G a vs) (hd : DqAll K G vs ds) : WalkQ K (Iteu K a) G (pairsFrom 0 ds) where
  go := fun i G1 H1 a b hi => by
    rw [pairs_len] at hi
    exact ⟨vs, vs[i]'(by rw [dqs_len hd]; exact hi), gr_t b (gr_t a h), by simp [dqs_len hd, hi]⟩
  stop := fun G1 H1 a b => ⟨vs, gr_t b (gr_t a h), by rw [dqs_len hd, pairs_len]⟩
  yld := fun i G1 H1 x H2 a b hi y => by
    obtain ⟨T, v, e, hT, eH, y⟩ := y
    subst e eH
    obtain ⟨d, e1, e2⟩ := dqs_get' hd (y vs (gr_t b (gr_t a h)))
    have n := newq_t (ds := [.int (i : Nat), d]) b hT (.cons (.int _) (.cons (Dqu e2 a) .nil))
    exact ⟨_, _, n.1, by rw [pairs_get e1, Nat.zero_add], n.2⟩
theorem walkQ_str {z : Str} : WalkQ K (Its z) G (z.cps.toList.map fun c => .str (sg c)) where
  go := fun i G1 H1 a b hi => by rw [List.length_map, Array.length_toList] at hi; exact hi
  stop := fun G1 H1 a b => by rw [List.length_map, Array.length_toList]; exact Nat.le_refl _
  yld := fun i G1 H1 x H2 a b hi y => by
    obtain ⟨e, c, hc, rfl⟩ := y
    subst e
    refine ⟨G1, _, .refl b, ?_, .str _⟩
    rw [List.getElem?_map, Array.getElem?_toList, hc]; rfl
/-- a walked list, or a tuple -/
def fItL (a : ME Dt) : ME (List Dt) := bnd a fun x => lft (match x with
  | .list ds => some ds
  | _ => none)
def fItT (a : ME Dt) : ME (List Dt) := bnd a fun x => lft (match x with
  | .tuple ds => some ds
  | _ => none)
def fItO (a : ME Dt) : ME (List Dt) := bnd a fun x => lft (seqD x)
theorem xi_list {tl : TE} {a : ME Dt} (h : XE K mg E tl a) : XI K mg E (iList K tl) (fItL a) := fun Lo H0 σ G H s ρ A r ρ' Q hg e q => by
  show tl σ H _
  refine xj_at h hg e q fun v x G1 H1 ρ1 s1 dv hg e q => ?_
  obtain ⟨z, hz, rfl, rfl⟩ := lft_some hg
  cases x <;> cases hz
  cases dv with
  | lst h1 h2 => exact ⟨_, rfl, ⟨_, SqL.of (e.gr _ _ h1)⟩, q.ok e (.refl e.gr) (walkQ_list (SqL.of h1) h2)⟩
theorem xi_tup {tl : TE} {a : ME Dt} (h : XE K mg E tl a) : XI K mg E (iTup K tl) (fItT a) := fun Lo H0 σ G H s ρ A r ρ' Q hg e q => by
  show tl σ H _
  refine xj_at h hg e q fun v x G1 H1 ρ1 s1 dv hg e q => ?_
  obtain ⟨z, hz, rfl, rfl⟩ := lft_some hg
  cases x <;> cases hz
  cases dv with
  | tup h1 h2 => exact ⟨_, rfl, ⟨_, gr_t e.gr h1⟩, q.ok e (.refl e.gr) (walkQ_tup h1 h2)⟩
theorem bnd_cases {α β : Type} {g : ME α} {k : α → ME β} {s : Ss} {ρ ρ' : Ro} {r : Except Exn β} (h : bnd g k s ρ = some (r, ρ')) : (∃ x, g s ρ = some (.error x, ρ') ∧ r = .error x) ∨ ∃ a ρ1, g s ρ = some (.ok a, ρ1) ∧ k a s ρ1 = some (r, ρ') := by
  unfold bnd at h
  cases hq : g s ρ with
  | none => rw [hq] at h; cases h
  | some p =>
    obtain ⟨r1, ρ1⟩ := p
    rw [hq] at h
    cases r1 with
    | error x => cases h; exact .inl ⟨x, rfl, rfl⟩
    | ok a => exact .inr ⟨a, ρ1, rfl, h⟩
theorem bnd_ok {α β : Type} {g : ME α} {k : α → ME β} {s : Ss} {ρ ρ1 : Ro} {a : α} (h : g s ρ = some (.ok a, ρ1)) : bnd g k s ρ = k a s ρ1 := by
  unfold bnd; rw [h]
theorem bnd_er {α β : Type} {g : ME α} {k : α → ME β} {s : Ss} {ρ ρ1 : Ro} {x : Exn} (h : g s ρ = some (.error x, ρ1)) : bnd g k s ρ = some (.error x, ρ1) := by
  unfold bnd; rw [h]
/-- either -/
theorem xi_or {tl : TE} {a : ME Dt} (h : XE K mg E tl a) : XI K mg E (fun σ H R => iList K tl σ H R ∨ iTup K tl σ H R) (fItO a) := fun Lo H0 σ G H s ρ A r ρ' Q hg e q => by
  rcases bnd_cases hg with ⟨x, h1, rfl⟩ | ⟨x, ρ1, h1, h2⟩
  · exact .inl (xi_list h Lo H0 σ G H s ρ A _ ρ' Q (bnd_er h1) e q)
  · obtain ⟨z, hz, rfl, rfl⟩ := lft_some h2
    cases x with
    | list ds => cases hz; exact .inl (xi_list h Lo H0 σ G H s ρ A (.ok _) _ Q ((bnd_ok h1).trans rfl) e q)
    | tuple ds => cases hz; exact .inr (xi_tup h Lo H0 σ G H s ρ A (.ok _) _ Q ((bnd_ok h1).trans rfl) e q)
    | none => cases hz
    | bool _ => cases hz
    | int _ => cases hz
    | str _ => cases hz
    | dict _ => cases hz
def oRng1 : List Dt → Option (List Dt)
  | [.int j] => if -1000000 ≤ j ∧ j ≤ 1000000 then some (upto 0 j.toNat) else none
  | _ => none
def oRng2 : List Dt → Option (List Dt)
  | [.int i, .int j] => if (-1000000 ≤ i ∧ i ≤ 1000000) ∧ -1000000 ≤ j ∧ j ≤ 1000000 then some (upto i (j - i).toNat) else none
  | _ => none
def fRng1 (t : ME (List Dt)) : ME (List Dt) := bnd t fun ds => lft (oRng1 ds)
def fRng2 (t : ME (List Dt)) : ME (List Dt) := bnd t fun ds => lft (oRng2 ds)
theorem xi_rng1 {tt : TA} {t : ME (List Dt)} (h : XA K mg E tt t) : XI K mg E (iRng1 tt) (fRng1 t) := fun Lo H0 σ G H s ρ A r ρ' Q hg e q => by
  show tt σ H _
  refine xj_at h hg e q fun v x G1 H1 ρ1 s1 dv hg e q => ?_
  obtain ⟨z, hz, rfl, rfl⟩ := lft_some hg
  unfold oRng1 at hz
  split at hz
  · split at hz
    · rename_i j hj
      cases hz
      cases dv with
      | cons a b => cases b; cases a; exact ⟨j, rfl, by omega, by omega, q.ok e (.refl e.gr) walkQ_range⟩
    · cases hz
  · cases hz
theorem xi_rng2 {tt : TA} {t : ME (List Dt)} (h : XA K mg E tt t) : XI K mg E (iRng2 tt) (fRng2 t) := fun Lo H0 σ G H s ρ A r ρ' Q hg e q => by
  show tt σ H _
  refine xj_at h hg e q fun v x G1 H1 ρ1 s1 dv hg e q => ?_
  obtain ⟨z, hz, rfl, rfl⟩ := lft_some hg
  unfold oRng2 at hz
  split at hz
  · split at hz
    · rename_i i j hj
      cases hz
      cases dv with
      | cons a b => cases b with | cons c b => cases b; cases a; cases c; exact ⟨i, j, rfl, ⟨by omega, by omega, by omega, by omega⟩, q.ok e (.refl e.gr) walkQ_range⟩
    · cases hz
  · cases hz
def fEnumL (a : ME Dt) : ME (List Dt) := bnd a fun x => lft (match x with
  | .list ds => some (pairsFrom 0 ds)
  | _ => none)
def fEnumT (a : ME Dt) : ME (List Dt) := bnd a fun x => lft (match x with
  | .tuple ds => some (pairsFrom 0 ds)
  | _ => none)
theorem xi_enum {tl : TE} {a : ME Dt} (h : XE K mg E tl a) : XI K mg E (iEnum K (tCons tl tNil)) (fEnumL a) := fun Lo H0 σ G H s ρ A r ρ' Q hg e q => by
  show tl σ H _
  refine xj_at h hg e q fun v x G1 H1 ρ1 s1 dv hg e q => ?_
  obtain ⟨z, hz, rfl, rfl⟩ := lft_some hg
  cases x <;> cases hz
  cases dv with
  | lst h1 h2 => exact ⟨_, _, rfl, SqL.of (e.gr _ _ h1), q.ok e (.refl e.gr) (walkQ_enum (SqL.of h1) h2)⟩
theorem xi_enumT {tl : TE} {a : ME Dt} (h : XE K mg E tl a) : XI K mg E (iEnumT K tl) (fEnumT a) := fun Lo H0 σ G H s ρ A r ρ' Q hg e q => by
  show tl σ H _
  refine xj_at h hg e q fun v x G1 H1 ρ1 s1 dv hg e q => ?_
  obtain ⟨z, hz, rfl, rfl⟩ := lft_some hg
  cases x <;> cases hz
  cases dv with
  | tup h1 h2 => exact ⟨_, _, rfl, gr_t e.gr h1, q.ok e (.refl e.gr) (walkQ_enumT h1 h2)⟩
def fItS (a : ME Dt) : ME (List Dt) := bnd a fun x => lft (match x with
  | .str z => some (z.cps.toList.map fun c => .str (sg c))
  | _ => none)
theorem xi_str {tl : TE} {a : ME Dt} (h : XE K mg E tl a) : XI K mg E (iStr tl) (fItS a) := fun Lo H0 σ G H s ρ A r ρ' Q hg e q => by
  show tl σ H _
  refine xj_at h hg e q fun v x G1 H1 ρ1 s1 dv hg e q => ?_
  obtain ⟨z, hz, rfl, rfl⟩ := lft_some hg
  cases x <;> cases hz
  cases dv
  exact ⟨_, rfl, q.ok e (.refl e.gr) walkQ_str⟩
/-! ### targets -/
abbrev FG := Dt → Ss → Option Ss
abbrev FGs := List Dt → Ss → Option Ss
def XG (K : PySem.W.Frag) (g : TG) (f : FG) (js : List Nat) : Prop := ∀ (Lo : Option Addr) (H0 : Hp) (v : V) (σ : L2.St) (G H : Hp) (s : Ss) (ρ : Ro) (A : Nat → List Addr) (d : Dt) (s' : Ss) (Q : L2.St → Hp → Prop), f d s = some s' → EnS K Lo H0 G H σ s ρ A → Dq K G v d →
  (∀ σ', EnS K Lo H0 G H σ' s' ρ A → (∀ vs : List Nat, (∀ j ∈ js, j ∈ vs) → wipe σ' vs = wipe σ vs) → Q σ' H) → g v σ H Q
def XGs (K : PySem.W.Frag) (g : TGs) (f : FGs) (js : List Nat) : Prop := ∀ (Lo : Option Addr) (H0 : Hp) (vs : List V) (σ : L2.St) (G H : Hp) (s : Ss) (ρ : Ro) (A : Nat → List Addr) (ds : List Dt) (s' : Ss) (Q : L2.St → Hp → Prop), f ds s = some s' → EnS K Lo H0 G H σ s ρ A → DqAll K G vs ds →
  (∀ σ', EnS K Lo H0 G H σ' s' ρ A → (∀ vs : List Nat, (∀ j ∈ js, j ∈ vs) → wipe σ' vs = wipe σ vs) → Q σ' H) → g vs σ H Q
def fgName (j : Nat) : FG := fun d s => some (s.set j (some (.d d)))
theorem xg_name (j : Nat) : XG K (gName j) (fgName j) [j] := fun Lo H0 v σ G H s ρ A d s' Q hf e dv q => by
  cases hf
  exact q _ (e.setD j dv) fun vs hv => wipe_set σ j _ vs (hv j (by simp))
def fgNil : FGs := fun ds s => match ds with
  | [] => some s
  | _ => none
def fgCons (f : FG) (fs : FGs) : FGs := fun ds s => match ds with
  | [] => none
  | d :: ds => match f d s with
    | some s1 => fs ds s1
    | none => none
theorem xgs_nil : XGs K gNil fgNil [] := fun Lo H0 vs σ G H s ρ A ds s' Q hf e dv q => by
  cases dv with
  | nil => cases hf; exact ⟨rfl, q σ e fun _ _ => rfl⟩
  | cons a b => cases hf
theorem xgs_cons {g : TG} {gs : TGs} {f : FG} {fs : FGs} {js ks : List Nat} (h1 : XG K g f js) (h2 : XGs K gs fs ks) : XGs K (gCons g gs) (fgCons f fs) (js ++ ks) := fun Lo H0 vs σ G H s ρ A ds s' Q hf e dv q => by
  cases dv with
  | nil => cases hf
  | cons a b =>
    unfold fgCons at hf
    simp only [] at hf
    split at hf
    · rename_i hs
      refine ⟨_, _, rfl, h1 Lo H0 _ σ G H s ρ A _ _ _ hs e a fun σ1 e1 w1 => h2 Lo H0 _ σ1 G H _ ρ A _ _ _ hf e1 b fun σ2 e2 w2 => q σ2 e2 fun us hu => ?_⟩
      rw [w2 us fun j hj => hu j (List.mem_append_right _ hj), w1 us fun j hj => hu j (List.mem_append_left _ hj)]
    · cases hf
def fgTup (n : Nat) (fs : FGs) : FG := fun d s => match d with
  | .tuple ds => if ds.length = n then fs ds s else none
  | _ => none
theorem xg_tup {n : Nat} {gs : TGs} {fs : FGs} {js : List Nat} (h : XGs K gs fs js) : XG K (gTup K n gs) (fgTup n fs) js := fun Lo H0 v σ G H s ρ A d s' Q hf e dv q => by
  unfold fgTup at hf
  split at hf
  · split at hf
    · rename_i hl
      cases dv with
      | tup h1 h2 => exact ⟨_, _, rfl, gr_t e.gr h1, by rw [dqs_len h2, hl], h Lo H0 _ σ G H s ρ A _ _ _ hf e h2 q⟩
    · cases hf
  · cases hf
end
end Sb

/-! Seamboard, layer F5: comprehensions, statements, loops. -/
namespace Sb
open PySem PySem.Spec PyProof.Rows L2
/-! ### comprehensions -/
def lcGo (tg : FG) (t : ME Bool) (e : ME Dt) (s0 : Ss) : List Dt → Ro → Option (List Dt × Ro)
  | [], ρ => some ([], ρ)
  | d :: ds, ρ => match tg d s0 with
    | none => none
    | some s1 => match t s1 ρ with
      | some (.ok true, ρ1) => match e s1 ρ1 with
        | some (.ok x, ρ2) => match lcGo tg t e s0 ds ρ2 with
          | some (xs, ρ3) => some (x :: xs, ρ3)
          | none => none
        | _ => none
      | some (.ok false, ρ1) => lcGo tg t e s0 ds ρ1
      | _ => none
def fLc (i : ME (List Dt)) (tg : FG) (t : ME Bool) (e : ME Dt) (vs : List Nat) : ME (List Dt) := bnd i fun ds s ρ => if ds.length ≤ 50000 then match lcGo tg t e (wipeS s vs) ds ρ with
  | none => none
  | some (xs, ρ1) => some (.ok xs, ρ1)
  else none
def lc2Go (tg : FG) (t : ME Bool) (i1 : ME (List Dt)) (tg1 : FG) (t1 : ME Bool) (e : ME Dt) (vs1 : List Nat) (s0 : Ss) : List Dt → Ro → Option (List Dt × Ro)
  | [], ρ => some ([], ρ)
  | d :: ds, ρ => match tg d s0 with
    | none => none
    | some s1 => match t s1 ρ with
      | some (.ok true, ρ1) => match i1 s1 ρ1 with
        | some (.ok es, ρ2) => match lcGo tg1 t1 e (wipeS s1 vs1) es ρ2 with
          | some (xs, ρ3) => match lc2Go tg t i1 tg1 t1 e vs1 s0 ds ρ3 with
            | some (ys, ρ4) => some (xs ++ ys, ρ4)
            | none => none
          | none => none
        | _ => none
      | some (.ok false, ρ1) => lc2Go tg t i1 tg1 t1 e vs1 s0 ds ρ1
      | _ => none
def fLc2 (i : ME (List Dt)) (tg : FG) (t : ME Bool) (i1 : ME (List Dt)) (tg1 : FG) (t1 : ME Bool) (e : ME Dt) (vs vs1 : List Nat) : ME (List Dt) := bnd i fun ds s ρ => match lc2Go tg t i1 tg1 t1 e vs1 (wipeS s vs) ds ρ with
  | none => none
  | some (xs, ρ1) => if xs.length ≤ 50000 then some (.ok xs, ρ1) else none
theorem lcGo_len {tg : FG} {t : ME Bool} {e : ME Dt} {s0 : Ss} : ∀ {ds : List Dt} {ρ ρ' : Ro} {xs : List Dt}, lcGo tg t e s0 ds ρ = some (xs, ρ') → xs.length ≤ ds.length
  | [], _, _, _, h => by cases h; exact Nat.le_refl _
  | d :: ds, ρ, ρ', xs, h => by
    unfold lcGo at h
    split at h
    · cases h
    · split at h
      · split at h
        · split at h
          · rename_i q
            cases h
            have := lcGo_len q
            simp only [List.length_cons]; omega
          · cases h
        · cases h
      · have := lcGo_len h
        simp only [List.length_cons]; omega
      · cases h
section
variable {K : PySem.W.Frag} {mg : Str → Option Value} {E : XK} {Lo : Option Addr} {H0 G H G1 H1 G2 H2 : Hp} {σ : L2.St} {s : Ss} {ρ ρ' : Ro} {A : Nat → List Addr}
theorem wipe_wipe (σ : L2.St) (vs : List Nat) : wipe (wipe σ vs) vs = wipe σ vs := by
  apply List.ext_getElem?
  intro k
  rw [wipe_at, wipe_at, wipe_length]
  split <;> rfl
/-- a list that is made at D, hidden -/
structure Hid (K : PySem.W.Frag) (Lo : Option Addr) (G H G2 H2 : Hp) (D : Addr) (ρ : Ro) (ds : List Dt) : Prop where
  sq : Sq Lo G H G2 H2
  row : RwOk K Lo G2 H2 ρ
  g : G2 D = none
  at_ : ∃ vs, H2 D = some (.lst vs) ∧ DqAll K G2 vs ds
theorem Hid.step {D : Addr} {ds : List Dt} {ρ2 : Ro} (h : Hid K Lo G H G1 H1 D ρ ds) (q : Sq Lo G1 H1 G2 H2) (r : RwOk K Lo G2 H2 ρ2) (nl : some D ≠ Lo) : Hid K Lo G H G2 H2 D ρ2 ds := by
  obtain ⟨vs, a, b⟩ := h.at_
  exact ⟨h.sq.trans q, r, q.f D (by rw [a]; simp) h.g, vs, q.h D _ nl a, Dqsu b q.g⟩
theorem Sq.put {p : Addr} {u : HO} (s : Sq Lo G H G2 H2) (hp : H p = none) (hg : G2 p = none) : Sq Lo G H G2 (upd H2 p u) :=
  ⟨s.g, fun a o e => by
    have : a ≠ p := fun q => by rw [q, hg] at e; cases e
    rw [upd_ne this]; exact s.s a o e, fun a o n e => by
    have : a ≠ p := fun q => by rw [q, hp] at e; cases e
    rw [upd_ne this]; exact s.h a o n e, fun a e => by
    by_cases q : a = p
    · subst q; rw [upd_same]; simp
    · rw [upd_ne q]; exact s.k a e, s.f⟩
theorem RwOk.put {p : Addr} {u : HO} (r : RwOk K Lo G H ρ) (nl : some p ≠ Lo) : RwOk K Lo G (upd H p u) ρ := fun x hx => by
  obtain ⟨L, e, hr⟩ := r x hx
  obtain ⟨a, ea, ha⟩ := hr.at_
  have : L ≠ p := fun z => nl (by rw [e, z])
  exact ⟨L, e, hr.g, a, by rw [upd_ne this]; exact ea, ha⟩
/-- one turn's thing is put behind -/
theorem Hid.push {D : Addr} {ds : List Dt} {d : Dt} {v : V} (h : Hid K Lo G H G1 H1 D ρ ds) (hD : H D = none) (nl : some D ≠ Lo) (dv : Dq K G1 v d) : ∃ acc, H1 D = some (.lst acc) ∧ acc.length = ds.length ∧ Hid K Lo G H G1 (upd H1 D (.lst (acc ++ [v]))) D ρ (ds ++ [d]) := by
  obtain ⟨vs, a, b⟩ := h.at_
  exact ⟨vs, a, dqs_len b, h.sq.put hD h.g, h.row.put nl, h.g, _, upd_same, dqs_app b (.cons dv .nil)⟩
theorem xn_lc {wi : TI} {g : TG} {tt : TT} {te : TE} {i : ME (List Dt)} {tg : FG} {t : ME Bool} {e : ME Dt} {js vs : List Nat} (hi : XI K mg E wi i) (hg : XG K g tg js) (hj : ∀ j ∈ js, j ∈ vs) (ht : XT K mg E tt t) (he : XE K mg E te e) : XN K mg E (tLc wi g tt te vs) (fLc i tg t e vs) := fun Lo H0 σ G H s ρ A r ρ' Q hr en q => by
  show wi σ H _
  refine xjn_at hi hr en q fun J ds G1 H1 ρ1 s1 w hr en q => fun D hD => ?_
  split at hr
  case isFalse => cases hr
  rename_i hlen
  cases hq : lcGo tg t e (wipeS s vs) ds ρ1 with
  | none => rw [hq] at hr; cases hr
  | some p =>
    obtain ⟨xs, ρe⟩ := p
    rw [hq] at hr
    cases hr
    have nl := en.new_lo hD
    refine ⟨fun k m H' => m = ds.length - k ∧ k ≤ ds.length ∧ ∃ G' ρk done rest, Hid K Lo G1 H1 G' H' D ρk done ∧ done.length ≤ k ∧ lcGo tg t e (wipeS s vs) (ds.drop k) ρk = some (rest, ρ') ∧ done ++ rest = xs,
      ⟨ds.length, rfl, Nat.zero_le _, G1, ρ1, [], xs, ⟨(Stp.hid en.gr hD).sq, en.row.step (Stp.hid en.gr hD), en.gr.back hD, [], upd_same, .nil⟩, Nat.zero_le _, hq, rfl⟩, ?_⟩
    rintro k m H' ⟨rfl, hle, G', ρk, done, rest, hid, hdl, hgo, hxs⟩
    have e' : EnS K Lo H0 G' H' σ s ρk A := en.step hid.sq hid.row
    by_cases hlt : k < ds.length
    · refine .inr ⟨w.go k G' H' hid.sq.g e'.gr hlt, fun H'' => ∃ G'' ρk done rest, Hid K Lo G1 H1 G'' H'' D ρk done ∧ done.length ≤ k + 1 ∧ lcGo tg t e (wipeS s vs) (ds.drop (k + 1)) ρk = some (rest, ρ') ∧ done ++ rest = xs,
        fun H'' ⟨G'', a, b, c, f1, f2, f3, f4⟩ => ⟨ds.length - (k + 1), by omega, rfl, hlt, G'', a, b, c, f1, f2, f3, f4⟩, fun x H2 y => ?_⟩
      obtain ⟨G2, d, s2, hd, dx⟩ := w.yld k G' H' x H2 hid.sq.g e'.gr hlt y
      have hdr : ds.drop k = d :: ds.drop (k + 1) := by
        rw [List.drop_eq_getElem_cons hlt]
        congr 1
        rw [List.getElem?_eq_getElem hlt] at hd
        exact Option.some.inj hd
      rw [hdr] at hgo
      unfold lcGo at hgo
      cases htg : tg d (wipeS s vs) with
      | none => rw [htg] at hgo; cases hgo
      | some s3 =>
        rw [htg] at hgo
        simp only [] at hgo
        have en2 := e'.stp s2
        have hid2 := hid.step s2.sq en2.row nl
        refine hg Lo H0 x _ G2 H2 _ ρk A d s3 _ htg (en2.wipe vs) dx fun σ3 en3 w3 => ⟨by rw [w3 vs hj]; exact wipe_wipe _ _, ?_⟩
        cases htt : t s3 ρk with
        | none => rw [htt] at hgo; cases hgo
        | some p =>
          obtain ⟨rb, ρb⟩ := p
          rw [htt] at hgo
          cases rb with
          | error z => cases hgo
          | ok b =>
            refine ht Lo H0 σ3 G2 H2 s3 ρk A _ _ _ htt en3 fun b' G3 H3 q3 r3 eb => ?_
            subst eb
            have hid3 := hid2.step q3 r3 nl
            cases b' with
            | true =>
              refine iteT ?_
              simp only [] at hgo
              cases hte : e s3 ρb with
              | none => rw [hte] at hgo; cases hgo
              | some p =>
                obtain ⟨rx, ρx⟩ := p
                rw [hte] at hgo
                cases rx with
                | error z => cases hgo
                | ok z =>
                  simp only [] at hgo
                  refine he Lo H0 σ3 G3 H3 s3 ρb A _ _ _ hte (en3.step q3 r3) fun v G4 H4 q4 r4 dv => ?_
                  have hid4 := hid3.step q4 r4 nl
                  obtain ⟨acc, ha, hl, hp⟩ := hid4.push hD nl dv
                  split at hgo
                  · rename_i hrest
                    cases hgo
                    exact ⟨acc, ha, by rw [hl]; exact Evl.sz_lt (by omega), G4, ρx, done ++ [z], _, hp, by rw [List.length_append, List.length_singleton]; omega, hrest, by rw [List.append_assoc]; exact hxs⟩
                  · cases hgo
            | false =>
              simp only [] at hgo
              exact iteF ⟨G3, ρb, done, rest, hid3, by omega, hgo, hxs⟩
    · have hk : k = ds.length := by omega
      subst hk
      rw [List.drop_length] at hgo
      unfold lcGo at hgo
      cases hgo
      rw [List.append_nil] at hxs
      subst hxs
      obtain ⟨vs', a, b⟩ := hid.at_
      exact .inl ⟨w.stop G' H' hid.sq.g e'.gr, q D vs' G' H' hid.sq hid.row hD hid.g nl a b⟩
end
end Sb

/-! Seamboard, layer F6: two clauses; statements. -/
namespace Sb
open PySem PySem.Spec PyProof.Rows L2
section
variable {K : PySem.W.Frag} {mg : Str → Option Value} {E : XK} {Lo : Option Addr} {H0 G H G1 H1 G2 H2 : Hp} {σ : L2.St} {s : Ss} {ρ ρ' : Ro} {A : Nat → List Addr}
structure SqD (D : Addr) (Lo : Option Addr) (G H G2 H2 : Hp) : Prop where
  g : Gr G G2
  s : Gr G2 H2
  h : ∀ a o, some a ≠ Lo → a ≠ D → H a = some o → H2 a = some o
  k : ∀ a, H a ≠ none → H2 a ≠ none
  f : ∀ a, H a ≠ none → G a = none → G2 a = none
theorem Sq.d {D : Addr} (q : Sq Lo G H G2 H2) : SqD D Lo G H G2 H2 := ⟨q.g, q.s, fun a o n _ e => q.h a o n e, q.k, q.f⟩
theorem SqD.trans {D : Addr} (a : SqD D Lo G H G1 H1) (b : SqD D Lo G1 H1 G2 H2) : SqD D Lo G H G2 H2 :=
  ⟨a.g.trans b.g, b.s, fun x o n m e => b.h x o n m (a.h x o n m e), fun x e => b.k x (a.k x e), fun x h1 h2 => b.f x (a.k x h1) (a.f x h1 h2)⟩
theorem SqD.push {D : Addr} {u : HO} (s : Gr G H) (hg : G D = none) : SqD D Lo G H G (upd H D u) :=
  ⟨.refl _, fun a o e => by
    have : a ≠ D := fun q => by rw [q, hg] at e; cases e
    rw [upd_ne this]; exact s a o e, fun a o _ n e => by rw [upd_ne n]; exact e, fun a e => by
    by_cases q : a = D
    · subst q; rw [upd_same]; simp
    · rw [upd_ne q]; exact e, fun _ _ h => h⟩
theorem EnS.stepD {D : Addr} {ρ2 : Ro} (e : EnS K Lo H0 G H σ s ρ A) (q : SqD D Lo G H G2 H2) (hD : ∀ i, D ∉ A i) (r : RwOk K Lo G2 H2 ρ2) : EnS K Lo H0 G2 H2 σ s ρ2 A where
  gr := q.s
  row := r
  lo := fun L h => q.k L (e.lo L h)
  low := fun a h => q.k a (e.low a h)
  len := e.len
  at_ := fun i w hw => by
    obtain ⟨v, a, b⟩ := e.at_ i w hw
    exact ⟨v, a, wvOk_step b q.g fun p hp o ho => q.h p o (e.fp i p hp).2.2.2 (fun z => hD i (z ▸ hp)) ho⟩
  fp := fun i p hp => by
    obtain ⟨a, b, c, d⟩ := e.fp i p hp
    exact ⟨q.f p c a, b, q.k p c, d⟩
  dj := e.dj
  nd := e.nd
theorem xn_lc2 {wi wi1 : TI} {g g1 : TG} {tt tt1 : TT} {te : TE} {i i1 : ME (List Dt)} {tg tg1 : FG} {t t1 : ME Bool} {e : ME Dt} {js vs js1 vs1 : List Nat} (hi : XI K mg E wi i) (hg : XG K g tg js) (hj : ∀ j ∈ js, j ∈ vs) (ht : XT K mg E tt t)
    (hi1 : XI K mg E wi1 i1) (hg1 : XG K g1 tg1 js1) (hj1 : ∀ j ∈ js1, j ∈ vs1) (ht1 : XT K mg E tt1 t1) (he : XE K mg E te e) : XN K mg E (tLc2 wi g tt wi1 g1 tt1 te vs vs1) (fLc2 i tg t i1 tg1 t1 e vs vs1) := fun Lo H0 σ G H s ρ A r ρ' Q hr en q => by
  show wi σ H _
  refine xjn_at hi hr en q fun J ds G1 H1 ρ1 s1 w hr en q => fun D hD => ?_
  cases hq : lc2Go tg t i1 tg1 t1 e vs1 (wipeS s vs) ds ρ1 with
  | none => rw [hq] at hr; cases hr
  | some p =>
    obtain ⟨xs, ρe⟩ := p
    rw [hq] at hr
    simp only [] at hr
    split at hr
    case isFalse => cases hr
    rename_i hlen
    cases hr
    have nl := en.new_lo hD
    have room : ∀ {a b : List Dt}, a ++ b = xs → 0 < b.length → a.length < sizeLine := fun {a b} h hb => by
      have h2 : (a ++ b).length ≤ 50000 := by rw [h]; exact hlen
      rw [List.length_append] at h2
      exact Evl.sz_lt (by omega)
    refine ⟨fun k m H' => m = ds.length - k ∧ k ≤ ds.length ∧ ∃ G' ρk done rest, Hid K Lo G1 H1 G' H' D ρk done ∧ lc2Go tg t i1 tg1 t1 e vs1 (wipeS s vs) (ds.drop k) ρk = some (rest, ρ') ∧ done ++ rest = xs,
      ⟨ds.length, rfl, Nat.zero_le _, G1, ρ1, [], xs, ⟨(Stp.hid en.gr hD).sq, en.row.step (Stp.hid en.gr hD), en.gr.back hD, [], upd_same, .nil⟩, hq, rfl⟩, ?_⟩
    rintro k m H' ⟨rfl, hle, G', ρk, done, rest, hid, hgo, hxs⟩
    have e' : EnS K Lo H0 G' H' σ s ρk A := en.step hid.sq hid.row
    by_cases hlt : k < ds.length
    · refine .inr ⟨w.go k G' H' hid.sq.g e'.gr hlt, fun H'' => ∃ G'' ρk done rest, Hid K Lo G1 H1 G'' H'' D ρk done ∧ lc2Go tg t i1 tg1 t1 e vs1 (wipeS s vs) (ds.drop (k + 1)) ρk = some (rest, ρ') ∧ done ++ rest = xs,
        fun H'' ⟨G'', a, b, c, f1, f2, f3⟩ => ⟨ds.length - (k + 1), by omega, rfl, hlt, G'', a, b, c, f1, f2, f3⟩, fun x H2 y => ?_⟩
      obtain ⟨G2, d, s2, hd, dx⟩ := w.yld k G' H' x H2 hid.sq.g e'.gr hlt y
      have hdr : ds.drop k = d :: ds.drop (k + 1) := by
        rw [List.drop_eq_getElem_cons hlt]
        congr 1
        rw [List.getElem?_eq_getElem hlt] at hd
        exact Option.some.inj hd
      rw [hdr] at hgo
      unfold lc2Go at hgo
      cases htg : tg d (wipeS s vs) with
      | none => rw [htg] at hgo; cases hgo
      | some s3 =>
        rw [htg] at hgo
        simp only [] at hgo
        have en2 := e'.stp s2
        have hid2 := hid.step s2.sq en2.row nl
        refine hg Lo H0 x _ G2 H2 _ ρk A d s3 _ htg (en2.wipe vs) dx fun σ3 en3 w3 => ⟨by rw [w3 vs hj]; exact wipe_wipe _ _, ?_⟩
        cases htt : t s3 ρk with
        | none => rw [htt] at hgo; cases hgo
        | some p =>
          obtain ⟨rb, ρb⟩ := p
          rw [htt] at hgo
          cases rb with
          | error z => cases hgo
          | ok b =>
            refine ht Lo H0 σ3 G2 H2 s3 ρk A _ _ _ htt en3 fun b' G3 H3 q3 r3 eb => ?_
            subst eb
            have hid3 := hid2.step q3 r3 nl
            have en3' := en3.step q3 r3
            cases b' with
            | false =>
              simp only [] at hgo
              exact iteF ⟨G3, ρb, done, rest, hid3, hgo, hxs⟩
            | true =>
              refine iteT ?_
              simp only [] at hgo
              cases hii : i1 s3 ρb with
              | none => rw [hii] at hgo; cases hgo
              | some p =>
                obtain ⟨rx, ρx⟩ := p
                rw [hii] at hgo
                cases rx with
                | error z => cases hgo
                | ok es =>
                  simp only [] at hgo
                  refine hi1 Lo H0 σ3 G3 H3 s3 ρb A _ _ _ hii en3' fun J1 G4 H4 q4 r4 w1 => ?_
                  have hid4 := hid3.step q4 r4 nl
                  have en4 := en3'.step q4 r4
                  cases hin : lcGo tg1 t1 e (wipeS s3 vs1) es ρx with
                  | none => rw [hin] at hgo; cases hgo
                  | some p =>
                    obtain ⟨ys, ρy⟩ := p
                    rw [hin] at hgo
                    simp only [] at hgo
                    split at hgo
                    case h_2 => cases hgo
                    rename_i rest2 ρ4 hout
                    cases hgo
                    refine ⟨fun j m H5 => m = es.length - j ∧ j ≤ es.length ∧ ∃ G5 ρj dn rs, Hid K Lo G1 H1 G5 H5 D ρj dn ∧ SqD D Lo G4 H4 G5 H5 ∧ lcGo tg1 t1 e (wipeS s3 vs1) (es.drop j) ρj = some (rs, ρy) ∧ dn ++ rs = done ++ ys,
                      ⟨es.length, rfl, Nat.zero_le _, G4, ρx, done, ys, hid4, (Sq.refl en4.gr).d, hin, rfl⟩, ?_⟩
                    rintro j m H5 ⟨rfl, hle5, G5, ρj, dn, rs, hid5, sd5, hgo5, hxs5⟩
                    have hDA : ∀ i, D ∉ A i := fun i hi => (en.fp i D hi).2.2.1 hD
                    have e5 : EnS K Lo H0 G5 H5 σ3 s3 ρj A := en4.stepD sd5 hDA hid5.row
                    by_cases hl5 : j < es.length
                    · refine .inr ⟨w1.go j G5 H5 sd5.g e5.gr hl5, fun H'' => ∃ G'' ρj dn rs, Hid K Lo G1 H1 G'' H'' D ρj dn ∧ SqD D Lo G4 H4 G'' H'' ∧ lcGo tg1 t1 e (wipeS s3 vs1) (es.drop (j + 1)) ρj = some (rs, ρy) ∧ dn ++ rs = done ++ ys,
                        fun H'' ⟨G'', a, b, c, f1, f2, f3, f4⟩ => ⟨es.length - (j + 1), by omega, rfl, hl5, G'', a, b, c, f1, f2, f3, f4⟩, fun x5 H6 y5 => ?_⟩
                      obtain ⟨G6, d5, s6, hd5, dx5⟩ := w1.yld j G5 H5 x5 H6 sd5.g e5.gr hl5 y5
                      have hdr5 : es.drop j = d5 :: es.drop (j + 1) := by
                        rw [List.drop_eq_getElem_cons hl5]
                        congr 1
                        rw [List.getElem?_eq_getElem hl5] at hd5
                        exact Option.some.inj hd5
                      rw [hdr5] at hgo5
                      unfold lcGo at hgo5
                      cases htg5 : tg1 d5 (wipeS s3 vs1) with
                      | none => rw [htg5] at hgo5; cases hgo5
                      | some s7 =>
                        rw [htg5] at hgo5
                        simp only [] at hgo5
                        have en6 := e5.stp s6
                        have hid6 := hid5.step s6.sq en6.row nl
                        have sd6 := sd5.trans (Sq.d (D := D) (Lo := Lo) s6.sq)
                        refine hg1 Lo H0 x5 _ G6 H6 _ ρj A d5 s7 _ htg5 (en6.wipe vs1) dx5 fun σ7 en7 w7 => ⟨by rw [w7 vs1 hj1]; exact wipe_wipe _ _, ?_⟩
                        cases htt5 : t1 s7 ρj with
                        | none => rw [htt5] at hgo5; cases hgo5
                        | some p =>
                          obtain ⟨rb, ρb⟩ := p
                          rw [htt5] at hgo5
                          cases rb with
                          | error z => cases hgo5
                          | ok b =>
                            refine ht1 Lo H0 σ7 G6 H6 s7 ρj A _ _ _ htt5 en7 fun b' G7 H7 q7 r7 eb => ?_
                            subst eb
                            have hid7 := hid6.step q7 r7 nl
                            have sd7 := sd6.trans (Sq.d (D := D) q7)
                            cases b' with
                            | true =>
                              refine iteT ?_
                              simp only [] at hgo5
                              cases hte5 : e s7 ρb with
                              | none => rw [hte5] at hgo5; cases hgo5
                              | some p =>
                                obtain ⟨rx, ρx⟩ := p
                                rw [hte5] at hgo5
                                cases rx with
                                | error z => cases hgo5
                                | ok z =>
                                  simp only [] at hgo5
                                  refine he Lo H0 σ7 G7 H7 s7 ρb A _ _ _ hte5 (en7.step q7 r7) fun v G8 H8 q8 r8 dv => ?_
                                  have hid8 := hid7.step q8 r8 nl
                                  have sd8 := sd7.trans (Sq.d (D := D) q8)
                                  obtain ⟨acc, ha, hl, hp⟩ := hid8.push hD nl dv
                                  split at hgo5
                                  · rename_i rs2 ρ5 hrest
                                    cases hgo5
                                    have hx2 : (dn ++ [z]) ++ rs2 = done ++ ys := by rw [List.append_assoc]; exact hxs5
                                    have lim : dn.length < sizeLine := room (a := dn) (b := (z :: rs2) ++ rest2) (by rw [← List.append_assoc, hxs5, List.append_assoc]; exact hxs) (by simp)
                                    exact ⟨acc, ha, by rw [hl]; exact lim, G8, ρx, dn ++ [z], _, hp, sd8.trans (SqD.push sd8.s hid8.g), hrest, hx2⟩
                                  · cases hgo5
                            | false =>
                              simp only [] at hgo5
                              exact iteF ⟨G7, ρb, dn, rs, hid7, sd7, hgo5, hxs5⟩
                    · have hk5 : j = es.length := by omega
                      subst hk5
                      rw [List.drop_length] at hgo5
                      unfold lcGo at hgo5
                      cases hgo5
                      rw [List.append_nil] at hxs5
                      subst hxs5
                      exact .inl ⟨w1.stop G5 H5 sd5.g e5.gr, G5, _, done ++ ys, rest2, hid5, hout, by rw [List.append_assoc]; exact hxs⟩
    · have hk : k = ds.length := by omega
      subst hk
      rw [List.drop_length] at hgo
      unfold lc2Go at hgo
      cases hgo
      rw [List.append_nil] at hxs
      subst hxs
      obtain ⟨vs', a, b⟩ := hid.at_
      exact .inl ⟨w.stop G' H' hid.sq.g e'.gr, q D vs' G' H' hid.sq hid.row hD hid.g nl a b⟩
end
end Sb

/-! Seamboard, layer F7: statements. -/
namespace Sb
open PySem PySem.Spec PyProof.Rows L2
def PostX (K : PySem.W.Frag) (mg : Str → Option Value) (E : XK) (Lo : Option Addr) (D : Ends) (H0 G H : Hp) : Ot → Prop
  | .nx s ρ => ∀ σ A G2 H2, Sr Lo H0 G H G2 H2 → EnS K Lo H0 G2 H2 σ s ρ A → D.nx σ H2
  | .bk s ρ => ∀ σ A G2 H2, Sr Lo H0 G H G2 H2 → EnS K Lo H0 G2 H2 σ s ρ A → D.bk σ H2
  | .ct s ρ => ∀ σ A G2 H2, Sr Lo H0 G H G2 H2 → EnS K Lo H0 G2 H2 σ s ρ A → D.ct σ H2
  | .rt d ρ => ∀ v G2 H2, Sr Lo H0 G H G2 H2 → RwOk K Lo G2 H2 ρ → Dq K G2 v d → D.rt v H2
  | .er x ρ => ∀ c da G2 H2, Sr Lo H0 G H G2 H2 → RwOk K Lo G2 H2 ρ → ExOk mg x c da H2 → E c da H2
def XS (K : PySem.W.Frag) (mg : Str → Option Value) (E : XK) (t : TS) (h : MS) : Prop :=
  ∀ (Lo : Option Addr) (H0 : Hp) (D : Ends) (σ : L2.St) (G H : Hp) (s : Ss) (ρ : Ro) (A : Nat → List Addr) (o : Ot), h s ρ = some o → EnS K Lo H0 G H σ s ρ A → PostX K mg E Lo D H0 G H o → t D σ H
section
variable {K : PySem.W.Frag} {mg : Str → Option Value} {E : XK} {Lo : Option Addr} {H0 G H G1 H1 G2 H2 : Hp} {σ : L2.St} {s : Ss} {ρ ρ' : Ro} {A : Nat → List Addr} {D : Ends} {o : Ot}
theorem PostX.step (p : PostX K mg E Lo D H0 G H o) (q : Sr Lo H0 G H G1 H1) : PostX K mg E Lo D H0 G1 H1 o := by
  cases o with
  | nx s ρ => exact fun σ A G2 H2 q2 => p σ A G2 H2 (q.trans q2)
  | bk s ρ => exact fun σ A G2 H2 q2 => p σ A G2 H2 (q.trans q2)
  | ct s ρ => exact fun σ A G2 H2 q2 => p σ A G2 H2 (q.trans q2)
  | rt d ρ => exact fun v G2 H2 q2 => p v G2 H2 (q.trans q2)
  | er x ρ => exact fun c da G2 H2 q2 => p c da G2 H2 (q.trans q2)
/-- an expression ahead of what goes on -/
theorem xs_at {α γ : Type} {P1 : Hp → α → γ → Prop} {t1 : L2.St → Hp → (α → Hp → Prop) → Prop} {g : ME γ} {k : γ → MS} {T : α → Hp → Prop}
    (h1 : XJ K mg E P1 t1 g) (hg : fOut g k s ρ = some o) (e : EnS K Lo H0 G H σ s ρ A) (q : PostX K mg E Lo D H0 G H o)
    (c : ∀ v d G1 H1 ρ1, Sq Lo G H G1 H1 → P1 G1 v d → k d s ρ1 = some o → EnS K Lo H0 G1 H1 σ s ρ1 A → PostX K mg E Lo D H0 G1 H1 o → T v H1) : t1 σ H T := by
  unfold fOut at hg
  cases h : g s ρ with
  | none => rw [h] at hg; cases hg
  | some p =>
    obtain ⟨r1, ρ1⟩ := p
    rw [h] at hg
    cases r1 with
    | error x =>
      cases hg
      exact h1 Lo H0 σ G H s ρ A _ _ _ h e fun c da G2 H2 s2 r2 hx => q c da G2 H2 (s2.sr e.low) r2 hx
    | ok d => exact h1 Lo H0 σ G H s ρ A _ _ _ h e fun v G1 H1 s1 r1 p1 => c v d G1 H1 ρ1 s1 p1 hg (e.step s1 r1) (q.step (s1.sr e.low))
/-- .. a new list -/
theorem xs_atN {g : ME (List Dt)} {t1 : TE} {k : List Dt → MS} {T : VK}
    (h1 : XN K mg E t1 g) (hg : fOut g k s ρ = some o) (e : EnS K Lo H0 G H σ s ρ A) (q : PostX K mg E Lo D H0 G H o)
    (c : ∀ p vs ds G1 H1 ρ1, Sq Lo G H G1 H1 → H p = none → G1 p = none → some p ≠ Lo → H1 p = some (.lst vs) → DqAll K G1 vs ds → k ds s ρ1 = some o → EnS K Lo H0 G1 H1 σ s ρ1 A → PostX K mg E Lo D H0 G1 H1 o → T (.ref p) H1) : t1 σ H T := by
  unfold fOut at hg
  cases h : g s ρ with
  | none => rw [h] at hg; cases hg
  | some p =>
    obtain ⟨r1, ρ1⟩ := p
    rw [h] at hg
    cases r1 with
    | error x =>
      cases hg
      exact h1 Lo H0 σ G H s ρ A _ _ _ h e fun c da G2 H2 s2 r2 hx => q c da G2 H2 (s2.sr e.low) r2 hx
    | ok d => exact h1 Lo H0 σ G H s ρ A _ _ _ h e fun p vs G1 H1 s1 r1 hp hg1 nl h1 dv => c p vs d G1 H1 ρ1 s1 hp hg1 nl h1 dv hg (e.step s1 r1) (q.step (s1.sr e.low))
def fNext : MS := fun s ρ => some (.nx s ρ)
theorem xs_next : XS K mg E tNext fNext := fun Lo H0 D σ G H s ρ A o h e q => by
  cases h
  exact q σ A G H (.refl e.gr) e
def fSeq (a b : MS) : MS := fun s ρ => match a s ρ with
  | some (.nx s1 ρ1) => b s1 ρ1
  | o => o
theorem xs_seq {t u : TS} {a b : MS} (ha : XS K mg E t a) (hb : XS K mg E u b) : XS K mg E (tSeq t u) (fSeq a b) := fun Lo H0 D σ G H s ρ A o h e q => by
  unfold fSeq at h
  cases h1 : a s ρ with
  | none => rw [h1] at h; cases h
  | some o1 =>
    rw [h1] at h
    refine ha Lo H0 { D with nx := u D } σ G H s ρ A o1 h1 e ?_
    cases o1 with
    | nx s1 ρ1 => exact fun σ2 A2 G2 H2 q2 e2 => hb Lo H0 D σ2 G2 H2 s1 ρ1 A2 o h e2 (q.step q2)
    | bk s ρ => cases h; exact q
    | ct s ρ => cases h; exact q
    | rt d ρ => cases h; exact q
    | er x ρ => cases h; exact q
def fBreak : MS := fun s ρ => some (.bk s ρ)
theorem xs_break : XS K mg E tBreak fBreak := fun Lo H0 D σ G H s ρ A o h e q => by
  cases h
  exact q σ A G H (.refl e.gr) e
def fCont : MS := fun s ρ => some (.ct s ρ)
theorem xs_cont : XS K mg E tCont fCont := fun Lo H0 D σ G H s ρ A o h e q => by
  cases h
  exact q σ A G H (.refl e.gr) e
def fDrop (a : ME Dt) : MS := fOut a fun _ s ρ => some (.nx s ρ)
theorem xs_drop {ta : TE} {a : ME Dt} (ha : XE K mg E ta a) : XS K mg E (tDrop ta) (fDrop a) := fun Lo H0 D σ G H s ρ A o h e q => by
  show ta σ H _
  refine xs_at ha h e q fun v d G1 H1 ρ1 s1 dv h e q => ?_
  cases h
  exact q σ A G1 H1 (.refl e.gr) e
def fRet (a : ME Dt) : MS := fOut a fun d _ ρ => some (.rt d ρ)
theorem xs_ret {ta : TE} {a : ME Dt} (ha : XE K mg E ta a) : XS K mg E (tRet ta) (fRet a) := fun Lo H0 D σ G H s ρ A o h e q => by
  show ta σ H _
  refine xs_at ha h e q fun v d G1 H1 ρ1 s1 dv h e q => ?_
  cases h
  exact q v G1 H1 (.refl e.gr) e.row dv
def fRetN : MS := fun _ ρ => some (.rt .none ρ)
theorem xs_retN : XS K mg E tRetN fRetN := fun Lo H0 D σ G H s ρ A o h e q => by
  cases h
  exact q .non G H (.refl e.gr) e.row .non
def fIfS (c : ME Bool) (a b : MS) : MS := fOut c fun x => if x = true then a else b
theorem xs_if {tc : TT} {t u : TS} {c : ME Bool} {a b : MS} (hc : XT K mg E tc c) (ha : XS K mg E t a) (hb : XS K mg E u b) : XS K mg E (tIfS tc t u) (fIfS c a b) := fun Lo H0 D σ G H s ρ A o h e q => by
  show tc σ H _
  refine xs_at hc h e q fun v d G1 H1 ρ1 s1 dv h e q => ?_
  subst dv
  cases v with
  | true => exact iteT (ha Lo H0 D σ G1 H1 s ρ1 A o h e q)
  | false => exact iteF (hb Lo H0 D σ G1 H1 s ρ1 A o h e q)
/-- x = e -/
def fAsg (e : ME Dt) (tg : FG) : MS := fOut e fun d s ρ => match tg d s with
  | some s1 => some (.nx s1 ρ)
  | none => none
theorem xs_asg {te : TE} {g : TG} {e : ME Dt} {tg : FG} {js : List Nat} (he : XE K mg E te e) (hg : XG K g tg js) : XS K mg E (tAsg te g) (fAsg e tg) := fun Lo H0 D σ G H s ρ A o h e q => by
  show te σ H _
  refine xs_at he h e q fun v d G1 H1 ρ1 s1 dv h e q => ?_
  split at h
  · rename_i hs
    cases h
    exact hg Lo H0 v σ G1 H1 s ρ1 A d _ _ hs e dv fun σ' e' _ => q σ' A G1 H1 (.refl e'.gr) e'
  · cases h
/-- a, b = x, y: names by names -/
def setAll : List Nat → List Dt → Ss → Option Ss
  | [], [], s => some s
  | i :: is, d :: ds, s => setAll is ds (s.set i (some (.d d)))
  | _, _, _ => none
def fPar (is : List Nat) (t : ME (List Dt)) : MS := fOut t fun ds s ρ => match setAll is ds s with
  | some s1 => some (.nx s1 ρ)
  | none => none
theorem xs_par {i j : Nat} {ta : TA} {t : ME (List Dt)} (ht : XA K mg E ta t) : XS K mg E (tPar i j ta) (fPar [i, j] t) := fun Lo H0 D σ G H s ρ A o h e q => by
  show ta σ H _
  refine xs_at ht h e q fun vs ds G1 H1 ρ1 s1 dv h e q => ?_
  match ds, vs, dv, h with
  | [], _, _, h => cases h
  | [_], _, _, h => cases h
  | [a, b], _, .cons x (.cons y .nil), h => cases h; exact ⟨_, _, rfl, q _ A G1 H1 (.refl e.gr) ((e.setD i x).setD j y)⟩
  | _ :: _ :: _ :: _, _, _, h => cases h
theorem xs_par3 {i j l : Nat} {ta : TA} {t : ME (List Dt)} (ht : XA K mg E ta t) : XS K mg E (tPar3 i j l ta) (fPar [i, j, l] t) := fun Lo H0 D σ G H s ρ A o h e q => by
  show ta σ H _
  refine xs_at ht h e q fun vs ds G1 H1 ρ1 s1 dv h e q => ?_
  match ds, vs, dv, h with
  | [], _, _, h => cases h
  | [_], _, _, h => cases h
  | [_, _], _, _, h => cases h
  | [a, b, c], _, .cons x (.cons y (.cons z .nil)), h => cases h; exact ⟨_, _, _, rfl, q _ A G1 H1 (.refl e.gr) (((e.setD i x).setD j y).setD l z)⟩
  | _ :: _ :: _ :: _ :: _, _, _, h => cases h
/-- x += e, numbers -/
def fAug (f : Int → Int → Int) (i : Nat) (a : ME Dt) : MS := fun s ρ => match s[i]? with
  | some (some (.d (.int x))) => fOut a (fun d s ρ => match d with
    | .int y => some (.nx (s.set i (some (.d (.int (f x y))))) ρ)
    | _ => none) s ρ
  | _ => none
theorem xs_aug {f : Int → Int → Int} {i : Nat} {ta : TE} {a : ME Dt} (ha : XE K mg E ta a) : XS K mg E (tAug i ta (ipI f)) (fAug f i a) := fun Lo H0 D σ G H s ρ A o h e q => by
  unfold fAug at h
  split at h
  · rename_i x hx
    obtain ⟨v, hv, dv⟩ := e.at_ i _ hx
    cases dv
    refine ⟨_, hv, ?_⟩
    refine xs_at ha h e q fun u d G1 H1 ρ1 s1 du h e q => ?_
    cases d <;> cases h
    cases du
    exact ⟨_, _, rfl, rfl, q _ A G1 H1 (.refl e.gr) (e.setD i (.int _))⟩
  · cases h
/-! loops -/
def forGo (tg : FG) (b : MS) : List Dt → MS
  | [], s, ρ => some (.nx s ρ)
  | d :: ds, s, ρ => match tg d s with
    | none => none
    | some s1 => match b s1 ρ with
      | some (.nx s2 ρ2) => forGo tg b ds s2 ρ2
      | some (.ct s2 ρ2) => forGo tg b ds s2 ρ2
      | some (.bk s2 ρ2) => some (.nx s2 ρ2)
      | o => o
def fFor (i : ME (List Dt)) (tg : FG) (b : MS) : MS := fOut i fun ds => forGo tg b ds
theorem xs_for {wi : TI} {g : TG} {tb : TS} {i : ME (List Dt)} {tg : FG} {b : MS} {js : List Nat} (hi : XI K mg E wi i) (hg : XG K g tg js) (hb : XS K mg E tb b) : XS K mg E (tFor wi g tb) (fFor i tg b) := fun Lo H0 D σ G H s ρ A o h e q => by
  show wi σ H _
  refine xs_at hi h e q fun J ds G1 H1 ρ1 s1 w h e q => ?_
  refine ⟨fun k m σ' H' => m = ds.length - k ∧ k ≤ ds.length ∧ ∃ G' sk ρk Ak, Sr Lo H0 G1 H1 G' H' ∧ EnS K Lo H0 G' H' σ' sk ρk Ak ∧ forGo tg b (ds.drop k) sk ρk = some o, ⟨ds.length, rfl, Nat.zero_le _, G1, s, ρ1, A, .refl e.gr, e, h⟩, ?_⟩
  rintro k m σ' H' ⟨rfl, hle, G', sk, ρk, Ak, s', e', hgo⟩
  by_cases hlt : k < ds.length
  · refine .inr ⟨w.go k G' H' s'.g e'.gr hlt, fun σ'' H'' => ∃ G'' sk ρk Ak, Sr Lo H0 G1 H1 G'' H'' ∧ EnS K Lo H0 G'' H'' σ'' sk ρk Ak ∧ forGo tg b (ds.drop (k + 1)) sk ρk = some o,
      fun σ'' H'' ⟨G'', a, b, c, f1, f2, f3⟩ => ⟨ds.length - (k + 1), by omega, rfl, hlt, G'', a, b, c, f1, f2, f3⟩, fun x H2 y => ?_⟩
    obtain ⟨G2, d, s2, hd, dx⟩ := w.yld k G' H' x H2 s'.g e'.gr hlt y
    have hdr : ds.drop k = d :: ds.drop (k + 1) := by
      rw [List.drop_eq_getElem_cons hlt]
      congr 1
      rw [List.getElem?_eq_getElem hlt] at hd
      exact Option.some.inj hd
    rw [hdr] at hgo
    unfold forGo at hgo
    cases htg : tg d sk with
    | none => rw [htg] at hgo; cases hgo
    | some s3 =>
      rw [htg] at hgo
      simp only [] at hgo
      have e2 := e'.stp s2
      have st2 : Sr Lo H0 G1 H1 G2 H2 := s'.trans (s2.sq.sr e'.low)
      refine hg Lo H0 x σ' G2 H2 sk ρk Ak d s3 _ htg e2 dx fun σ3 e3 _ => ?_
      cases hbo : b s3 ρk with
      | none => rw [hbo] at hgo; cases hgo
      | some ob =>
        rw [hbo] at hgo
        refine hb Lo H0 _ σ3 G2 H2 s3 ρk Ak ob hbo e3 ?_
        cases ob with
        | nx s4 ρ4 => exact fun σ4 A4 G4 H4 q4 e4 => ⟨G4, s4, ρ4, A4, st2.trans q4, e4, hgo⟩
        | ct s4 ρ4 => exact fun σ4 A4 G4 H4 q4 e4 => ⟨G4, s4, ρ4, A4, st2.trans q4, e4, hgo⟩
        | bk s4 ρ4 =>
          cases hgo
          exact fun σ4 A4 G4 H4 q4 e4 => q σ4 A4 G4 H4 (st2.trans q4) e4
        | rt d ρ4 =>
          cases hgo
          exact fun v G4 H4 q4 r4 d4 => q v G4 H4 (st2.trans q4) r4 d4
        | er x ρ4 =>
          cases hgo
          exact fun c da G4 H4 q4 r4 d4 => q c da G4 H4 (st2.trans q4) r4 d4
  · have hk : k = ds.length := by omega
    subst hk
    rw [List.drop_length] at hgo
    cases hgo
    exact .inl ⟨w.stop G' H' s'.g e'.gr, q σ' Ak G' H' s' e'⟩
def whileGo (t : ME Bool) (b : MS) : Nat → MS
  | 0, _, _ => none
  | n + 1, s, ρ => fOut t (fun c s ρ => if c = true then match b s ρ with
    | some (.nx s2 ρ2) => whileGo t b n s2 ρ2
    | some (.ct s2 ρ2) => whileGo t b n s2 ρ2
    | some (.bk s2 ρ2) => some (.nx s2 ρ2)
    | o => o
    else some (.nx s ρ)) s ρ
/-- a while of at most n turns -/
theorem xs_while {tc : TT} {tb : TS} {c : ME Bool} {b : MS} (n : Nat) (hc : XT K mg E tc c) (hb : XS K mg E tb b) : XS K mg E (tWhile tc tb) (whileGo c b n) := fun Lo H0 D σ G H s ρ A o h e q => by
  refine ⟨fun m σ' H' => ∃ G' sk ρk Ak, Sr Lo H0 G H G' H' ∧ EnS K Lo H0 G' H' σ' sk ρk Ak ∧ whileGo c b m sk ρk = some o, ⟨n, G, s, ρ, A, .refl e.gr, e, h⟩, ?_⟩
  rintro m σ' H' ⟨G', sk, ρk, Ak, s', e', hgo⟩
  cases m with
  | zero => cases hgo
  | succ m =>
    unfold whileGo at hgo
    refine xs_at hc hgo e' (q.step s') fun v d G1 H1 ρ1 s1 dv hgo e1 q1 => ?_
    subst dv
    have st1 : Sr Lo H0 G H G1 H1 := s'.trans (s1.sr e'.low)
    cases v with
    | true =>
      rw [if_pos rfl] at hgo
      rw [if_pos rfl]
      refine ⟨fun σ'' H'' => ∃ G'' sk ρk Ak, Sr Lo H0 G H G'' H'' ∧ EnS K Lo H0 G'' H'' σ'' sk ρk Ak ∧ whileGo c b m sk ρk = some o, fun σ'' H'' h => ⟨m, Nat.lt_succ_self _, h⟩, ?_⟩
      cases hbo : b sk ρ1 with
      | none => rw [hbo] at hgo; cases hgo
      | some ob =>
        rw [hbo] at hgo
        refine hb Lo H0 _ σ' G1 H1 sk ρ1 Ak ob hbo e1 ?_
        cases ob with
        | nx s4 ρ4 => exact fun σ4 A4 G4 H4 q4 e4 => ⟨G4, s4, ρ4, A4, st1.trans q4, e4, hgo⟩
        | ct s4 ρ4 => exact fun σ4 A4 G4 H4 q4 e4 => ⟨G4, s4, ρ4, A4, st1.trans q4, e4, hgo⟩
        | bk s4 ρ4 =>
          cases hgo
          exact fun σ4 A4 G4 H4 q4 e4 => q1 σ4 A4 G4 H4 q4 e4
        | rt d ρ4 =>
          cases hgo
          exact fun v G4 H4 q4 r4 d4 => q1 v G4 H4 q4 r4 d4
        | er x ρ4 =>
          cases hgo
          exact fun c da G4 H4 q4 r4 d4 => q1 c da G4 H4 q4 r4 d4
    | false =>
      rw [if_neg (by decide)] at hgo
      rw [if_neg (by decide)]
      cases hgo
      exact q1 σ' Ak G1 H1 (.refl e1.gr) e1
end
end Sb

/-! Seamboard, layer F8: things of a name's own that change. -/
namespace Sb
open PySem PySem.Spec PyProof.Rows L2
/-- what an own thing is as data -/
def ocD : Oc → Dt
  | .l xs => .list xs
  | .ll xss => .list (xss.map .list)
  | .m _ => .none
def thW : Option Wv → Option Wv
  | some (.o (.m _)) => none
  | some (.o c) => some (.d (ocD c))
  | some .row => none
  | x => x
/-- own things looked at -/
def thS (s : Ss) : Ss := s.map thW
section
variable {K : PySem.W.Frag} {mg : Str → Option Value} {E : XK} {Lo : Option Addr} {H0 G H G1 H1 G2 H2 : Hp} {σ : L2.St} {s : Ss} {ρ ρ' : Ro} {A : Nat → List Addr} {D : Ends} {o : Ot} {v : V} {fp : List Addr} {c : Oc}
theorem lls_q (g : Gr G G2) : ∀ {ps : List Addr} {dss : List (List Dt)}, LlOk K G H ps dss → (∀ p ∈ ps, ∀ o, H p = some o → G2 p = some o) → DqAll K G2 (ps.map V.ref) (dss.map .list)
  | _, _, .nil, _ => .nil
  | _, _, .cons a b t, h => .cons (.lst (h _ List.mem_cons_self _ a) (Dqsu b g)) (lls_q g t fun p hp => h p (List.mem_cons_of_mem _ hp))
theorem oc_q (g : Gr G G2) (ok : OcOk K G H v fp c) (hm : ∀ k, c ≠ .m k) (h : ∀ p ∈ fp, ∀ o, H p = some o → G2 p = some o) : Dq K G2 v (ocD c) := by
  cases c with
  | l xs =>
    obtain ⟨p, vs, e1, e2, e3, e4⟩ := ok
    subst e1 e2
    exact .lst (h p List.mem_cons_self _ e3) (Dqsu e4 g)
  | ll xss =>
    obtain ⟨p, ps, e1, e2, e3, e4⟩ := ok
    subst e1 e2
    exact .lst (h p List.mem_cons_self _ e3) (lls_q g e4 fun q hq => h q (List.mem_cons_of_mem _ hq))
  | m k => exact absurd rfl (hm k)
/-! looking -/
open Classical in
noncomputable def allA (G H : Hp) (A : Nat → List Addr) : Hp := fun a => if ∃ i, a ∈ A i then H a else G a
theorem allA_in (a : Addr) (i : Nat) (h : a ∈ A i) : allA G H A a = H a := by unfold allA; rw [if_pos ⟨i, h⟩]
theorem allA_gr (e : EnS K Lo H0 G H σ s ρ A) : Gr G (allA G H A) := fun a o h => by
  unfold allA
  by_cases q : ∃ i, a ∈ A i
  · obtain ⟨i, hi⟩ := q
    rw [(e.fp i a hi).1] at h; cases h
  · rw [if_neg q]; exact h
theorem allA_le (e : EnS K Lo H0 G H σ s ρ A) : Gr (allA G H A) H := fun a o h => by
  unfold allA at h
  split at h
  · exact h
  · exact e.gr a o h
theorem EnS.look (e : EnS K Lo H0 G H σ s ρ A) : EnS K none H0 (allA G H A) H σ (thS s) none (fun _ => []) where
  gr := allA_le e
  row := fun x hx => nomatch hx
  lo := fun L h => nomatch h
  low := e.low
  len := by unfold thS; rw [List.length_map]; exact e.len
  at_ := fun i w hw => by
    unfold thS at hw
    rw [List.getElem?_map] at hw
    cases hs : s[i]? with
    | none => rw [hs] at hw; cases hw
    | some ow =>
      rw [hs] at hw
      cases ow with
      | none => cases hw
      | some w0 =>
        obtain ⟨v, a, b⟩ := e.at_ i w0 hs
        cases w0 with
        | d x => cases hw; exact ⟨v, a, Dqu b (allA_gr e)⟩
        | row => cases hw
        | o c =>
          cases c with
          | m k => cases hw
          | l xs => cases hw; exact ⟨v, a, oc_q (allA_gr e) b (fun k h => nomatch h) fun p hp o ho => by rw [allA_in p i hp]; exact ho⟩
          | ll xss => cases hw; exact ⟨v, a, oc_q (allA_gr e) b (fun k h => nomatch h) fun p hp o ho => by rw [allA_in p i hp]; exact ho⟩
  fp := fun i p hp => nomatch hp
  dj := fun i j p hp => nomatch hp
  nd := fun i => List.nodup_nil
/-- what is looked at gives a flat thing -/
def fLook (a : ME Dt) : ME Dt := fun s ρ => match a (thS s) none with
  | some (.ok d, _) => if flatD d = true then some (.ok d, ρ) else none
  | _ => none
theorem xe_look {ta : TE} {a : ME Dt} (ha : XE K mg E ta a) : XE K mg E ta (fLook a) := fun Lo H0 σ G H s ρ A r ρ' Q hg e q => by
  unfold fLook at hg
  split at hg
  · rename_i d ρ1 hq
    split at hg
    · rename_i hf
      cases hg
      exact ha none H0 σ _ H _ none _ _ _ Q hq e.look fun v G2 H2 s2 r2 dv => q v G H2 ⟨.refl _, (allA_gr e).trans (s2.g.trans s2.s), fun a o n h => s2.h a o (by simp) h, s2.k, fun _ _ h => h⟩
        (fun x hx => by
          obtain ⟨L, e1, hr⟩ := e.row x hx
          obtain ⟨a, ea, h2⟩ := hr.at_
          exact ⟨L, e1, hr.g, a, s2.h _ _ (by simp) ea, h2⟩) (dp_q dv.p hf)
    · cases hg
  · cases hg
def fLookT (a : ME Bool) : ME Bool := fun s ρ => match a (thS s) none with
  | some (.ok d, _) => some (.ok d, ρ)
  | _ => none
theorem xt_look {ta : TT} {a : ME Bool} (ha : XT K mg E ta a) : XT K mg E ta (fLookT a) := fun Lo H0 σ G H s ρ A r ρ' Q hg e q => by
  unfold fLookT at hg
  split at hg
  · rename_i d ρ1 hq
    cases hg
    exact ha none H0 σ _ H _ none _ _ _ Q hq e.look fun v G2 H2 s2 r2 dv => q v G H2 ⟨.refl _, (allA_gr e).trans (s2.g.trans s2.s), fun a o n h => s2.h a o (by simp) h, s2.k, fun _ _ h => h⟩
      (fun x hx => by
        obtain ⟨L, e1, hr⟩ := e.row x hx
        obtain ⟨a, ea, h2⟩ := hr.at_
        exact ⟨L, e1, hr.g, a, s2.h _ _ (by simp) ea, h2⟩) dv
  · cases hg
/-! from now on it stands for good -/
open Classical in
noncomputable def frzA (G H : Hp) (fp : List Addr) : Hp := fun a => if a ∈ fp then H a else G a
theorem EnS.frz {i : Nat} (e : EnS K Lo H0 G H σ s ρ A) (hi : s[i]? = some (some (.o c))) (hm : ∀ k, c ≠ .m k) : ∃ G', Sr Lo H0 G H G' H ∧ EnS K Lo H0 G' H σ (s.set i (some (.d (ocD c)))) ρ (fun j => if j = i then [] else A j) := by
  have g : Gr G (frzA G H (A i)) := fun a o h => by
    unfold frzA
    by_cases q : a ∈ A i
    · rw [(e.fp i a q).1] at h; cases h
    · rw [if_neg q]; exact h
  have le : Gr (frzA G H (A i)) H := fun a o h => by
    unfold frzA at h
    split at h
    · exact h
    · exact e.gr a o h
  refine ⟨frzA G H (A i), ⟨g, le, fun _ _ _ _ h => h, fun _ h => h, fun a h1 h2 => ?_⟩, le, ?_, e.lo, e.low, by rw [List.length_set]; exact e.len, fun j w hw => ?_, fun j p hp => ?_, fun j k p h1 h2 => ?_, fun j => ?_⟩
  · unfold frzA
    have : a ∉ A i := fun q => h1 (e.fp i a q).2.1
    rw [if_neg this]; exact h2
  · intro x hx
    obtain ⟨L, e1, hr⟩ := e.row x hx
    obtain ⟨a, ea, h2⟩ := hr.at_
    refine ⟨L, e1, ?_, a, ea, gr_l g h2⟩
    unfold frzA
    have : L ∉ A i := fun q => (e.fp i L q).2.2.2 e1.symm
    rw [if_neg this]; exact hr.g
  · by_cases z : j = i
    · subst z
      have hl : j < s.length := (List.getElem?_eq_some_iff.mp hi).1
      rw [List.getElem?_set_self hl] at hw
      cases hw
      obtain ⟨v, a, b⟩ := e.at_ j _ hi
      exact ⟨v, a, oc_q g b hm fun p hp o ho => by unfold frzA; rw [if_pos hp]; exact ho⟩
    · rw [List.getElem?_set_ne (Ne.symm z)] at hw
      obtain ⟨v, a, b⟩ := e.at_ j w hw
      exact ⟨v, a, by rw [if_neg z]; exact wvOk_step b g fun p hp o ho => ho⟩
  · by_cases z : j = i
    · rw [if_pos z] at hp; cases hp
    · rw [if_neg z] at hp
      obtain ⟨a, b, c, d⟩ := e.fp j p hp
      refine ⟨?_, b, c, d⟩
      unfold frzA
      have : p ∉ A i := fun q => z (e.dj j i p hp q)
      rw [if_neg this]; exact a
  · by_cases z : j = i
    · rw [if_pos z] at h1; cases h1
    · rw [if_neg z] at h1
      by_cases z2 : k = i
      · rw [if_pos z2] at h2; cases h2
      · rw [if_neg z2] at h2; exact e.dj j k p h1 h2
  · by_cases z : j = i
    · rw [if_pos z]; exact List.nodup_nil
    · rw [if_neg z]; exact e.nd j
def fFz (i : Nat) (b : MS) : MS := fun s ρ => match s[i]? with
  | some (some (.o (.l xs))) => b (s.set i (some (.d (.list xs)))) ρ
  | some (some (.o (.ll xss))) => b (s.set i (some (.d (.list (xss.map .list))))) ρ
  | some (some (.d _)) => b s ρ
  | _ => none
theorem xs_fz {t : TS} {b : MS} (i : Nat) (hb : XS K mg E t b) : XS K mg E t (fFz i b) := fun Lo H0 D σ G H s ρ A o h e q => by
  unfold fFz at h
  split at h
  · rename_i xs hi
    obtain ⟨G', s', e'⟩ := e.frz hi fun k h => nomatch h
    exact hb Lo H0 D σ G' H _ ρ _ o h e' (q.step s')
  · rename_i xs hi
    obtain ⟨G', s', e'⟩ := e.frz hi fun k h => nomatch h
    exact hb Lo H0 D σ G' H _ ρ _ o h e' (q.step s')
  · exact hb Lo H0 D σ G H _ ρ _ o h e q
  · cases h
/-! a new one -/
theorem EnS.own {i : Nat} {p : Addr} {o : HO} (e : EnS K Lo H0 G H σ s ρ A) (hp : G p = none) (h0 : H0 p = none) (hx : H p = some o) (nl : some p ≠ Lo) (hA : ∀ j, p ∉ A j) (ok : OcOk K G H (.ref p) [p] c) :
    EnS K Lo H0 G H (σ.set i (some (.ref p))) (s.set i (some (.o c))) ρ (fun j => if j = i then [p] else A j) where
  gr := e.gr
  row := e.row
  lo := e.lo
  low := e.low
  len := by rw [List.length_set, List.length_set, e.len]
  at_ := fun j w hj => by
    by_cases q : j = i
    · subst q
      have hl : j < (s.set j (some (Wv.o c))).length := (List.getElem?_eq_some_iff.mp hj).1
      rw [List.length_set] at hl
      rw [List.getElem?_set_self hl] at hj
      cases hj
      exact ⟨.ref p, by rw [List.getElem?_set_self (by rw [e.len]; exact hl)], by rw [if_pos rfl]; exact ok⟩
    · rw [List.getElem?_set_ne (Ne.symm q)] at hj
      obtain ⟨x, a, b⟩ := e.at_ j w hj
      exact ⟨x, by rw [List.getElem?_set_ne (Ne.symm q)]; exact a, by rw [if_neg q]; exact b⟩
  fp := fun j r hr => by
    by_cases q : j = i
    · rw [if_pos q, List.mem_singleton] at hr
      subst hr
      exact ⟨hp, h0, by rw [hx]; simp, nl⟩
    · rw [if_neg q] at hr; exact e.fp j r hr
  dj := fun j k r h1 h2 => by
    by_cases z : j = i
    · rw [if_pos z, List.mem_singleton] at h1
      by_cases z2 : k = i
      · rw [z, z2]
      · rw [if_neg z2] at h2; subst h1; exact absurd h2 (hA k)
    · rw [if_neg z] at h1
      by_cases z2 : k = i
      · rw [if_pos z2, List.mem_singleton] at h2; subst h2; exact absurd h1 (hA j)
      · rw [if_neg z2] at h2; exact e.dj j k r h1 h2
  nd := fun j => by
    by_cases z : j = i
    · rw [if_pos z]; exact List.nodup_cons.mpr ⟨List.not_mem_nil, List.nodup_nil⟩
    · rw [if_neg z]; exact e.nd j
/-- x = a new list that will change -/
def fOwn (i : Nat) (g : ME (List Dt)) : MS := fOut g fun ds s ρ => some (.nx (s.set i (some (.o (.l ds)))) ρ)
theorem xs_own {te : TE} {g : ME (List Dt)} (i : Nat) (h : XN K mg E te g) : XS K mg E (tAsg te (gName i)) (fOwn i g) := fun Lo H0 D σ G H s ρ A o hr e q => by
  show te σ H _
  refine xs_atN h hr e q fun p vs ds G1 H1 ρ1 s1 hp np nl h1 dv hr e1 q => ?_
  cases hr
  have h0 : H0 p = none := by
    cases z : H0 p with
    | none => rfl
    | some u => exact absurd hp (e.low p (by rw [z]; simp))
  exact q _ _ G1 H1 (.refl e1.gr) (e1.own np h0 h1 nl (fun j hj => (e.fp j p hj).2.2.1 hp) ⟨p, vs, rfl, rfl, h1, dv⟩)
/-! writing -/
theorem EnS.write {i : Nat} {c' : Oc} (e : EnS K Lo H0 G H σ s ρ A) (hi : s[i]? = some (some (.o c))) (hv : σ[i]? = some (some v)) (hd : ∀ a, a ∉ A i → H2 a = H a) (hk : ∀ a, a ∈ A i → H2 a ≠ none) (ok : OcOk K G H2 v (A i) c') :
    Sr Lo H0 G H G H2 ∧ EnS K Lo H0 G H2 σ (s.set i (some (.o c'))) ρ A := by
  have s2 : Gr G H2 := fun a o h => by
    have : a ∉ A i := fun q => by rw [(e.fp i a q).1] at h; cases h
    rw [hd a this]; exact e.gr a o h
  have k2 : ∀ a, H a ≠ none → H2 a ≠ none := fun a h => by
    by_cases q : a ∈ A i
    · exact hk a q
    · rw [hd a q]; exact h
  refine ⟨⟨.refl _, s2, fun a o n m h => ?_, k2, fun _ _ h => h⟩, s2, fun x hx => ?_, fun L h => k2 L (e.lo L h), fun a h => k2 a (e.low a h), by rw [List.length_set]; exact e.len, fun j w hw => ?_, fun j p hp => ?_, e.dj, e.nd⟩
  · have : a ∉ A i := fun q => m (e.fp i a q).2.1
    rw [hd a this]; exact h
  · obtain ⟨L, e1, hr⟩ := e.row x hx
    obtain ⟨a, ea, h2⟩ := hr.at_
    have : L ∉ A i := fun q => (e.fp i L q).2.2.2 e1.symm
    exact ⟨L, e1, hr.g, a, by rw [hd L this]; exact ea, h2⟩
  · by_cases z : j = i
    · subst z
      have hl : j < s.length := (List.getElem?_eq_some_iff.mp hi).1
      rw [List.getElem?_set_self hl] at hw
      cases hw
      exact ⟨v, hv, ok⟩
    · rw [List.getElem?_set_ne (Ne.symm z)] at hw
      obtain ⟨u, a, b⟩ := e.at_ j w hw
      refine ⟨u, a, wvOk_step b (.refl _) fun p hp o ho => ?_⟩
      have : p ∉ A i := fun q => z (e.dj j i p hp q)
      rw [hd p this]; exact ho
  · obtain ⟨a, b, c, d⟩ := e.fp j p hp
    exact ⟨a, b, k2 p c, d⟩
/-- of a list of its own: what there is -/
theorem EnS.lst {i : Nat} {xs : List Dt} (e : EnS K Lo H0 G H σ s ρ A) (hi : s[i]? = some (some (.o (.l xs)))) : ∃ p vs, σ[i]? = some (some (.ref p)) ∧ A i = [p] ∧ H p = some (.lst vs) ∧ DqAll K G vs xs := by
  obtain ⟨v, hv, p, vs, e1, e2, e3, e4⟩ := e.at_ i _ hi
  subst e1
  exact ⟨p, vs, hv, e2, e3, e4⟩
theorem EnS.wlst {i : Nat} {xs xs' : List Dt} {p : Addr} {vs' : List V} (e : EnS K Lo H0 G H σ s ρ A) (hi : s[i]? = some (some (.o (.l xs)))) (hv : σ[i]? = some (some (.ref p))) (hA : A i = [p]) (dv : DqAll K G vs' xs') :
    Sr Lo H0 G H G (upd H p (.lst vs')) ∧ EnS K Lo H0 G (upd H p (.lst vs')) σ (s.set i (some (.o (.l xs')))) ρ A :=
  e.write hi hv (fun a ha => upd_ne fun z => ha (by rw [hA, z]; exact List.mem_singleton.mpr rfl)) (fun a ha => by rw [hA, List.mem_singleton] at ha; subst ha; rw [upd_same]; simp) ⟨p, vs', rfl, hA, upd_same, dv⟩
def fApp (i : Nat) (a : ME Dt) : MS := fun s ρ => match s[i]? with
  | some (some (.o (.l _))) => fOut a (fun d s ρ => match s[i]? with
    | some (some (.o (.l xs))) => if xs.length < 100000 then some (.nx (s.set i (some (.o (.l (xs ++ [d]))))) ρ) else none
    | _ => none) s ρ
  | _ => none
theorem xs_app {i : Nat} {ta : TE} {a : ME Dt} (ha : XE K mg E ta a) : XS K mg E (tDrop (tBM K "list" rAppend (tVar i) (tCons ta tNil))) (fApp i a) := fun Lo H0 D σ G H s ρ A o hr e q => by
  unfold fApp at hr
  split at hr
  · rename_i xs hi
    obtain ⟨p, vs, hv, hA, hp, dv⟩ := e.lst hi
    refine ⟨_, hv, .inl ⟨rfl, _, SqL.of hp⟩, ?_⟩
    show ta σ H _
    refine xs_at ha hr e q fun u d G1 H1 ρ1 s1 du hr e q => ?_
    rw [hi] at hr
    simp only [] at hr
    split at hr
    · rename_i hl
      cases hr
      obtain ⟨p2, vs2, hv2, hA2, hp2, dv2⟩ := e.lst hi
      rw [hv] at hv2
      cases hv2
      obtain ⟨w1, w2⟩ := e.wlst (xs' := xs ++ [d]) (vs' := vs2 ++ [u]) hi hv hA2 (dqs_app dv2 (.cons du .nil))
      exact ⟨p, vs2, u, rfl, rfl, hp2, by rw [dqs_len dv2]; exact Evl.sz_lt (by omega), q _ A G1 _ w1 w2⟩
    · cases hr
  · cases hr
def fExt (i : Nat) (a : ME Dt) : MS := fun s ρ => match s[i]? with
  | some (some (.o (.l _))) => fOut a (fun d s ρ => match d, s[i]? with
    | .list ys, some (some (.o (.l xs))) => if xs.length + ys.length ≤ 100000 then some (.nx (s.set i (some (.o (.l (xs ++ ys))))) ρ) else none
    | _, _ => none) s ρ
  | _ => none
theorem xs_ext {i : Nat} {ta : TE} {a : ME Dt} (ha : XE K mg E ta a) : XS K mg E (tDrop (tBM K "list" rExtend (tVar i) (tCons ta tNil))) (fExt i a) := fun Lo H0 D σ G H s ρ A o hr e q => by
  unfold fExt at hr
  split at hr
  · rename_i xs hi
    obtain ⟨p, vs, hv, hA, hp, dv⟩ := e.lst hi
    refine ⟨_, hv, .inl ⟨rfl, _, SqL.of hp⟩, ?_⟩
    show ta σ H _
    refine xs_at ha hr e q fun u d G1 H1 ρ1 s1 du hr e q => ?_
    rw [hi] at hr
    cases d <;> try cases hr
    rename_i ys
    simp only [] at hr
    split at hr
    · rename_i hl
      cases hr
      obtain ⟨p2, vs2, hv2, hA2, hp2, dv2⟩ := e.lst hi
      rw [hv] at hv2
      cases hv2
      cases du with
      | lst k1 k2 =>
        obtain ⟨w1, w2⟩ := e.wlst (xs' := xs ++ ys) hi hv hA2 (dqs_app dv2 k2)
        exact ⟨p, _, vs2, _, rfl, rfl, hp2, e.gr _ _ k1, by rw [dqs_len dv2, dqs_len k2]; exact Evl.sz_of hl, q _ A G1 _ w1 w2⟩
    · cases hr
  · cases hr
/-- x[k] = e -/
def fSto (i : Nat) (k a : ME Dt) : MS := fun s ρ => match s[i]? with
  | some (some (.o (.l xs))) => fOut a (fun d => fOut k fun j s ρ => match j with
    | .int j => match ixN xs.length j with
      | some n => some (.nx (s.set i (some (.o (.l (xs.set n d))))) ρ)
      | none => none
    | _ => none) s ρ
  | _ => none
theorem xs_sto {i : Nat} {ta tk : TE} {a k : ME Dt} (hk : XE K mg E tk k) (ha : XE K mg E ta a) : XS K mg E (tAsg ta (gSub (tVar i) tk rSetL)) (fSto i k a) := fun Lo H0 D σ G H s ρ A o hr e q => by
  unfold fSto at hr
  split at hr
  · rename_i xs hi
    show ta σ H _
    refine xs_at ha hr e q fun u d G1 H1 ρ1 s1 du hr e q => ?_
    obtain ⟨p, vs, hv, hA, hp, dv⟩ := e.lst hi
    refine ⟨_, hv, ?_⟩
    show tk σ H1 _
    refine xs_at hk hr e q fun w j G2 H2 ρ2 s2 dw hr e q => ?_
    cases j <;> try cases hr
    cases dw
    rename_i j
    simp only [] at hr
    split at hr
    · rename_i n hn
      cases hr
      obtain ⟨p2, vs2, hv2, hA2, hp2, dv2⟩ := e.lst hi
      rw [hv] at hv2
      cases hv2
      obtain ⟨w1, w2⟩ := e.wlst (xs' := xs.set n d) hi hv hA2 (dqs_set dv2 (Dqu du s2.g))
      exact ⟨p, vs2, j, n, rfl, rfl, hp2, by rw [dqs_len dv2]; exact hn, q _ A G2 _ w1 w2⟩
    · cases hr
  · cases hr
/-- x[k] += e, numbers -/
def fAugI (f : Int → Int → Int) (i : Nat) (k a : ME Dt) : MS := fun s ρ => match s[i]? with
  | some (some (.o (.l xs))) => fOut k (fun j s ρ => match j with
    | .int j => match ixN xs.length j with
      | some n => match xs[n]? with
        | some (.int x) => fOut a (fun d s ρ => match d with
          | .int y => some (.nx (s.set i (some (.o (.l (xs.set n (.int (f x y))))))) ρ)
          | _ => none) s ρ
        | _ => none
      | none => none
    | _ => none) s ρ
  | _ => none
theorem xs_augI {f : Int → Int → Int} {i : Nat} {ta tk : TE} {a k : ME Dt} (hk : XE K mg E tk k) (ha : XE K mg E ta a) : XS K mg E (tAugS (tVar i) tk ta (rIxL K) (ipI f) rSetL) (fAugI f i k a) := fun Lo H0 D σ G H s ρ A o hr e q => by
  unfold fAugI at hr
  split at hr
  · rename_i xs hi
    obtain ⟨p, vs, hv, hA, hp, dv⟩ := e.lst hi
    refine ⟨_, hv, ?_⟩
    show tk σ H _
    refine xs_at hk hr e q fun w j G1 H1 ρ1 s1 dw hr e q => ?_
    cases j <;> try cases hr
    cases dw
    rename_i j
    simp only [] at hr
    split at hr
    · rename_i n hn
      split at hr
      · rename_i x hx
        obtain ⟨p1, vs1, hv1, hA1, hp1, dv1⟩ := e.lst hi
        rw [hv] at hv1
        cases hv1
        obtain ⟨z, hz, dz⟩ := atq_of (i := j) (d := .int x) dv1 (by unfold atI; rw [hn]; exact hx)
        cases dz
        refine ⟨p, vs1, j, _, rfl, rfl, SqL.of hp1, hz, ?_⟩
        show ta σ H1 _
        refine xs_at ha hr e q fun u d G2 H2 ρ2 s2 du hr e q => ?_
        obtain ⟨y, rfl⟩ : ∃ y, d = .int y := by cases d <;> first | exact ⟨_, rfl⟩ | cases hr
        cases hr
        cases du
        obtain ⟨p2, vs2, hv2, hA2, hp2, dv2⟩ := e.lst hi
        rw [hv] at hv2
        cases hv2
        obtain ⟨w1, w2⟩ := e.wlst (xs' := xs.set n (.int (f x y))) hi hv hA2 (dqs_set dv2 (.int _))
        exact ⟨x, y, rfl, rfl, p, vs2, j, n, rfl, rfl, hp2, by rw [dqs_len dv2]; exact hn, q _ A G2 _ w1 w2⟩
      · cases hr
    · cases hr
  · cases hr
end
end Sb

/-! Seamboard, layer F9: defs, by their functions. -/
namespace Sb
open PySem PySem.Spec PyProof.Rows L2
def argS (n : Nat) (ds : List Dt) : Ss := ds.map (fun d => some (Wv.d d)) ++ List.replicate (n - ds.length) none
def outF : Option Ot → Option (Except Exn Dt)
  | some (.rt d _) => some (.ok d)
  | some (.nx _ _) => some (.ok .none)
  | _ => none
def outX : Option Ot → Option (Except Exn Dt)
  | some (.rt d _) => some (.ok d)
  | some (.nx _ _) => some (.ok .none)
  | some (.er x _) => some (.error x)
  | _ => none
/-- a def of np parameters, n names -/
def runF (np n : Nat) (b : MS) : Fn := fun ds => if ds.length = np then outF (b (argS n ds) none) else none
def runX (np n : Nat) (b : MS) : Fn := fun ds => if ds.length = np then outX (b (argS n ds) none) else none
def outW : Option Ot → Option (Except Exn Dt × Rw)
  | some (.rt d (some x)) => some (.ok d, x)
  | some (.nx _ (some x)) => some (.ok .none, x)
  | _ => none
def runW (np n : Nat) (b : MS) : Fr := fun x ds => if ds.length + 1 = np then outW (b (some .row :: argS (n - 1) ds) (some x)) else none
section
variable {P : Program} {w : World} {K : PySem.W.Frag} {mg : Str → Option Value} {base : Heap} {x : Str} {st : Stmt} {N ps : List Str} {k : Nat}
theorem start_ens {G H : Hp} {vs : List V} {ds : List Dt} (N : List Str) (g : Gr G H) (h : DqAll K G vs ds) : EnS K none H G H (L2.start N vs) (argS N.length ds) none (fun _ => []) where
  gr := g
  row := fun x hx => nomatch hx
  lo := fun L h => nomatch h
  low := fun a h => h
  len := by
    have hl := dqs_len h
    unfold L2.start argS; simp [hl]
  at_ := fun i w hi => by
    have hl := dqs_len h
    unfold argS at hi
    unfold L2.start
    by_cases h1 : i < ds.length
    · rw [List.getElem?_append_left (by simpa using h1), List.getElem?_map, List.getElem?_eq_getElem h1] at hi
      have e : w = .d ds[i] := by
        have := Option.some.inj hi
        exact (Option.some.inj this).symm
      subst e
      obtain ⟨v, e1, e2⟩ := dqs_get h (List.getElem?_eq_getElem h1)
      exact ⟨v, by rw [List.getElem?_append_left (by simpa [hl] using h1), List.getElem?_map, e1]; rfl, e2⟩
    · rw [List.getElem?_append_right (by simpa using h1), List.getElem?_replicate] at hi
      split at hi <;> cases hi
  fp := fun i p hp => nomatch hp
  dj := fun i j p hp => nomatch hp
  nd := fun i => List.nodup_nil
/-- THE RULE for a def that draws nothing and lets nothing out -/
theorem hasF {b : MS} (A : FnAt K mg x st) (B : BindsAt x st ps) (S : FnScope N ps (defScope st))
    (hb : ∀ (cdv : Value) (f : Addr) (A : Around) (outer : List Env) (s : Shared) (H : Hp) (E : XK), Room k (A.deeper (envOfC x (defScope st) s.heap.objs.size f cdv)) →
      ∃ t, PSs (cxOf CX0 P w K mg base N x (defScope st) f cdv A outer s H E).nox (defBody st) t ∧ XS K mg E0 t b) : Has P w K mg base x (k + 1) ps (spF K mg (runF ps.length N.length b)) := by
  obtain ⟨f, fd, hF, hm⟩ := A.ex
  refine ⟨f, fd, ?_, hm, hF.kp, hF.binds fun kV doc pm an cdv ct us hl => B kV doc pm an cdv ct us hl⟩
  refine hF.ok S (fun vs H Q E h => ?_) (fun cdv A outer s H vs Q E hr h => ?_)
  · obtain ⟨G, ds, r, _, dv, f, _⟩ := h
    unfold runF at f
    split at f
    · rename_i e; rw [dqs_len dv, e]
    · cases f
  · obtain ⟨G, ds, r, g, dv, hf, q⟩ := h
    unfold runF at hf
    split at hf
    · obtain ⟨t, ht, hx⟩ := hb cdv f A outer s H E hr
      refine ⟨t, ht, ?_⟩
      cases ho : b (argS N.length ds) none with
      | none => rw [ho] at hf; cases hf
      | some o =>
        rw [ho] at hf
        refine hx none H _ _ G H _ none _ o ho (start_ens N g dv) ?_
        cases o with
        | rt d ρ =>
          cases hf
          exact fun v G2 H2 s2 _ d2 => q v G2 H2 s2.sq.stp d2
        | nx s ρ =>
          cases hf
          exact fun σ A G2 H2 s2 e2 => q .non G2 H2 s2.sq.stp .non
        | bk s ρ => cases hf
        | ct s ρ => cases hf
        | er x ρ => cases hf
    · cases hf
/-- .. with arguments by name alone -/
theorem hasFK {b : MS} {kws : List (Str × V)} (A : FnAtK K mg x st kws) (S : FnScope N ps (defScope st))
    (hb : ∀ (cdv : Value) (f : Addr) (A : Around) (outer : List Env) (s : Shared) (H : Hp) (E : XK), Room k (A.deeper (envOfC x (defScope st) s.heap.objs.size f cdv)) →
      ∃ t, PSs (cxOf CX0 P w K mg base N x (defScope st) f cdv A outer s H E).nox (defBody st) t ∧ XS K mg E0 t b) : HasK P w K mg base x (k + 1) ps st kws (spF K mg (runF ps.length N.length b)) := by
  obtain ⟨f, fd, hD, hF, hm⟩ := A.ex
  refine ⟨f, fd, ?_, hm, hF.kp, hD⟩
  refine hF.ok S (fun vs H Q E h => ?_) (fun cdv A outer s H vs Q E hr h => ?_)
  · obtain ⟨G, ds, r, _, dv, f, _⟩ := h
    unfold runF at f
    split at f
    · rename_i e; rw [dqs_len dv, e]
    · cases f
  · obtain ⟨G, ds, r, g, dv, hf, q⟩ := h
    unfold runF at hf
    split at hf
    · obtain ⟨t, ht, hx⟩ := hb cdv f A outer s H E hr
      refine ⟨t, ht, ?_⟩
      cases ho : b (argS N.length ds) none with
      | none => rw [ho] at hf; cases hf
      | some o =>
        rw [ho] at hf
        refine hx none H _ _ G H _ none _ o ho (start_ens N g dv) ?_
        cases o with
        | rt d ρ =>
          cases hf
          exact fun v G2 H2 s2 _ d2 => q v G2 H2 s2.sq.stp d2
        | nx s ρ =>
          cases hf
          exact fun σ A G2 H2 s2 e2 => q .non G2 H2 s2.sq.stp .non
        | bk s ρ => cases hf
        | ct s ρ => cases hf
        | er x ρ => cases hf
    · cases hf
/-- .. for one that draws: the row is its first parameter -/
theorem hasW {b : MS} (A : FnAt K mg x st) (B : BindsAt x st ps) (S : FnScope N ps (defScope st)) (hN : 0 < N.length)
    (hb : ∀ (cdv : Value) (f : Addr) (A : Around) (outer : List Env) (s : Shared) (H : Hp) (E : XK), Room k (A.deeper (envOfC x (defScope st) s.heap.objs.size f cdv)) →
      ∃ t, PSs (cxOf CX0 P w K mg base N x (defScope st) f cdv A outer s H E).nox (defBody st) t ∧ XS K mg E0 t b) : Has P w K mg base x (k + 1) ps (spW K mg (runW ps.length N.length b)) := by
  obtain ⟨f, fd, hF, hm⟩ := A.ex
  refine ⟨f, fd, ?_, hm, hF.kp, hF.binds fun kV doc pm an cdv ct us hl => B kV doc pm an cdv ct us hl⟩
  refine hF.ok S (fun vs H Q E h => ?_) (fun cdv A outer s H vs Q E hr h => ?_)
  · obtain ⟨G, L, ws, ds, y, r, y', rfl, _, _, dv, f, _⟩ := h
    unfold runW at f
    split at f
    · rename_i e; rw [List.length_cons, dqs_len dv, e]
    · cases f
  · obtain ⟨G, L, ws, ds, y, r, y', rfl, g, ro, dv, hf, q⟩ := h
    unfold runW at hf
    split at hf
    · obtain ⟨t, ht, hx⟩ := hb cdv f A outer s H E hr
      refine ⟨t, ht, ?_⟩
      have hl := dqs_len dv
      have e0 : EnS K (some L) H G H (L2.start N (.ref L :: ws)) (some .row :: argS (N.length - 1) ds) (some y) (fun _ => []) := by
        refine ⟨g, fun z hz => ⟨L, rfl, by cases hz; exact ro⟩, fun L' h => ?_, fun a h => h, ?_, fun i w hi => ?_, fun i p hp => (nomatch hp), fun i j p hp => (nomatch hp), fun i => List.nodup_nil⟩
        · cases h
          obtain ⟨a, e, _⟩ := ro.at_
          rw [e]; simp
        · unfold L2.start argS; simp [hl]; omega
        · cases i with
          | zero =>
            have e : w = .row := by
              have := Option.some.inj hi
              exact (Option.some.inj this).symm
            subst e
            exact ⟨.ref L, rfl, L, rfl, rfl⟩
          | succ i =>
            have hi' : (argS (N.length - 1) ds)[i]? = some (some w) := by simpa using hi
            show ∃ v, ((some (V.ref L) :: ws.map some) ++ List.replicate (N.length - (ws.length + 1)) none)[i + 1]? = some (some v) ∧ _
            rw [List.cons_append, List.getElem?_cons_succ]
            unfold argS at hi'
            by_cases h1 : i < ds.length
            · rw [List.getElem?_append_left (by simpa using h1), List.getElem?_map, List.getElem?_eq_getElem h1] at hi'
              have e : w = .d ds[i] := by
                have := Option.some.inj hi'
                exact (Option.some.inj this).symm
              subst e
              obtain ⟨v, e1, e2⟩ := dqs_get dv (List.getElem?_eq_getElem h1)
              exact ⟨v, by rw [List.getElem?_append_left (by simpa [hl] using h1), List.getElem?_map, e1]; rfl, e2⟩
            · rw [List.getElem?_append_right (by simpa using h1), List.getElem?_replicate] at hi'
              split at hi' <;> cases hi'
      cases ho : b (some .row :: argS (N.length - 1) ds) (some y) with
      | none => rw [ho] at hf; cases hf
      | some o =>
        rw [ho] at hf
        refine hx (some L) H _ _ G H _ _ _ o ho e0 ?_
        have rw2 : ∀ {G2 H2 z}, RwOk K (some L) G2 H2 (some z) → RowAt K G2 H2 L z := fun h => by
          obtain ⟨L', e, r⟩ := h _ rfl
          cases e; exact r
        cases o with
        | rt d ρ =>
          cases ρ with
          | none => cases hf
          | some z => cases hf; exact fun v G2 H2 s2 r2 d2 => q v G2 H2 s2.sq (rw2 r2) d2
        | nx s ρ =>
          cases ρ with
          | none => cases hf
          | some z => cases hf; exact fun σ A G2 H2 s2 e2 => q .non G2 H2 s2.sq (rw2 e2.row) .non
        | bk s ρ => cases hf
        | ct s ρ => cases hf
        | er x ρ => cases hf
    · cases hf
end
/-- the law itself, from the row on -/
theorem law_goF {K : PySem.W.Frag} {mg : Str → Option Value} {u : TS} {b : MS} {a : Addr} {ns : List Int} {H : Hp} {n : Nat} {Q : VK} {nx : L2.St → Hp → Prop} {ρ' : Ro} (hs : SqL K H a (ns.map V.int)) (q : ∀ H', Q (.bl true) H')
    (hb : XS K mg E0 u b) (h : b (none :: some .row :: List.replicate n none) (some ⟨ns, 0, 0, 0⟩) = some (.rt (.bool true) ρ')) :
    tSeq (tAsg (tLst (tCons (tVar 0) (tCons (tC (.int 0)) (tCons (tC (.int 0)) (tCons (tC (.int 0)) tNil))))) (gName 1)) u { nx := nx, rt := Q } (some (.ref a) :: none :: List.replicate n none) H := by
  refine ⟨.ref a, rfl, by show 4 ≤ sizeLine; decide, fun L hL => ?_⟩
  have g : Gr H (upd H L (.lst [.ref a, .int 0, .int 0, .int 0])) := .new hL
  have ro : RowAt K H (upd H L (.lst [.ref a, .int 0, .int 0, .int 0])) L ⟨ns, 0, 0, 0⟩ := ⟨hL, a, upd_same, hs⟩
  have e0 : EnS K (some L) (upd H L (.lst [.ref a, .int 0, .int 0, .int 0])) H (upd H L (.lst [.ref a, .int 0, .int 0, .int 0])) (some (.ref a) :: some (.ref L) :: List.replicate n none) (none :: some .row :: List.replicate n none) (some ⟨ns, 0, 0, 0⟩) (fun _ => []) := by
    refine ⟨g, fun z hz => ⟨L, rfl, by cases hz; exact ro⟩, fun L' h => ?_, fun a h => h, by simp, fun i w hi => ?_, fun i p hp => (nomatch hp), fun i j p hp => (nomatch hp), fun i => List.nodup_nil⟩
    · cases h
      rw [upd_same]; simp
    · match i with
      | 0 => cases hi
      | 1 => cases hi; exact ⟨.ref L, rfl, L, rfl, rfl⟩
      | i + 2 =>
        have hi' : (List.replicate n (none : Option Wv))[i]? = some (some w) := by simpa using hi
        rw [List.getElem?_replicate] at hi'
        split at hi' <;> cases hi'
  exact hb (some L) _ _ _ _ _ _ _ _ _ h e0 fun v G2 H2 _ _ dv => by
    cases dv
    exact q H2
end Sb
namespace Sb
open PySem PySem.Spec PyProof.Rows L2
/-- a def that is never come to here -/
theorem has_no {P : Program} {w : World} {K : PySem.W.Frag} {mg : Str → Option Value} {base : Heap} {x : Str} {st : Stmt} {ps : List Str} (A : FnAt K mg x st) (B : BindsAt x st ps) (k : Nat) : Has P w K mg base x k ps (spF K mg fun _ => none) := by
  obtain ⟨f, fd, hF, hm⟩ := A.ex
  exact ⟨f, fd, ⟨fun vs H Q E h => (by obtain ⟨_, _, _, _, _, h, _⟩ := h; cases h), fun _ _ _ _ _ _ _ _ _ _ _ _ _ h => (by obtain ⟨_, _, _, _, _, h, _⟩ := h; cases h)⟩, hm, hF.kp, hF.binds fun kV doc pm an cdv ct us hl => B kV doc pm an cdv ct us hl⟩
end Sb

/-! Seamboard, layer F10: the row is read and written. -/
namespace Sb
open PySem PySem.Spec PyProof.Rows L2
section
variable {K : PySem.W.Frag} {mg : Str → Option Value} {E : XK} {Lo : Option Addr} {H0 G H G1 H1 G2 H2 : Hp} {σ : L2.St} {s : Ss} {ρ ρ' : Ro} {A : Nat → List Addr} {D : Ends} {o : Ot}
def Rw.at_ (x : Rw) : Nat → Option Int
  | 1 => some x.i
  | 2 => some x.s
  | 3 => some x.r
  | _ => none
def Rw.put (x : Rw) (k : Nat) (n : Int) : Option Rw := match k with
  | 1 => some { x with i := n }
  | 2 => some { x with s := n }
  | 3 => some { x with r := n }
  | _ => none
theorem EnS.rowAt {i : Nat} {x : Rw} (e : EnS K Lo H0 G H σ s (some x) A) (hi : s[i]? = some (some .row)) : ∃ L, Lo = some L ∧ σ[i]? = some (some (.ref L)) ∧ RowAt K G H L x := by
  obtain ⟨v, hv, L, hL, e2⟩ := e.at_ i _ hi
  subst e2
  obtain ⟨L', hL', r⟩ := e.row x rfl
  rw [hL] at hL'
  cases hL'
  exact ⟨L, hL, hv, r⟩
def fRowI (i k : Nat) : ME Dt := fun s ρ => match s[i]?, ρ with
  | some (some .row), some x => match x.at_ k with
    | some n => some (.ok (.int n), ρ)
    | none => none
  | _, _ => none
theorem xe_rowI (i k : Nat) : XE K mg E (tOp (rIxL K) (tVar i) (tC (.int (k : Nat)))) (fRowI i k) := fun Lo H0 σ G H s ρ A r ρ' Q hg e q => by
  unfold fRowI at hg
  split at hg
  · rename_i x hi
    split at hg
    · rename_i n hn
      cases hg
      obtain ⟨L, hL, hv, hr⟩ := e.rowAt hi
      obtain ⟨a, ea, ha⟩ := hr.at_
      refine ⟨_, hv, L, _, (k : Nat), .int n, rfl, rfl, SqL.of ea, ?_, q.ok e (.refl e.gr) (.int _)⟩
      unfold Rw.at_ at hn
      match k, hn with
      | 1, hn => cases hn; rfl
      | 2, hn => cases hn; rfl
      | 3, hn => cases hn; rfl
    · cases hg
  · cases hg
def fRowLen (i : Nat) : ME Dt := fun s ρ => match s[i]?, ρ with
  | some (some .row), some x => some (.ok (.int x.ns.length), ρ)
  | _, _ => none
theorem xe_rowLen (i : Nat) : XE K mg E (tCB (rLen K) (tCons (tOp (rIxL K) (tVar i) (tC (.int 0))) tNil)) (fRowLen i) := fun Lo H0 σ G H s ρ A r ρ' Q hg e q => by
  unfold fRowLen at hg
  split at hg
  · rename_i x hi
    cases hg
    obtain ⟨L, hL, hv, hr⟩ := e.rowAt hi
    obtain ⟨a, ea, ha⟩ := hr.at_
    refine ⟨_, hv, L, _, 0, .ref a, rfl, rfl, SqL.of ea, rfl, a, x.ns.map V.int, rfl, .inl (gr_l e.gr ha), ?_⟩
    rw [List.length_map]
    exact q.ok e (.refl e.gr) (.int _)
  · cases hg
def fRowAt (i : Nat) (k : ME Dt) : ME Dt := fun s ρ => match s[i]?, ρ with
  | some (some .row), some x => bnd k (fun j => lft (match j with
    | .int j => match atI x.ns j with
      | some n => some (.int n)
      | none => none
    | _ => none)) s ρ
  | _, _ => none
theorem atI_map {α β : Type} (f : α → β) (xs : List α) (j : Int) (n : α) (h : atI xs j = some n) : atI (xs.map f) j = some (f n) := by
  unfold atI at h ⊢
  rw [List.length_map]
  cases q : ixN xs.length j with
  | none => rw [q] at h; cases h
  | some m =>
    rw [q] at h
    show (xs.map f)[m]? = _
    have h' : xs[m]? = some n := h
    rw [List.getElem?_map, h']; rfl
theorem xe_rowAt {tk : TE} {k : ME Dt} (i : Nat) (hk : XE K mg E tk k) : XE K mg E (tOp (rIxL K) (tOp (rIxL K) (tVar i) (tC (.int 0))) tk) (fRowAt i k) := fun Lo H0 σ G H s ρ A r ρ' Q hg e q => by
  unfold fRowAt at hg
  split at hg
  · rename_i x hi
    obtain ⟨L, hL, hv, hr⟩ := e.rowAt hi
    obtain ⟨a, ea, ha⟩ := hr.at_
    refine ⟨_, hv, L, _, 0, .ref a, rfl, rfl, SqL.of ea, rfl, ?_⟩
    refine xj_at hk hg e q fun w j G1 H1 ρ1 s1 dw hg e q => ?_
    obtain ⟨z, hz, rfl, rfl⟩ := lft_some hg
    cases j <;> try cases hz
    cases dw
    rename_i j
    simp only [] at hz
    split at hz
    · rename_i n hn
      cases hz
      exact ⟨a, x.ns.map V.int, j, .int n, rfl, rfl, gr_l e.gr (gr_l s1.g ha), atI_map V.int x.ns j n hn, q.ok e (.refl e.gr) (.int _)⟩
    · cases hz
  · cases hg
def fRowSet (i k : Nat) (a : ME Dt) : MS := fOut a fun d s ρ => match d, s[i]?, ρ with
  | .int n, some (some .row), some x => match x.put k n with
    | some y => some (.nx s (some y))
    | none => none
  | _, _, _ => none
theorem xs_rowSet {ta : TE} {a : ME Dt} (i k : Nat) (ha : XE K mg E ta a) : XS K mg E (tAsg ta (gSub (tVar i) (tC (.int (k : Nat))) rSetL)) (fRowSet i k a) := fun Lo H0 D σ G H s ρ A o hr e q => by
  show ta σ H _
  refine xs_at ha hr e q fun u d G1 H1 ρ1 s1 du hr e q => ?_
  split at hr
  · rename_i d si ρx n x hi
    split at hr
    · rename_i y hy
      cases hr
      cases du
      obtain ⟨L, hL, hv, rr⟩ := e.rowAt hi
      obtain ⟨a, ea, h2⟩ := rr.at_
      have key : ∃ j vs', ixN 4 ((k : Nat) : Int) = some j ∧ ([.ref a, .int x.i, .int x.s, .int x.r] : List V).set j (.int n) = [.ref a, .int y.i, .int y.s, .int y.r] ∧ vs' = j := by
        unfold Rw.put at hy
        match k, hy with
        | 1, hy => cases hy; exact ⟨1, _, rfl, rfl, rfl⟩
        | 2, hy => cases hy; exact ⟨2, _, rfl, rfl, rfl⟩
        | 3, hy => cases hy; exact ⟨3, _, rfl, rfl, rfl⟩
      obtain ⟨j, _, hj, hset, _⟩ := key
      have hns : y.ns = x.ns := by
        unfold Rw.put at hy
        match k, hy with
        | 1, hy => cases hy; rfl
        | 2, hy => cases hy; rfl
        | 3, hy => cases hy; rfl
      refine ⟨_, hv, L, _, (k : Nat), j, rfl, rfl, ea, hj, ?_⟩
      rw [hset]
      have hgL := rr.g
      have le : Gr G1 (upd H1 L (.lst [.ref a, .int y.i, .int y.s, .int y.r])) := fun b o hb => by
        have : b ≠ L := fun z => by rw [z, hgL] at hb; cases hb
        rw [upd_ne this]; exact e.gr b o hb
      have kk : ∀ b, H1 b ≠ none → (upd H1 L (.lst [.ref a, .int y.i, .int y.s, .int y.r])) b ≠ none := fun b hb => by
        by_cases z : b = L
        · rw [z, upd_same]; simp
        · rw [upd_ne z]; exact hb
      refine q σ A G1 _ ⟨.refl _, le, fun b o nb _ hb => ?_, kk, fun _ _ h => h⟩ ⟨le, fun z hz => ?_, fun L' h => kk L' (e.lo L' h), fun b hb => kk b (e.low b hb), e.len, fun j w hw => ?_, fun j p hp => ?_, e.dj, e.nd⟩
      · have : b ≠ L := fun z => nb (by rw [hL, z])
        rw [upd_ne this]; exact hb
      · cases hz
        exact ⟨L, hL, hgL, a, upd_same, by rw [hns]; exact h2⟩
      · obtain ⟨v, a1, b1⟩ := e.at_ j w hw
        refine ⟨v, a1, wvOk_step b1 (.refl _) fun p hp o ho => ?_⟩
        have : p ≠ L := fun z => (e.fp j p hp).2.2.2 (by rw [hL, z])
        rw [upd_ne this]; exact ho
      · obtain ⟨a1, b1, c1, d1⟩ := e.fp j p hp
        exact ⟨a1, b1, kk p c1, d1⟩
    · cases hr
  · cases hr
/-! isinstance -/
def kitO (n : String) (x : Dt) : Option Dt := match kitB (tyN x) n with
  | some b => some (.bool b)
  | none => none
def fIsi (n : String) (a : ME Dt) : ME Dt := bnd a fun x => lft (kitO n x)
theorem xe_isi {n : String} {ta : TE} {a : ME Dt} (ha : XE K mg E ta a) : XE K mg E (tCB (rIsi K) (tCons ta (tCons (tC (.ty n)) tNil))) (fIsi n a) := fun Lo H0 σ G H s ρ A r ρ' Q hg e q => by
  show ta σ H _
  refine xj_at ha hg e q fun v x G1 H1 ρ1 s1 dv hg e q => ?_
  obtain ⟨z, hz, rfl, rfl⟩ := lft_some hg
  unfold kitO at hz
  split at hz
  · rename_i b hb
    cases hz
    exact ⟨v, .ty n, _, _, b, rfl, .ty n, tyx_of e.gr dv.p, kit_ty hb, q.ok e (.refl e.gr) (.bl b)⟩
  · cases hz
/-- isinstance(x, (tuple, list)) -/
def fIsiTL (a : ME Dt) : ME Dt := bnd a fun x => ret (.bool (kTL x))
theorem xe_isiTL {ta : TE} {a : ME Dt} (ha : XE K mg E ta a) : XE K mg E (tCB (rIsiT K) (tCons ta (tCons (tTup (tCons (tC (.ty "tuple")) (tCons (tC (.ty "list")) tNil))) tNil))) (fIsiTL a) := fun Lo H0 σ G H s ρ A r ρ' Q hg e q => by
  show ta σ H _
  refine xj_at ha hg e q fun v x G1 H1 ρ1 s1 dv hg e q => ?_
  obtain ⟨rfl, rfl⟩ := ret_some (s := s) hg
  exact ⟨by show 2 ≤ sizeLine; decide, fun p hp => ⟨v, p, [.ty "tuple", .ty "list"], _, [.type "tuple", .type "list"], kTL x, rfl, upd_same, .cons (.ty _) (.cons (.ty _) .nil), tyx_of (e.gr.trans (.new hp)) dv.p, kit_TL K x, q.ok e (.hid e.gr hp) (.bl _)⟩⟩
/-- tuple(range(n)) -/
def fTupRg (a : ME Dt) : ME Dt := bnd a fun x => lft (match x with
  | .int n => if 0 ≤ n ∧ n ≤ 100000 then some (ti (sel n.toNat fun _ => true)) else none
  | _ => none)
theorem xe_tupRg {ta : TE} {a : ME Dt} (ha : XE K mg E ta a) : XE K mg E (tTupRg (tRg1 ta)) (fTupRg a) := fun Lo H0 σ G H s ρ A r ρ' Q hg e q => by
  show ta σ H _
  refine xj_at ha hg e q fun v x G1 H1 ρ1 s1 dv hg e q => ?_
  obtain ⟨z, hz, rfl, rfl⟩ := lft_some hg
  cases x <;> try cases hz
  rename_i m
  simp only [] at hz
  split at hz
  · rename_i hm
    cases hz
    cases dv
    obtain ⟨n, rfl⟩ : ∃ n : Nat, m = n := ⟨m.toNat, by omega⟩
    refine ⟨(n : Int), rfl, .of_le (by omega) (by omega) (by omega) (by omega), fun p hp => ?_⟩
    have e1 : rgV 0 (n : Int) = (sel n fun _ => true).map V.int := by
      unfold rgV sel
      rw [List.filter_eq_self.mpr fun _ _ => rfl, List.map_map, show ((n : Int) - 0).toNat = n by omega]
      apply List.map_congr_left
      intro i _
      show V.int (0 + (i : Int)) = V.int (i : Int)
      rw [Int.zero_add]
    rw [e1]
    have nn := newq_t (ds := (sel n fun _ => true).map PyData.int) e.gr hp (dqs_ints (K := K) _)
    exact q.ok e nn.1 nn.2
  · cases hz
/-- a text's method with one argument -/
def fM1 (o : Str → Dt → Option Dt) (a b : ME Dt) : ME Dt := bnd a fun x => match x with
  | .str z => bnd b fun y => lft (o z y)
  | _ => lft none
def RMo (K : PySem.W.Frag) (r : V → List V → Hp → VK → Prop) (o : Str → Dt → Option Dt) : Prop := ∀ z y d, o z y = some d → ∀ (G H : Hp) (u : V) (Q : VK), Gr G H → Dq K G u y → (∀ w G2 H2, Stp G H G2 H2 → Dq K G2 w d → Q w H2) → r (.str z) [u] H Q
theorem xe_m1 {r : V → List V → Hp → VK → Prop} {o : Str → Dt → Option Dt} {to te : TE} {a b : ME Dt} (hr : RMo K r o) (ha : XE K mg E to a) (hb : XE K mg E te b) : XE K mg E (tM1 r to te) (fM1 o a b) := fun Lo H0 σ G H s ρ A r ρ' Q hg e q => by
  show to σ H _
  refine xj_at ha hg e q fun v x G1 H1 ρ1 s1 dv hg e q => ?_
  cases x with
  | str z =>
    cases dv
    refine ⟨⟨_, rfl⟩, ?_⟩
    refine xj_at hb hg e q fun u y G2 H2 ρ2 s2 du hg e q => ?_
    obtain ⟨d, hd, rfl, rfl⟩ := lft_some hg
    exact hr z y d hd G2 H2 u Q e.gr du fun w G3 H3 s3 dw => q.ok e s3 dw
  | none => cases hg
  | bool _ => cases hg
  | int _ => cases hg
  | list _ => cases hg
  | tuple _ => cases hg
  | dict _ => cases hg
def oCountS (a : Str) (y : Dt) : Option Dt := match y with
  | .str b => some (.int (Txt.count a b))
  | _ => none
theorem rmo_count : RMo K rCountS oCountS := fun z y d h G H u Q s dv q => by
  unfold oCountS at h
  split at h
  · cases h; cases dv; exact ⟨_, _, rfl, rfl, q _ G H (.refl s) (.int _)⟩
  · cases h
/-- texts of data that are texts -/
def toStrs : List Dt → Option (List Str)
  | [] => some []
  | .str i :: ds => match toStrs ds with
    | some is => some (i :: is)
    | none => none
  | _ :: _ => none
theorem toStrs_eq : ∀ {ds : List Dt} {is : List Str}, toStrs ds = some is → ds = is.map .str
  | [], _, h => by cases h; rfl
  | .str i :: ds, _, h => by
    unfold toStrs at h
    split at h
    · rename_i e
      cases h
      rw [toStrs_eq e]; rfl
    · cases h
  | .none :: _, _, h => by cases h
  | .bool _ :: _, _, h => by cases h
  | .int _ :: _, _, h => by cases h
  | .list _ :: _, _, h => by cases h
  | .tuple _ :: _, _, h => by cases h
  | .dict _ :: _, _, h => by cases h
theorem toStrs_map : ∀ is : List Str, toStrs (is.map PyData.str) = some is
  | [] => rfl
  | i :: is => by rw [List.map_cons]; unfold toStrs; rw [toStrs_map is]
def oJoin (a : Str) (y : Dt) : Option Dt := match seqD y with
  | some ds => match toStrs ds with
    | some ys => if (ys.map (·.length)).sum + ys.length * a.length ≤ 16777216 then some (.str (Txt.join a ys)) else none
    | none => none
  | none => none
theorem rmo_join : RMo K (rJoin K) oJoin := fun z y d h G H u Q s dv q => by
  unfold oJoin at h
  split at h
  · rename_i ds hy
    split at h
    · rename_i ys hs
      split at h
      · rename_i hl
        cases h
        have e := toStrs_eq hs
        subst e
        cases y with
        | list ds' =>
          cases hy
          cases dv with
          | lst h1 h2 =>
            have e := strs_of h2.p
            subst e
            exact ⟨z, _, ys, rfl, rfl, .inl (SqL.of (s _ _ h1)), hl, q _ _ _ (.refl s) (.str _)⟩
        | tuple ds' =>
          cases hy
          cases dv with
          | tup h1 h2 =>
            have e := strs_of h2.p
            subst e
            exact ⟨z, _, ys, rfl, rfl, .inr (gr_t s h1), hl, q _ _ _ (.refl s) (.str _)⟩
        | none => cases hy
        | bool _ => cases hy
        | int _ => cases hy
        | str _ => cases hy
        | dict _ => cases hy
      · cases h
    · cases h
  · cases h
/-- .. that gives a new list: split -/
def fSplit (a b : ME Dt) : ME (List Dt) := bnd a fun x => match x with
  | .str z => bnd b fun y => lft (match y with
    | .str t => if t.length ≠ 0 ∧ z.length ≤ 90000 then some ((Txt.split z t).map .str) else none
    | _ => none)
  | _ => lft none
theorem dqs_strs {G : Hp} : ∀ (ys : List Str), DqAll K G (ys.map V.str) (ys.map PyData.str)
  | [] => .nil
  | y :: ys => .cons (.str y) (dqs_strs ys)
theorem xn_split {to te : TE} {a b : ME Dt} (ha : XE K mg E to a) (hb : XE K mg E te b) : XN K mg E (tM1 rSplit to te) (fSplit a b) := fun Lo H0 σ G H s ρ A r ρ' Q hg e q => by
  show to σ H _
  refine xjn_at ha hg e q fun v x G1 H1 ρ1 s1 dv hg e q => ?_
  cases x with
  | str z =>
    cases dv
    refine ⟨⟨_, rfl⟩, ?_⟩
    refine xjn_at hb hg e q fun u y G2 H2 ρ2 s2 du hg e q => ?_
    obtain ⟨d, hd, rfl, rfl⟩ := lft_some hg
    split at hd
    · split at hd
      · rename_i t hl
        cases hd
        cases du
        exact ⟨z, t, rfl, rfl, by simpa using hl.1, Evl.sz_of (by omega), fun p hp => q.new e hp (dqs_strs _)⟩
      · cases hd
    · cases hd
  | none => cases hg
  | bool _ => cases hg
  | int _ => cases hg
  | list _ => cases hg
  | tuple _ => cases hg
  | dict _ => cases hg
/-- xs.count(k), numbers -/
def fCountL (a : ME Dt) (t : ME (List Dt)) : ME Dt := bnd a fun x => match x with
  | .list ds => bnd t fun ys => lft (match toInts ds, ys with
    | some is, [.int k] => some (.int (is.count k : Nat))
    | _, _ => none)
  | _ => lft none
theorem xe_countL {to : TE} {tt : TA} {a : ME Dt} {t : ME (List Dt)} (ha : XE K mg E to a) (ht : XA K mg E tt t) : XE K mg E (tBM K "list" (rCntI K) to tt) (fCountL a t) := fun Lo H0 σ G H s ρ A r ρ' Q hg e q => by
  show to σ H _
  refine xj_at ha hg e q fun v x G1 H1 ρ1 s1 dv hg e q => ?_
  cases x with
  | list ds =>
    cases dv with
    | lst h1 h2 =>
      refine ⟨.inl ⟨rfl, _, SqL.of (e.gr _ _ h1)⟩, ?_⟩
      refine xj_at ht hg e q fun us ys G2 H2 ρ2 s2 du hg e q => ?_
      obtain ⟨d, hd, rfl, rfl⟩ := lft_some hg
      split at hd
      · rename_i is k hi
        cases hd
        have ee := toInts_eq hi
        subst ee
        have ev := ints_of h2.p
        subst ev
        cases du with
        | cons x1 x2 =>
          cases x2
          cases x1
          exact ⟨_, is, k, rfl, rfl, SqL.of (e.gr _ _ (s2.g _ _ h1)), q.ok e (.refl e.gr) (.int _)⟩
      · cases hd
  | none => cases hg
  | bool _ => cases hg
  | int _ => cases hg
  | str _ => cases hg
  | tuple _ => cases hg
  | dict _ => cases hg
/-! slices -/
def fNo : ME (Option Int) := ret none
def fSo (a : ME Dt) : ME (Option Int) := bnd a fun x => lft (match x with
  | .int i => some (some i)
  | _ => none)
def cutD (xs : List Dt) (lo hi : Option Int) : List Dt := (xs.drop (HT.sIx xs.length 0 lo)).take (HT.sIx xs.length xs.length hi - HT.sIx xs.length 0 lo)
theorem dqs_cut {G : Hp} {vs : List V} {ds : List Dt} (h : DqAll K G vs ds) (lo hi : Option Int) : DqAll K G (cutV vs lo hi) (cutD ds lo hi) := by
  unfold cutV cutD
  rw [dqs_len h]
  exact dqs_take _ (dqs_drop _ h)
end
end Sb

/-! Seamboard, layer F11: slices, divmod, all, more ranges. -/
namespace Sb
open PySem PySem.Spec PyProof.Rows L2
section
variable {K : PySem.W.Frag} {mg : Str → Option Value} {E : XK} {Lo : Option Addr} {H0 G H G1 H1 G2 H2 : Hp} {σ : L2.St} {s : Ss} {ρ ρ' : Ro} {A : Nat → List Addr} {D : Ends} {o : Ot}
def fNever : MS := fun _ _ => none
theorem xs_never : XS K mg E tNever fNever := fun Lo H0 D σ G H s ρ A o h e q => by cases h
/-! slices -/
abbrev XO (K : PySem.W.Frag) (mg : Str → Option Value) (E : XK) (t : TO) (g : ME (Option Int)) : Prop := XJ K mg E (fun _ b c => b = c) t g
theorem xo_no : XO K mg E tNoPart fNo := fun Lo H0 σ G H s ρ A r ρ' Q hg e q => by
  obtain ⟨rfl, rfl⟩ := ret_some (s := s) hg
  exact q.ok e (.refl e.gr) rfl
theorem xo_so {ta : TE} {a : ME Dt} (ha : XE K mg E ta a) : XO K mg E (tPart ta) (fSo a) := fun Lo H0 σ G H s ρ A r ρ' Q hg e q => by
  show ta σ H _
  refine xj_at ha hg e q fun v x G1 H1 ρ1 s1 dv hg e q => ?_
  obtain ⟨z, hz, rfl, rfl⟩ := lft_some hg
  cases x <;> cases hz
  cases dv
  exact ⟨_, rfl, q.ok e (.refl e.gr) rfl⟩
def fSlT (a : ME Dt) (l h : ME (Option Int)) : ME Dt := bnd a fun x => bnd l fun lo => bnd h fun hi => lft (match x with
  | .tuple ds => some (.tuple (cutD ds lo hi))
  | _ => none)
theorem cut_whole {α : Type} (xs : List α) {lo hi : Option Int} (h : HT.sIx xs.length 0 lo = 0 ∧ HT.sIx xs.length xs.length hi = xs.length) : (xs.drop (HT.sIx xs.length 0 lo)).take (HT.sIx xs.length xs.length hi - HT.sIx xs.length 0 lo) = xs := by
  rw [h.1, h.2, List.drop_zero, Nat.sub_zero, List.take_length]
theorem xe_slT {ta : TE} {tl th : TO} {a : ME Dt} {l h : ME (Option Int)} (ha : XE K mg E ta a) (hl : XO K mg E tl l) (hh : XO K mg E th h) : XE K mg E (tSl (rSlA K) ta tl th) (fSlT a l h) := fun Lo H0 σ G H s ρ A r ρ' Q hg e q => by
  show ta σ H _
  refine xj_at ha hg e q fun v x G1 H1 ρ1 s1 dv hg e q => ?_
  show tl σ H1 _
  refine xj_at hl hg e q fun lo' lo G2 H2 ρ2 s2 e1 hg e q => ?_
  subst e1
  show th σ H2 _
  refine xj_at hh hg e q fun hi' hi G3 H3 ρ3 s3 e2 hg e q => ?_
  subst e2
  obtain ⟨z, hz, rfl, rfl⟩ := lft_some hg
  cases x <;> cases hz
  cases dv with
  | tup h1 h2 =>
    have h1' := gr_t (s2.g.trans s3.g) h1
    have h2' := Dqsu h2 (s2.g.trans s3.g)
    refine ⟨_, _, rfl, gr_t e.gr h1', fun hw => ?_, fun hw p hp => ?_⟩
    · have hc := cut_whole _ hw
      rw [dqs_len h2'] at hw
      have hd : cutD _ lo' hi' = _ := cut_whole _ hw
      rw [hd] at q
      exact q.ok e (.refl e.gr) (.tup h1' h2')
    · have n := newq_t e.gr hp (dqs_cut h2' lo' hi')
      exact q.ok e n.1 n.2
def fSlL (a : ME Dt) (l h : ME (Option Int)) : ME (List Dt) := bnd a fun x => bnd l fun lo => bnd h fun hi => lft (match x with
  | .list ds => some (cutD ds lo hi)
  | _ => none)
theorem xn_slL {ta : TE} {tl th : TO} {a : ME Dt} {l h : ME (Option Int)} (ha : XE K mg E ta a) (hl : XO K mg E tl l) (hh : XO K mg E th h) : XN K mg E (tSl (rSlL K) ta tl th) (fSlL a l h) := fun Lo H0 σ G H s ρ A r ρ' Q hg e q => by
  show ta σ H _
  refine xjn_at ha hg e q fun v x G1 H1 ρ1 s1 dv hg e q => ?_
  show tl σ H1 _
  refine xjn_at hl hg e q fun lo' lo G2 H2 ρ2 s2 e1 hg e q => ?_
  subst e1
  show th σ H2 _
  refine xjn_at hh hg e q fun hi' hi G3 H3 ρ3 s3 e2 hg e q => ?_
  subst e2
  obtain ⟨z, hz, rfl, rfl⟩ := lft_some hg
  cases x <;> cases hz
  cases dv with
  | lst h1 h2 => exact ⟨_, _, rfl, SqL.of (e.gr _ _ (s3.g _ _ (s2.g _ _ h1))), fun p hp => q.new e hp (dqs_cut (Dqsu h2 (s2.g.trans s3.g)) lo' hi')⟩
def fSlS (a : ME Dt) (l h : ME (Option Int)) : ME Dt := bnd a fun x => bnd l fun lo => bnd h fun hi => lft (match x with
  | .str z => if z.length ≤ 100000 then some (.str (cutS z lo hi)) else none
  | _ => none)
theorem xe_slS {ta : TE} {tl th : TO} {a : ME Dt} {l h : ME (Option Int)} (ha : XE K mg E ta a) (hl : XO K mg E tl l) (hh : XO K mg E th h) : XE K mg E (tSl rSlS ta tl th) (fSlS a l h) := fun Lo H0 σ G H s ρ A r ρ' Q hg e q => by
  show ta σ H _
  refine xj_at ha hg e q fun v x G1 H1 ρ1 s1 dv hg e q => ?_
  show tl σ H1 _
  refine xj_at hl hg e q fun lo' lo G2 H2 ρ2 s2 e1 hg e q => ?_
  subst e1
  show th σ H2 _
  refine xj_at hh hg e q fun hi' hi G3 H3 ρ3 s3 e2 hg e q => ?_
  subst e2
  obtain ⟨z, hz, rfl, rfl⟩ := lft_some hg
  obtain ⟨t, rfl⟩ : ∃ t, x = .str t := by cases x <;> first | exact ⟨_, rfl⟩ | cases hz
  simp only [] at hz
  split at hz
  · rename_i hl
    cases hz
    cases dv
    exact ⟨t, rfl, Evl.sz_of hl, q.ok e (.refl e.gr) (.str _)⟩
  · cases hz
/-! divmod, all -/
def oDivmod : List Dt → Option Dt
  | [.int i, .int j] => if 0 < j ∧ j < 1073741824 then some (.tuple [.int (i / j), .int (i % j)]) else none
  | _ => none
theorem rco_divmod : RCo K (fun xs H Q => ∃ i j, xs = [.int i, .int j] ∧ CDiv i j ∧ ∀ p, H p = none → Q (.ref p) (upd H p (.tup [.int (i / j), .int (i % j)]))) oDivmod := fun xs z h G H vs Q s a q => by
  unfold oDivmod at h
  split at h
  · split at h
    · rename_i i j hj
      cases h
      match vs, a with
      | _, .cons x (.cons y .nil) =>
        cases x; cases y
        refine ⟨i, j, rfl, hj, fun p hp => ?_⟩
        have n := newq_t (K := K) (ds := [.int (i / j), .int (i % j)]) s hp (.cons (.int _) (.cons (.int _) .nil))
        exact q _ _ _ n.1 n.2
    · cases h
  · cases h
def toBools : List Dt → Option (List Bool)
  | [] => some []
  | .bool i :: ds => match toBools ds with
    | some is => some (i :: is)
    | none => none
  | _ :: _ => none
theorem toBools_eq : ∀ {ds : List Dt} {is : List Bool}, toBools ds = some is → ds = is.map .bool
  | [], _, h => by cases h; rfl
  | .bool i :: ds, _, h => by
    unfold toBools at h
    split at h
    · rename_i e
      cases h
      rw [toBools_eq e]; rfl
    · cases h
  | .none :: _, _, h => by cases h
  | .int _ :: _, _, h => by cases h
  | .str _ :: _, _, h => by cases h
  | .list _ :: _, _, h => by cases h
  | .tuple _ :: _, _, h => by cases h
  | .dict _ :: _, _, h => by cases h
theorem toBools_map : ∀ is : List Bool, toBools (is.map PyData.bool) = some is
  | [] => rfl
  | i :: is => by rw [List.map_cons]; unfold toBools; rw [toBools_map is]
def oAll : List Dt → Option Dt
  | [.list ds] => match toBools ds with
    | some bs => some (.bool (bs.all id))
    | none => none
  | _ => none
theorem bools_of : ∀ {bs : List Bool} {vs : List V} {G : Hp}, DqAll K G vs (bs.map PyData.bool) → vs = bs.map V.bl
  | [], _, _, h => by cases h; rfl
  | b :: bs, _, _, h => by
    rw [List.map_cons] at h
    cases h with
    | cons a t => cases a; rw [bools_of t, List.map_cons]
theorem rco_all : RCo K (rAll K) oAll := fun xs z h G H vs Q s a q => by
  unfold oAll at h
  split at h
  · split at h
    · rename_i bs e
      cases h
      have e' := toBools_eq e
      subst e'
      cases a with
      | cons a t =>
        cases t
        cases a with
        | lst h1 h2 =>
          have ev := bools_of h2
          subst ev
          exact ⟨_, bs, rfl, SqL.of (s _ _ h1), q _ G H (.refl s) (.bl _)⟩
    · cases h
  · cases h
/-! list(range(..)), a step -/
def rgD (a b : Int) : List Dt := upto a (b - a).toNat
theorem rgV_eq (a b : Int) : ∃ is : List Int, rgV a b = is.map V.int ∧ rgD a b = is.map PyData.int := by
  refine ⟨(List.range (b - a).toNat).map fun (i : Nat) => a + (i : Int), ?_, ?_⟩
  · unfold rgV; rw [List.map_map]; rfl
  · unfold rgD upto; rw [List.map_map]; rfl
def fListRg1 (a : ME Dt) : ME (List Dt) := bnd a fun x => lft (match x with
  | .int n => if 0 ≤ n ∧ n ≤ 100000 then some (rgD 0 n) else none
  | _ => none)
theorem rgOk_of {a b : Int} (h1 : 0 ≤ a ∧ a ≤ 100000) (h2 : 0 ≤ b ∧ b ≤ 100000) : RgOk a b := .of_le (by omega) (by omega) (by omega) (by omega)
theorem xn_listRg1 {ta : TE} {a : ME Dt} (ha : XE K mg E ta a) : XN K mg E (tLstRg (tRg1 ta)) (fListRg1 a) := fun Lo H0 σ G H s ρ A r ρ' Q hg e q => by
  show ta σ H _
  refine xjn_at ha hg e q fun v x G1 H1 ρ1 s1 dv hg e q => ?_
  obtain ⟨z, hz, rfl, rfl⟩ := lft_some hg
  cases x <;> try cases hz
  rename_i n
  simp only [] at hz
  split at hz
  · rename_i hn
    cases hz
    cases dv
    obtain ⟨is, e1, e2⟩ := rgV_eq 0 n
    refine ⟨n, rfl, rgOk_of (by omega) hn, fun p hp => ?_⟩
    rw [e1]
    rw [e2] at q
    exact q.new e hp (dqs_ints _)
  · cases hz
def fListRg2 (a b : ME Dt) : ME (List Dt) := bnd a fun x => bnd b fun y => lft (match x, y with
  | .int m, .int n => if (0 ≤ m ∧ m ≤ 100000) ∧ 0 ≤ n ∧ n ≤ 100000 then some (rgD m n) else none
  | _, _ => none)
theorem xn_listRg2 {ta tb : TE} {a b : ME Dt} (ha : XE K mg E ta a) (hb : XE K mg E tb b) : XN K mg E (tLstRg (tRg2 ta tb)) (fListRg2 a b) := fun Lo H0 σ G H s ρ A r ρ' Q hg e q => by
  show ta σ H _
  refine xjn_at ha hg e q fun v x G1 H1 ρ1 s1 dv hg e q => ?_
  show tb σ H1 _
  refine xjn_at hb hg e q fun u y G2 H2 ρ2 s2 du hg e q => ?_
  obtain ⟨z, hz, rfl, rfl⟩ := lft_some hg
  obtain ⟨m, rfl⟩ : ∃ m, x = .int m := by cases x <;> first | exact ⟨_, rfl⟩ | cases hz
  obtain ⟨n, rfl⟩ : ∃ n, y = .int n := by cases y <;> first | exact ⟨_, rfl⟩ | cases hz
  · simp only [] at hz
    split at hz
    · rename_i hn
      cases hz
      cases dv
      cases du
      obtain ⟨is, e1, e2⟩ := rgV_eq m n
      refine ⟨m, n, rfl, rfl, rgOk_of hn.1 hn.2, fun p hp => ?_⟩
      rw [e1]
      rw [e2] at q
      exact q.new e hp (dqs_ints _)
    · cases hz
/-- lo, lo + c, .. -/
def uptoC (lo c : Int) (n : Nat) : List Dt := (List.range n).map fun (i : Nat) => PyData.int (lo + (i : Int) * c)
theorem walkQ_rangeC {lo c : Int} {n : Nat} : WalkQ K (Itc lo c n) G (uptoC lo c n) where
  go := fun i G1 H1 a b hi => by unfold uptoC at hi; rw [List.length_map, List.length_range] at hi; exact hi
  stop := fun G1 H1 a b => by unfold uptoC; rw [List.length_map, List.length_range]; exact Nat.le_refl _
  yld := fun i G1 H1 x H2 a b hi y => by
    obtain ⟨e, y⟩ := y
    subst e y
    unfold uptoC at hi
    rw [List.length_map, List.length_range] at hi
    exact ⟨G1, _, .refl b, by unfold uptoC; rw [List.getElem?_map, List.getElem?_range hi]; rfl, .int _⟩
def oRng3 : List Dt → Option (List Dt)
  | [.int i, .int j, .int c] => if c ≠ 0 ∧ c.natAbs < 1073741824 ∧ Builtin.Range.small i j c = true then some (uptoC i c (Builtin.Range.rangeSize i j c).toNat) else none
  | _ => none
def fRng3 (t : ME (List Dt)) : ME (List Dt) := bnd t fun ds => lft (oRng3 ds)
theorem xi_rng3 {tt : TA} {t : ME (List Dt)} (h : XA K mg E tt t) : XI K mg E (iRng3 tt) (fRng3 t) := fun Lo H0 σ G H s ρ A r ρ' Q hg e q => by
  show tt σ H _
  refine xj_at h hg e q fun v x G1 H1 ρ1 s1 dv hg e q => ?_
  obtain ⟨z, hz, rfl, rfl⟩ := lft_some hg
  unfold oRng3 at hz
  split at hz
  · split at hz
    · rename_i i j c hj
      cases hz
      match v, dv with
      | _, .cons x (.cons y (.cons z .nil)) =>
        cases x; cases y; cases z
        exact ⟨i, j, c, _, rfl, ⟨hj.1, hj.2.1, hj.2.2, rangeSize_toNat i j c⟩, q.ok e (.refl e.gr) walkQ_rangeC⟩
    · cases hz
  · cases hz
/-! zip -/
def zipD : List Dt → List Dt → List Dt
  | x :: xs, y :: ys => .tuple [x, y] :: zipD xs ys
  | _, _ => []
theorem zipD_len : ∀ xs ys : List Dt, (zipD xs ys).length = min xs.length ys.length
  | [], _ => by simp [zipD]
  | _ :: _, [] => by simp [zipD]
  | x :: xs, y :: ys => by simp [zipD, zipD_len xs ys]
theorem zipD_get : ∀ {xs ys : List Dt} {i : Nat} {x y : Dt}, xs[i]? = some x → ys[i]? = some y → (zipD xs ys)[i]? = some (.tuple [x, y])
  | [], _, _, _, _, h, _ => by simp at h
  | _ :: _, [], _, _, _, _, h => by simp at h
  | a :: xs, b :: ys, 0, _, _, h, h2 => by simp at h h2; subst h h2; rfl
  | a :: xs, b :: ys, i + 1, x, y, h, h2 => by
    show (zipD xs ys)[i]? = _
    exact zipD_get (by simpa using h) (by simpa using h2)
theorem walkQ_zipL {a b : Addr} {vs us : List V} {xs ys : List Dt} (h : SqL K G a vs) (h' : SqL K G b us) (hx : DqAll K G vs xs) (hy : DqAll K G us ys) : WalkQ K (Itz K a b) G (zipD xs ys) where
  go := fun i G1 H1 g1 g2 hi => by
    rw [zipD_len] at hi
    exact ⟨vs, us, vs[i]'(by rw [dqs_len hx]; omega), us[i]'(by rw [dqs_len hy]; omega), gr_l g2 (gr_l g1 h), gr_l g2 (gr_l g1 h'), by simp, by simp⟩
  stop := fun G1 H1 g1 g2 => ⟨vs, us, gr_l g2 (gr_l g1 h), gr_l g2 (gr_l g1 h'), by rw [zipD_len, dqs_len hx, dqs_len hy]; omega⟩
  yld := fun i G1 H1 x H2 g1 g2 hi y => by
    obtain ⟨T, u, w, e, hT, eH, y1, y2⟩ := y
    subst e eH
    obtain ⟨d, e1, e2⟩ := dqs_get' hx (y1 vs (gr_l g2 (gr_l g1 h)))
    obtain ⟨d', e3, e4⟩ := dqs_get' hy (y2 us (gr_l g2 (gr_l g1 h')))
    have n := newq_t (ds := [d, d']) g2 hT (.cons (Dqu e2 g1) (.cons (Dqu e4 g1) .nil))
    exact ⟨_, _, n.1, zipD_get e1 e3, n.2⟩

/-- x, ys = e, a new list that will change -/
def fParDN (i j : Nat) (a : ME Dt) (g : ME (List Dt)) : MS := fOut a fun d => fOut g fun ds s ρ => some (.nx ((s.set i (some (.d d))).set j (some (.o (.l ds)))) ρ)
theorem xs_parDN {i j : Nat} {ta tb : TE} {a : ME Dt} {g : ME (List Dt)} (ha : XE K mg E ta a) (hb : XN K mg E tb g) : XS K mg E (tPar i j (tCons ta (tCons tb tNil))) (fParDN i j a g) := fun Lo H0 D σ G H s ρ A o hr e q => by
  show ta σ H _
  refine xs_at ha hr e q fun v d G1 H1 ρ1 s1 dv hr e q => ?_
  show tb σ H1 _
  refine xs_atN hb hr e q fun p vs ds G2 H2 ρ2 s2 hp np nl h1 dvs hr e1 q => ?_
  cases hr
  have h0 : H0 p = none := by
    cases z : H0 p with
    | none => rfl
    | some u => exact absurd hp (e.low p (by rw [z]; simp))
  exact ⟨_, _, rfl, q _ _ G2 H2 (.refl e1.gr) ((e1.setD i (Dqu dv s2.g)).own np h0 h1 nl (fun j hj => (e.fp j p hj).2.2.1 hp) ⟨p, vs, rfl, rfl, h1, dvs⟩)⟩
/-- ys, x = a new list that will change, e -/
def fParND (i j : Nat) (g : ME (List Dt)) (a : ME Dt) : MS := fOut g fun ds => fOut a fun d s ρ => some (.nx ((s.set i (some (.o (.l ds)))).set j (some (.d d))) ρ)
theorem xs_parND {i j : Nat} {ta tb : TE} {g : ME (List Dt)} {a : ME Dt} (ha : XN K mg E ta g) (hb : XE K mg E tb a) : XS K mg E (tPar i j (tCons ta (tCons tb tNil))) (fParND i j g a) := fun Lo H0 D σ G H s ρ A o hr e q => by
  show ta σ H _
  refine xs_atN ha hr e q fun p vs ds G1 H1 ρ1 s1 hp np nl h1 dvs hr e1 q => ?_
  show tb σ H1 _
  refine xs_at hb hr e1 q fun v d G2 H2 ρ2 s2 dv hr e2 q => ?_
  cases hr
  have h0 : H0 p = none := by
    cases z : H0 p with
    | none => rfl
    | some u => exact absurd hp (e.low p (by rw [z]; simp))
  have h2 : H2 p = some (.lst vs) := s2.h p _ nl h1
  have n2 : G2 p = none := s2.f p (by rw [h1]; simp) np
  exact ⟨_, _, rfl, q _ _ G2 H2 (.refl e2.gr) ((e2.own (i := i) (c := .l ds) n2 h0 h2 nl (fun j hj => (e.fp j p hj).2.2.1 hp) ⟨p, vs, rfl, rfl, h2, Dqsu dvs s2.g⟩).setD j dv)⟩
def oNeg : Dt → Option Dt
  | .int i => some (.int (-i))
  | _ => none
theorem ruo_neg : RUo K (rU fun i => .int (-i)) oNeg := fun x z h G H v Q s a q => by
  unfold oNeg at h
  split at h
  · cases h; cases a; exact ⟨_, rfl, q _ G H (.refl s) (.int _)⟩
  · cases h
end
section
variable {X : Cx} {K : PySem.W.Frag}
theorem sl_tupAK (q : X.K = K) : SlR X (rSlA K) := q ▸ sl_tupA
theorem sl_listK (q : X.K = K) : SlR X (rSlL K) := q ▸ sl_list
theorem kc_all (q : X.K = K) (hc : X.calm = true) : CallR X (.builtin "all") (rAll K) := q ▸ cr_all hc
end
end Sb

/-! Seamboard, layer F12: slices of texts with a step; zip of a tuple and a list. -/
namespace Sb
open PySem PySem.Spec PyProof.Rows L2
/-- z[lo:hi:k], k > 1 -/
def stepS (z : Str) (lo hi : Option Int) (k : Int) : Str := ⟨((Builtin.Str.strSliceIndices lo hi k z.length).filterMap (z.cps[·]?)).toArray⟩
def tSlS3 (te : TE) (tl th ts : TO) : TE := fun σ H Q => te σ H fun x H1 => tl σ H1 fun l H2 => th σ H2 fun u H3 => ts σ H3 fun o H4 => ∃ z k, x = .str z ∧ o = some k ∧ 1 < k ∧ (stepS z l u k).length ≤ sizeLine ∧ Q (.str (stepS z l u k)) H4
theorem pe_slS3 {X : Cx} {e st : Expr} {lo hi : Option Expr} {te : TE} {tl th ts : TO} {p2 pos : Pos} (he : PE X e te) (hl : PO X lo tl) (hu : PO X hi th) (hst : PO X (some st) ts) :
    PE X (.Subscript e (.Slice lo hi (some st) p2) pos) (tSlS3 te tl th ts) := by
  refine ⟨fun pins s0 σ H Q I hh => ?_⟩
  refine Subscript_ (thn (he.run pins s0 σ H _ I hh) fun v s1 ⟨x, H1, I1, r1, q1⟩ => ?_)
  refine wpAny_Slice (thn (hl.run pins s1 σ H1 _ I1 q1) fun vl s2 ⟨l, H2, I2, pl, q2⟩ => thn (hu.run pins s2 σ H2 _ I2 q2) fun vu s3 ⟨u, H3, I3, pu, q3⟩ => thn (hst.run pins s3 σ H3 _ I3 q3) fun vk s4 ⟨o, H4, I4, pk, q4⟩ => ?_)
  obtain ⟨z, k, rfl, rfl, hk, hz, q⟩ := q4
  obtain ⟨t, rfl⟩ := r1
  obtain ⟨la, rfl, rfl⟩ := IsPart.raw pl
  obtain ⟨ua, rfl, rfl⟩ := IsPart.raw pu
  obtain ⟨ka, rfl, hka⟩ := IsPart.raw pk
  have I5 : Inv X pins σ H4 { s4 with heap := s4.heap.push { cls := .type "slice", data := .fields #[partValue la, partValue ua, partValue ka] } } := I4.kept (t' := s4.toks) fun b ob hq => Heap.get?_push_of_some _ hq
  refine tail_any (ops := [.ref s4.heap.objs.size, .str z t]) (typeIs_str _ _ _) F.slot_str_getitem.lookup ?_ (by with_unfolding_all rfl)
  refine wpAny_getItem_str_slice (l := la) (u := ua) (st := ka) (Heap.IsSliceOf.new _ (partValue la) (partValue ua) (partValue ka)) ?_ ?_
  · rw [hka]
    show (k == 0) = false
    exact beq_eq_false_iff_ne.mpr (by omega)
  · unfold sliceMade slicePicked
    rw [hka]
    have hc : ¬ (((some k).getD 1 == 1 && (Builtin.Str.strSliceIndices (la.map (·.1)) (ua.map (·.1)) ((some k).getD 1) z.length).length == z.length) = true) := by
      have : (k == (1 : Int)) = false := beq_eq_false_iff_ne.mpr (by omega)
      show ¬ ((k == 1 && _) = true)
      rw [this]; simp
    rw [if_neg hc]
    exact ⟨hz, .str _, H4, I5.tok _, ⟨_, rfl⟩, q⟩
section
variable {K : PySem.W.Frag} {mg : Str → Option Value} {E : XK} {Lo : Option Addr} {H0 G H G1 H1 G2 H2 : Hp} {σ : L2.St} {s : Ss} {ρ ρ' : Ro} {A : Nat → List Addr} {D : Ends} {o : Ot}
def fSlS3 (a : ME Dt) (l h k : ME (Option Int)) : ME Dt := bnd a fun x => bnd l fun lo => bnd h fun hi => bnd k fun st => lft (match x, st with
  | .str z, some k => if 1 < k ∧ (stepS z lo hi k).length ≤ 100000 then some (.str (stepS z lo hi k)) else none
  | _, _ => none)
theorem xe_slS3 {ta : TE} {tl th tk : TO} {a : ME Dt} {l h k : ME (Option Int)} (ha : XE K mg E ta a) (hl : XO K mg E tl l) (hh : XO K mg E th h) (hk : XO K mg E tk k) : XE K mg E (tSlS3 ta tl th tk) (fSlS3 a l h k) := fun Lo H0 σ G H s ρ A r ρ' Q hg e q => by
  show ta σ H _
  refine xj_at ha hg e q fun v x G1 H1 ρ1 s1 dv hg e q => ?_
  show tl σ H1 _
  refine xj_at hl hg e q fun lo' lo G2 H2 ρ2 s2 e1 hg e q => ?_
  subst e1
  show th σ H2 _
  refine xj_at hh hg e q fun hi' hi G3 H3 ρ3 s3 e2 hg e q => ?_
  subst e2
  show tk σ H3 _
  refine xj_at hk hg e q fun k' st G4 H4 ρ4 s4 e3 hg e q => ?_
  subst e3
  obtain ⟨z, hz, rfl, rfl⟩ := lft_some hg
  split at hz
  · split at hz
    · rename_i hl
      cases hz
      cases dv
      exact ⟨_, _, rfl, rfl, hl.1, Evl.sz_of hl.2, q.ok e (.refl e.gr) (.str _)⟩
    · cases hz
  · cases hz
end
end Sb

/-! Seamboard, layer F13: a new list and a thing, unpacked out of a tuple; zips. -/
namespace Sb
open PySem PySem.Spec PyProof.Rows L2
section
variable {K : PySem.W.Frag} {mg : Str → Option Value} {E : XK} {Lo : Option Addr} {H0 G H G1 H1 G2 H2 : Hp} {σ : L2.St} {s : Ss} {ρ ρ' : Ro} {A : Nat → List Addr} {D : Ends} {o : Ot}
/-- (ys, x) = (a new list that will change, e), by way of a tuple -/
theorem xs_tupND {i j : Nat} {ta tb : TE} {g : ME (List Dt)} {a : ME Dt} (ha : XN K mg E ta g) (hb : XE K mg E tb a) : XS K mg E (tAsg (tTup (tCons ta (tCons tb tNil))) (gTup K 2 (gCons (gName i) (gCons (gName j) gNil)))) (fParND i j g a) := fun Lo H0 D σ G H s ρ A o hr e q => by
  show ta σ H _
  refine xs_atN ha hr e q fun p vs ds G1 H1 ρ1 s1 hp np nl h1 dvs hr e1 q => ?_
  show tb σ H1 _
  refine xs_at hb hr e1 q fun v d G2 H2 ρ2 s2 dv hr e2 q => ?_
  cases hr
  have h0 : H0 p = none := by
    cases z : H0 p with
    | none => rfl
    | some u => exact absurd hp (e.low p (by rw [z]; simp))
  have h2 : H2 p = some (.lst vs) := s2.h p _ nl h1
  have n2 : G2 p = none := s2.f p (by rw [h1]; simp) np
  refine ⟨by show 2 ≤ sizeLine; decide, fun t ht => ⟨t, _, rfl, .inl (.inl upd_same), rfl, _, _, rfl, _, _, rfl, rfl, ?_⟩⟩
  have sh : Stp G2 H2 G2 (upd H2 t (.tup [.ref p, v])) := .hid e2.gr ht
  have e3 := e2.step sh.sq (e2.row.step sh)
  have hpt : p ≠ t := fun z => by rw [z, ht] at h2; cases h2
  have h3 : upd H2 t (.tup [.ref p, v]) p = some (.lst vs) := by rw [upd_ne hpt]; exact h2
  exact q _ _ G2 _ (sh.sq.sr e2.low) ((e3.own (i := i) (c := .l ds) n2 h0 h3 nl (fun j hj => (e.fp j p hj).2.2.1 hp) ⟨p, vs, rfl, rfl, h3, Dqsu dvs s2.g⟩).setD j dv)
end
end Sb

/-! Seamboard, layer F14: zip of a tuple and a list. -/
namespace Sb
open PySem PySem.Spec PyProof.Rows L2
/-- a tuple and a list, side by side -/
def ItzM (K : PySem.W.Frag) (a b : Addr) : It where
  go n H := ∃ (us vs : List V) (u v : V), (SqT K H a us ∧ us[n]? = some u) ∧ SqL K H b vs ∧ vs[n]? = some v
  yld n H r H2 := ∃ (q : Addr) (u v : V), r = .ref q ∧ H q = none ∧ H2 = upd H q (.tup [u, v]) ∧ (∀ us, SqT K H a us → us[n]? = some u) ∧ ∀ vs, SqL K H b vs → vs[n]? = some v
  stop n H := ∃ us vs : List V, SqT K H a us ∧ SqL K H b vs ∧ n = min us.length vs.length
section
variable {P : Program} {w : World} {K : PySem.W.Frag} {a b z T O i j : Addr}
theorem sep_mix (D : ZipApart z T O i j a b) : ZipSep2 z T O i j [i, a] [j, b] where
  TIz := D.TIz
  TOz := D.TOz
  TITO := D.TITO
  TIi1 := D.TIi1
  TIi2 := D.TIi2
  mem1 := List.mem_cons_self
  mem2 := List.mem_cons_self
  zf1 := by simpa using ⟨D.i1z.symm, D.l1z.symm⟩
  zf2 := by simpa using ⟨D.i2z.symm, D.l2z.symm⟩
  Tf1 := by simpa using ⟨D.TOi1, D.l1TO.symm⟩
  Tf2 := by simpa using ⟨D.TOi2, D.l2TO.symm⟩
  sep1_2 := by simpa using ⟨D.i12, D.l2i1.symm⟩
  sep2_1 := by simpa using ⟨D.i12.symm, D.l1i2.symm⟩
/-- how it stands ahead of a turn -/
def mixAt (z T O i j a b : Addr) (n : Nat) (h : Heap) : Prop := IsZip h z T O .none ∧ IsPair h T (.ref i) (.ref j) ∧ (∃ x y, IsPair h O x y) ∧ h.IsTupleIter i a n ∧ h.IsListIter j b n
theorem five_of {z T O i j c : Addr} (h : c ∈ [z, T, O, i, j]) : c = z ∨ c = T ∨ c = O ∨ c = i ∨ c = j := by simpa using h
theorem turn_mix {elts : List Expr} {kk : Nat} {tpos : Pos} (D : ZipApart z T O i j a b) : Turn P w K (.Tuple elts kk tpos) (ItzM K a b) [z, T, O, i, j] z (mixAt z T O i j a b) where
  mem := List.mem_cons_self
  obj n h st c hc := by
    obtain ⟨e1, e2, ⟨x, y, e3⟩, ⟨o4, e4, -, d4⟩, o5, e5, -, d5⟩ := st
    rcases five_of hc with rfl | rfl | rfl | rfl | rfl
    · exact ⟨_, e1, nofun⟩
    · exact ⟨_, e2, nofun⟩
    · exact ⟨_, e3, nofun⟩
    · exact ⟨o4, e4, by rw [d4]; nofun⟩
    · exact ⟨o5, e5, by rw [d5]; nofun⟩
  keep n h g st k := by
    obtain ⟨e1, e2, ⟨x, y, e3⟩, e4, e5⟩ := st
    refine ⟨k _ (by simp) _ e1, k _ (by simp) _ e2, ⟨x, y, k _ (by simp) _ e3⟩, e4.at fun o => k _ (by simp) o, e5.at fun o => k _ (by simp) o⟩
  item X hP hw hK hc n pins s σ H E I hf st hg := by
    subst hP hw hK
    obtain ⟨e1, e2, ⟨x0, y0, e3⟩, e4, e5⟩ := st
    obtain ⟨us, vs, u, v, ⟨ha, hu⟩, hb, hv⟩ := hg
    obtain ⟨as, ra, pa, -⟩ := I.tuple ha
    obtain ⟨bs, rb, pb, -⟩ := I.list hb
    obtain ⟨u', gu, ru⟩ := ra.get hu
    obtain ⟨v', gv, rv⟩ := rb.get hv
    have ga : as.toArray[n]? = some u' := by simpa using gu
    have gb : bs.toArray[n]? = some v' := by simpa using gv
    have la := (Array.getElem?_eq_some_iff.mp ga).1
    have lb := (Array.getElem?_eq_some_iff.mp gb).1
    have calm : X.A.in1.handled = none := I.ok.hd hc
    have hzl := Heap.lt_size e1
    refine wpAny_pyNext_zipD2_item (sep_mix D) (Draws.tuple calm i a D.l1i1 as.toArray) (Draws.list calm j b D.l2i2 bs.toArray) e1 e2 e3 ⟨e4, pa⟩ ⟨e5, pb.isList⟩ la lb fun x1 x2 h1 tk y1 y2 z1 z2 d1 d2 hT hsz hk => ?_
    rw [ga] at y1
    rw [gb] at y2
    cases y1
    cases y2
    refine ⟨_, rfl, wpAny_letOwnedTupleGo_zip (s := { s with heap := h1, toks := tk }) z1 fun h2 z3 sb => ?_⟩
    have hT2 := (sb.2 _ (Nat.ne_of_gt hzl)).trans hT
    have made : ObjOk X.prog X.w (upd H s.heap.objs.size (.tup [u, v])) h2 s.heap.objs.size (.tup [u, v]) := ⟨by show 2 ≤ sizeLine; decide, [u', v'], .cons ru (.cons rv .nil), ⟨_, hT2, rfl, _, rfl⟩⟩
    have hn : ∀ c, c ∈ [z, T, O, i, j] → c < s.heap.objs.size := fun c hm => by
      obtain ⟨_, q4, _⟩ := e4
      obtain ⟨_, q5, _⟩ := e5
      rcases five_of hm with rfl | rfl | rfl | rfl | rfl
      · exact hzl
      · exact Heap.lt_size e2
      · exact Heap.lt_size e3
      · exact Heap.lt_size q4
      · exact Heap.lt_size q5
    have I1 := I.turnedNew (t' := tk) (ch := [z, T, O, i, j]) (fun c o hb q => (sb.2 c fun e => hb (by simp [e])).trans (hk c o (fun e => hb (by simp [e])) (fun e => hb (by simp [e])) (fun e => hb (by simp [e])) (fun e => hb (by simp [e])) q)) hf (Nat.le_refl _) made
    refine ⟨.ref s.heap.objs.size, _, I1, rfl, ⟨_, u, v, rfl, I.hok.fresh (Nat.le_refl _), rfl, fun l hl => by rw [I.tuple_inj hl ha]; exact hu, fun l hl => by rw [I.list_inj hl hb]; exact hv⟩, ⟨z3, ?_, ⟨u', v', ?_⟩, ?_, ?_⟩, fun c hm => ?_⟩
    · exact (sb.2 T D.TIz).trans (hk T _ D.TIz D.TITO D.TIi1 D.TIi2 e2)
    · exact (sb.2 O D.TOz).trans z2
    · exact d1.1.at fun o q => (sb.2 i D.i1z).trans q
    · exact d2.1.at fun o q => (sb.2 j D.i2z).trans q
    · rw [upd_ne (Nat.ne_of_lt (hn c hm))]
      exact (hf c hm).1
  done X hP hw hK hc n pins s σ H E I hf st hg := by
    subst hP hw hK
    obtain ⟨e1, e2, ⟨x0, y0, e3⟩, e4, e5⟩ := st
    obtain ⟨us, vs, ha, hb, hn⟩ := hg
    obtain ⟨as, ra, pa, -⟩ := I.tuple ha
    obtain ⟨bs, rb, pb, -⟩ := I.list hb
    have la : as.toArray.size = us.length := by rw [List.size_toArray, ra.length]
    have lb : bs.toArray.size = vs.length := by rw [List.size_toArray, rb.length]
    have calm : X.A.in1.handled = none := I.ok.hd hc
    exact wpAny_pyNext_zipD2_end (sep_mix D) (Draws.tuple calm i a D.l1i1 as.toArray) (Draws.list calm j b D.l2i2 bs.toArray) e1 e2 e3 ⟨e4, pa⟩ ⟨e5, pb.isList⟩ (by omega) (by omega) (by omega) fun h1 tk hk => ⟨rfl, I.turnedL (t' := tk) (ch := [z, T, O, i, j]) (fun c o hb q => hk c o (fun e => hb (by simp [e])) (fun e => hb (by simp [e])) (fun e => hb (by simp [e])) (fun e => hb (by simp [e])) q) hf⟩
  self A n s Q E st h := wpAny_pyIter_zip st.1 h
/-- the heap that zip makes of a tuple and a list -/
def mixH (h : Heap) (a b : Addr) : Heap :=
  ((((h.push { cls := .type "tuple_iterator", data := .fields #[.ref a, .int 0 0] }).push { cls := .type "list_iterator", data := .fields #[.ref b, .int 0 0] }).push { cls := .type "tuple", data := .seq #[.ref h.objs.size, .ref (h.objs.size + 1)] }).push { cls := .type "tuple", data := .seq #[.none, .none] }).push { cls := .type "zip", data := .fields #[.none, .bool false, .bool false, .ref (h.objs.size + 2), .ref (h.objs.size + 3)] }
theorem mix_at (h : Heap) (a b : Addr) : mixAt (h.objs.size + 4) (h.objs.size + 2) (h.objs.size + 3) h.objs.size (h.objs.size + 1) a b 0 (mixH h a b) := by
  unfold mixH
  generalize hn : h.objs.size = n
  generalize e1 : h.push { cls := .type "tuple_iterator", data := .fields #[.ref a, .int 0 0] } = g1
  generalize e2 : g1.push { cls := .type "list_iterator", data := .fields #[.ref b, .int 0 0] } = g2
  generalize e3 : g2.push { cls := .type "tuple", data := .seq #[.ref n, .ref (n + 1)] } = g3
  generalize e4 : g3.push { cls := .type "tuple", data := .seq #[.none, .none] } = g4
  have s1 : g1.objs.size = n + 1 := by rw [← e1, Heap.size_push, hn]
  have s2 : g2.objs.size = n + 2 := by rw [← e2, Heap.size_push, s1]
  have s3 : g3.objs.size = n + 3 := by rw [← e3, Heap.size_push, s2]
  have s4 : g4.objs.size = n + 4 := by rw [← e4, Heap.size_push, s3]
  have q1 : g1.get? n = some { cls := .type "tuple_iterator", data := .fields #[.ref a, .int 0 0] } := by rw [← e1, ← hn]; exact Heap.get?_push_size _ rfl
  have q2 : g2.get? (n + 1) = some { cls := .type "list_iterator", data := .fields #[.ref b, .int 0 0] } := by rw [← e2, ← s1]; exact Heap.get?_push_size _ rfl
  have q3 : g3.get? (n + 2) = some { cls := .type "tuple", data := .seq #[.ref n, .ref (n + 1)] } := by rw [← e3, ← s2]; exact Heap.get?_push_size _ rfl
  have q4 : g4.get? (n + 3) = some { cls := .type "tuple", data := .seq #[.none, .none] } := by rw [← e4, ← s3]; exact Heap.get?_push_size _ rfl
  refine ⟨by rw [← s4]; exact Heap.get?_push_size _ rfl, ?_, ⟨.none, .none, Heap.get?_push_of_some _ q4⟩, ⟨{ cls := .type "tuple_iterator", data := .fields #[.ref a, .int 0 0] }, ?_, rfl, rfl⟩, ⟨{ cls := .type "list_iterator", data := .fields #[.ref b, .int 0 0] }, ?_, rfl, rfl⟩⟩
  · rw [← e4]; exact Heap.get?_push_of_some _ (Heap.get?_push_of_some _ q3)
  · rw [← e4, ← e3, ← e2]
    exact Heap.get?_push_of_some _ (Heap.get?_push_of_some _ (Heap.get?_push_of_some _ (Heap.get?_push_of_some _ q1)))
  · rw [← e4, ← e3]
    exact Heap.get?_push_of_some _ (Heap.get?_push_of_some _ (Heap.get?_push_of_some _ q2))
theorem mix_keep {h : Heap} {a b c : Addr} {o : Obj} (q : h.get? c = some o) : (mixH h a b).get? c = some o :=
  Heap.get?_push_of_some _ (Heap.get?_push_of_some _ (Heap.get?_push_of_some _ (Heap.get?_push_of_some _ (Heap.get?_push_of_some _ q))))
theorem mix_new (a b : Addr) (us vs : Array Value) :
    Meets (Builtin.«zip.__new__» ⟨[.type "zip", .ref a, .ref b], []⟩) (fun _ R s => s.heap.IsTuple a us ∧ s.heap.IsList b vs ∧ R (.ok (.ret (.ref (s.heap.objs.size + 4)))) { s with heap := mixH s.heap a b }) :=
  .of_wp fun prog w A R s ⟨ha, hb, q⟩ => by
    obtain ⟨hp, g, d, tk, os⟩ := s
    have sz := sub_zip
    have ha1 : Heap.IsTuple (Shared.heap ⟨hp, g, d, tk, os⟩) a us := ha
    have hb1 : Heap.IsList (Shared.heap ⟨hp.push { cls := .type "tuple_iterator", data := .fields #[.ref a, .int 0 0] }, g, d, tk, os⟩) b vs := Heap.IsList.push hb _
    wp_walk using wpAny_pyIter_tuple ha1, wpAny_pyIter_list hb1
    refine ⟨_, rfl, ?_⟩
    unfold mixH at q
    simp only [Heap.size_push] at q ⊢
    exact q
def iMix (K : PySem.W.Frag) (ta : TA) : TI := fun σ H R => ta σ H fun vs H1 => ∃ a b us ws, vs = [.ref a, .ref b] ∧ SqT K H1 a us ∧ SqL K H1 b ws ∧ R (ItzM K a b) H1
theorem pi_mix {X : Cx} {e e2 : Expr} {ta : TA} {p pos tpos : Pos} {elts : List Expr} {kk : Nat} (hg : Gl X "zip") (hm : X.mg "zip" = none) (ha : PA X [e, e2] ta)
    (h1 : starEach [e, e2] X.env = (false, eval e X.env) :: starEach [e2] X.env := by rfl) (h2 : (backTo pos (starEach [e2] X.env)).any (·.1) = false := by rfl) :
    PI X (.Tuple elts kk tpos) (.Call (.Name "zip" p) [e, e2] [] pos) (iMix X.K ta) := by
  refine ⟨fun pins s σ H R I h => ?_⟩
  · skip
    refine Call_ (ld_blt I hg hm PyProof.Rows.boot_zip (PyProof.Rows.callWith_type1 (thn (ha.run pos pins s σ H _ I h) fun zs s1 ⟨vs, H1, I1, r1, q1⟩ => ?_) h1 h2))
    obtain ⟨a, b, us, ws, ex, qa, qb, q⟩ := q1
    subst ex
    cases r1 with
    | cons ra r2 =>
      cases r2 with
      | cons rb r3 =>
        cases r3
        cases ra
        cases rb
        obtain ⟨as, va, pa, -⟩ := I1.tuple qa
        obtain ⟨bs, vb, pb, -⟩ := I1.list qb
        have la : a < s1.heap.objs.size := by obtain ⟨_, e, _⟩ := id pa; exact Heap.lt_size e
        have lb := pb.lt
        refine callType_new F.called_zip (by decide) (F.typeCall_zip_2 _ _) (F.newCall_zip_2 _ _) (fun obj => F.args_object_init_3 obj _ _) F.entry_zip_new (mix_new a b as.toArray bs.toArray) ⟨pa, pb.isList, ?_⟩
        have ma := mix_at s1.heap a b
        refine ⟨⟨_, ma.1, rfl⟩, wpAny_pyIter_zip ma.1 ?_⟩
        have I2 : Inv X pins σ H1 { s1 with heap := mixH s1.heap a b } := I1.kept (t' := s1.toks) fun c o => mix_keep
        refine ⟨s1.heap.objs.size + 4, [s1.heap.objs.size + 4, s1.heap.objs.size + 2, s1.heap.objs.size + 3, s1.heap.objs.size, s1.heap.objs.size + 1], _, _, H1, rfl, I2, turn_mix (PySem.W.ktu_apart _ a b la lb), ma, fun c hc => ?_, q⟩
        have hle : s1.heap.objs.size ≤ c := by rcases five_of hc with e | e | e | e | e <;> (rw [e]; first | exact Nat.le_refl _ | exact Nat.le_add_right _ _)
        exact I1.fpOk hle (I1.hok.fresh hle)
end
end Sb

/-! Seamboard, layer F15: walks over zips. -/
namespace Sb
open PySem PySem.Spec PyProof.Rows L2
section
variable {X : Cx} {K : PySem.W.Frag}
theorem pi_mixK {e e2 : Expr} {ta : TA} {p pos tpos : Pos} {elts : List Expr} {kk : Nat} (q : X.K = K) (hg : Gl X "zip") (hm : X.mg "zip" = none) (ha : PA X [e, e2] ta)
    (h1 : starEach [e, e2] X.env = (false, eval e X.env) :: starEach [e2] X.env := by rfl) (h2 : (backTo pos (starEach [e2] X.env)).any (·.1) = false := by rfl) : PI X (.Tuple elts kk tpos) (.Call (.Name "zip" p) [e, e2] [] pos) (iMix K ta) := q ▸ pi_mix hg hm ha h1 h2
theorem pi_zipK {e e2 : Expr} {ta : TA} {p pos tpos : Pos} {elts : List Expr} {kk : Nat} (q : X.K = K) (hg : Gl X "zip") (hm : X.mg "zip" = none) (ha : PA X [e, e2] ta)
    (h1 : starEach [e, e2] X.env = (false, eval e X.env) :: starEach [e2] X.env := by rfl) (h2 : (backTo pos (starEach [e2] X.env)).any (·.1) = false := by rfl) : PI X (.Tuple elts kk tpos) (.Call (.Name "zip" p) [e, e2] [] pos) (iZip K ta) := q ▸ pi_zip hg hm ha h1 h2
end
section
variable {K : PySem.W.Frag} {mg : Str → Option Value} {E : XK} {Lo : Option Addr} {H0 G H G1 H1 G2 H2 : Hp} {σ : L2.St} {s : Ss} {ρ ρ' : Ro} {A : Nat → List Addr} {D : Ends} {o : Ot}
theorem walkQ_mix {a b : Addr} {us vs : List V} {xs ys : List Dt} (h : SqT K G a us) (h' : SqL K G b vs) (hx : DqAll K G us xs) (hy : DqAll K G vs ys) : WalkQ K (ItzM K a b) G (zipD xs ys) where
  go := fun i G1 H1 g1 g2 hi => by
    rw [zipD_len] at hi
    exact ⟨us, vs, us[i]'(by rw [dqs_len hx]; omega), vs[i]'(by rw [dqs_len hy]; omega), ⟨gr_t g2 (gr_t g1 h), by simp⟩, gr_l g2 (gr_l g1 h'), by simp⟩
  stop := fun G1 H1 g1 g2 => ⟨us, vs, gr_t g2 (gr_t g1 h), gr_l g2 (gr_l g1 h'), by rw [zipD_len, dqs_len hx, dqs_len hy]⟩
  yld := fun i G1 H1 x H2 g1 g2 hi y => by
    obtain ⟨q, u, v, e, hq, eH, y1, y2⟩ := y
    subst e eH
    obtain ⟨d, e1, e2⟩ := dqs_get' hx (y1 us (gr_t g2 (gr_t g1 h)))
    obtain ⟨d', e3, e4⟩ := dqs_get' hy (y2 vs (gr_l g2 (gr_l g1 h')))
    have n := newq_t (ds := [d, d']) g2 hq (.cons (Dqu e2 g1) (.cons (Dqu e4 g1) .nil))
    exact ⟨_, _, n.1, zipD_get e1 e3, n.2⟩
def fZipTL (a b : ME Dt) : ME (List Dt) := bnd a fun x => bnd b fun y => lft (match x, y with
  | .tuple xs, .list ys => some (zipD xs ys)
  | _, _ => none)
def fZipLL (a b : ME Dt) : ME (List Dt) := bnd a fun x => bnd b fun y => lft (match x, y with
  | .list xs, .list ys => some (zipD xs ys)
  | _, _ => none)
theorem xi_mix {ta tb : TE} {a b : ME Dt} (h : XE K mg E ta a) (h' : XE K mg E tb b) : XI K mg E (iMix K (tCons ta (tCons tb tNil))) (fZipTL a b) := fun Lo H0 σ G H s ρ A r ρ' Q hg e q => by
  show ta σ H _
  refine xj_at h hg e q fun v x G1 H1 ρ1 s1 dv hg e q => ?_
  show tb σ H1 _
  refine xj_at h' hg e q fun u y G2 H2 ρ2 s2 du hg e q => ?_
  obtain ⟨z, hz, rfl, rfl⟩ := lft_some hg
  obtain ⟨xs, rfl⟩ : ∃ xs, x = .tuple xs := by cases x <;> first | exact ⟨_, rfl⟩ | cases hz
  obtain ⟨ys, rfl⟩ : ∃ ys, y = .list ys := by cases y <;> first | exact ⟨_, rfl⟩ | cases hz
  cases hz
  cases dv with
  | tup h1 h2 =>
    cases du with
    | lst k1 k2 =>
      have t1 := gr_t s2.g h1
      exact ⟨_, _, _, _, rfl, gr_t e.gr t1, SqL.of (e.gr _ _ k1), q.ok e (.refl e.gr) (walkQ_mix t1 (SqL.of k1) (Dqsu h2 s2.g) k2)⟩
theorem xi_zip {ta tb : TE} {a b : ME Dt} (h : XE K mg E ta a) (h' : XE K mg E tb b) : XI K mg E (iZip K (tCons ta (tCons tb tNil))) (fZipLL a b) := fun Lo H0 σ G H s ρ A r ρ' Q hg e q => by
  show ta σ H _
  refine xj_at h hg e q fun v x G1 H1 ρ1 s1 dv hg e q => ?_
  show tb σ H1 _
  refine xj_at h' hg e q fun u y G2 H2 ρ2 s2 du hg e q => ?_
  obtain ⟨z, hz, rfl, rfl⟩ := lft_some hg
  obtain ⟨xs, rfl⟩ : ∃ xs, x = .list xs := by cases x <;> first | exact ⟨_, rfl⟩ | cases hz
  obtain ⟨ys, rfl⟩ : ∃ ys, y = .list ys := by cases y <;> first | exact ⟨_, rfl⟩ | cases hz
  cases hz
  cases dv with
  | lst h1 h2 =>
    cases du with
    | lst k1 k2 =>
      have t1 := s2.g _ _ h1
      exact ⟨_, _, _, _, rfl, SqL.of (e.gr _ _ t1), SqL.of (e.gr _ _ k1), q.ok e (.refl e.gr) (walkQ_zipL (SqL.of t1) (SqL.of k1) (Dqsu h2 s2.g) k2)⟩
end
end Sb

namespace Sb
open PySem PySem.Spec PyProof.Rows L2
def f__law_taken : MS := (fSeq (fIfS (fB (fOp oGt (fRowI 0 3) (ret (.int 0))))
    (fSeq (fAsg (fOp oMod (fRowI 0 3) (fVar 1)) (fgName 2))
  (fSeq (fRowSet 0 3 (fOp oDiv (fRowI 0 3) (fVar 1)))
  (fRet (fVar 2)))) fNext)
  (fSeq (fRowSet 0 1 (fOp oAdd (fRowI 0 1) (ret (.int 1))))
  (fSeq (fIfS (fB (fOp oGt (fRowI 0 1) (fRowLen 0)))
    (fSeq (fRowSet 0 2 (fOp oMod (fOp oAdd (fOp oMul (fRowI 0 2) (ret (.int 48271))) (ret (.int 11))) (ret (.int 2147483647))))
  (fRet (fOp oMod (fOp oDiv (fRowI 0 2) (ret (.int 7))) (fVar 1)))) fNext)
  (fSeq (fAsg (fRowAt 0 (fOp oSub (fRowI 0 1) (ret (.int 1)))) (fgName 3))
  (fSeq (fRowSet 0 2 (fOp oMod (fOp oAdd (fOp oAdd (fOp oMul (fRowI 0 2) (ret (.int 48271))) (fVar 3)) (ret (.int 11))) (ret (.int 2147483647))))
  (fSeq (fIfS (fB (fOp oGe (fVar 3) (fOp oPow (ret (.int 10)) (ret (.int 18)))))
    (fRowSet 0 3 (fOp oDiv (fVar 3) (fVar 1))) fNext)
  (fRet (fOp oMod (fVar 3) (fVar 1)))))))))
def F__law_taken : Fr := runW 2 4 f__law_taken
def f__law_board : MS := (fRet (fTup (fCons (fOp oAdd (ret (.int 2)) (fCallR F__law_taken 0 (fCons (fOp oSub (fVar 1) (ret (.int 1))) fNil))) (fCons (fOp oAdd (ret (.int 2)) (fCallR F__law_taken 0 (fCons (fOp oSub (fVar 1) (ret (.int 1))) fNil))) fNil))))
def F__law_board : Fr := runW 2 2 f__law_board
def f__law_bad : MS := (fSeq (fAsg (fCallR F__law_taken 0 (fCons (fOp oPow (ret (.int 10)) (ret (.int 9))) fNil)) (fgName 3))
  (fSeq (fAsg (fOp oIxL (fN (fLst (fCons (fVar 2) (fCons (fOp oAdd (fVar 2) (fVar 3)) (fCons (fOp oSub (fOp oSub (ret (.int 0)) (ret (.int 1))) (fVar 3)) (fCons (ret (.bool true)) (fCons (ret .none) (fCons (ret (.str "1")) (fCons (fTup (fCons (ret (.int 0)) fNil)) fNil))))))))) (fCallR F__law_taken 0 (fCons (ret (.int 7)) fNil))) (fgName 4))
  (fSeq (fAsg (fCallR F__law_taken 0 (fCons (fOp oAdd (fCB oLen (fCons (fVar 1) fNil)) (ret (.int 1))) fNil)) (fgName 5))
  (fSeq (fAsg (fOp oCatT (fOp oCatT (fSlT (fVar 1) fNo (fSo (fVar 5))) (fTup (fCons (fVar 4) fNil))) (fSlT (fVar 1) (fSo (fVar 5)) fNo)) (fgName 6))
  (fSeq (fIfS (fAnd (fB (fOp oGt (fVar 5) (ret (.int 0)))) (fB (fOp oEq (fCallR F__law_taken 0 (fCons (ret (.int 3)) fNil)) (ret (.int 0)))))
    (fAsg (fOp oCatT (fOp oCatT (fSlT (fVar 1) fNo (fSo (fVar 5))) (fTup (fCons (fOp oIxT (fVar 1) (fOp oSub (fVar 5) (ret (.int 1)))) fNil))) (fSlT (fVar 1) (fSo (fVar 5)) fNo)) (fgName 6)) fNext)
  (fRet (fTup (fCons (fVar 6) (fCons (fVar 5) fNil)))))))))
def F__law_bad : Fr := runW 3 7 f__law_bad
def f__law_ends : MS := (fSeq (fPar [2, 3] (fCons (fOp oDiv (fOp oDiv (fVar 1) (ret (.int 2))) (fOp oIxT (fVar 0) (ret (.int 1)))) (fCons (fOp oMod (fOp oDiv (fVar 1) (ret (.int 2))) (fOp oIxT (fVar 0) (ret (.int 1)))) fNil)))
  (fSeq (fIfS (fB (fOp oEq (fOp oMod (fVar 1) (ret (.int 2))) (ret (.int 0))))
    (fRet (fN (fLst (fCons (fOp oDiv (fVar 1) (ret (.int 2))) (fCons (fOp oAdd (fOp oMul (fVar 2) (fOp oIxT (fVar 0) (ret (.int 1)))) (fOp oIxL (fN (fLst (fCons (fOp oAdd (fVar 3) (ret (.int 1))) (fCons (ret (.int 0)) fNil)))) (fCB oInt (fCons (fOp oEq (fVar 3) (fOp oSub (fOp oIxT (fVar 0) (ret (.int 1))) (ret (.int 1)))) fNil)))) fNil))))) fNext)
  (fRet (fN (fLst (fCons (fOp oDiv (fVar 1) (ret (.int 2))) (fCons (fOp oAdd (fOp oMul (fOp oIxL (fN (fLst (fCons (fOp oAdd (fVar 2) (ret (.int 1))) (fCons (ret (.int 0)) fNil)))) (fCB oInt (fCons (fOp oEq (fVar 2) (fOp oSub (fOp oIxT (fVar 0) (ret (.int 0))) (ret (.int 1)))) fNil))) (fOp oIxT (fVar 0) (ret (.int 1)))) (fVar 3)) fNil)))))))
def F__law_ends : Fn := runF 2 4 f__law_ends
def f__law_lit : MS := (fSeq (fAsg (fN (fLst fNil)) (fgName 2))
  (fSeq (fFor (fItT (fVar 1)) (fgName 3)
    (fAsg (fN (fOpN oCat (fVar 2) (fCall F__law_ends (fCons (fVar 0) (fCons (fVar 3) fNil))))) (fgName 2)))
  (fRet (fCB oTup (fCons (fN (fLc (fRng1 (fCons (fOp oMul (fOp oIxT (fVar 0) (ret (.int 0))) (fOp oIxT (fVar 0) (ret (.int 1)))) fNil)) (fgName 4) (fB (fOp oEq (fOp oMod (fCountL (fVar 2) (fCons (fVar 4) fNil)) (ret (.int 2))) (ret (.int 1)))) (fVar 4) [4])) fNil)))))
def F__law_lit : Fn := runF 2 5 f__law_lit
def f__law_some : MS := (fSeq (fAsg (fN (fLst fNil)) (fgName 3))
  (fSeq (fFor (fRng1 (fCons (fCallR F__law_taken 0 (fCons (fOp oAdd (fCB oMin2 (fCons (fVar 1) (fCons (fVar 2) fNil))) (ret (.int 1))) fNil)) fNil)) (fgName 4)
    (fSeq (fAsg (fCallR F__law_taken 0 (fCons (fVar 1) fNil)) (fgName 5))
  (fAsg (fN (fOpN oCat (fVar 3) (fN (fOpN oRep (fN (fLst (fCons (fVar 5) fNil))) (fCB oInt (fCons (fOp oNi (fVar 5) (fVar 3)) fNil)))))) (fgName 3))))
  (fRet (fCB oTup (fCons (fN (fCBN oSorted (fCons (fVar 3) fNil))) fNil)))))
def F__law_some : Fr := runW 3 6 f__law_some
def f__law_flips : MS := (fSeq (fAsg (fOp oMul (fOp oIxT (fVar 1) (ret (.int 0))) (fOp oIxT (fVar 1) (ret (.int 1)))) (fgName 2))
  (fSeq (fAsg (fN (fCBN oListOf (fCons (fCallR F__law_some 0 (fCons (fOp oMul (ret (.int 2)) (fVar 2)) (fCons (fOp oIxL (fN (fLst (fCons (ret (.int 3)) (fCons (ret (.int 6)) (fCons (fOp oMul (ret (.int 2)) (fVar 2)) fNil))))) (fCallR F__law_taken 0 (fCons (ret (.int 3)) fNil))) fNil))) fNil))) (fgName 3))
  (fSeq (fIfS (fB (fOp oEq (fCallR F__law_taken 0 (fCons (ret (.int 4)) fNil)) (ret (.int 0))))
    (fSeq (fAsg (fCallR F__law_taken 0 (fCons (fOp oIxT (fVar 1) (ret (.int 0))) fNil)) (fgName 4))
  (fAsg (fN (fOpN oCat (fVar 3) (fN (fLc (fRng1 (fCons (fOp oIxT (fVar 1) (ret (.int 1))) fNil)) (fgName 5) (ret true) (fOp oMul (ret (.int 2)) (fOp oAdd (fOp oMul (fVar 4) (fOp oIxT (fVar 1) (ret (.int 1)))) (fVar 5))) [5])))) (fgName 3))) fNext)
  (fSeq (fIfS (fB (fOp oEq (fCallR F__law_taken 0 (fCons (ret (.int 4)) fNil)) (ret (.int 0))))
    (fSeq (fAsg (fCallR F__law_taken 0 (fCons (fOp oIxT (fVar 1) (ret (.int 1))) fNil)) (fgName 4))
  (fAsg (fN (fOpN oCat (fVar 3) (fN (fLc (fRng1 (fCons (fOp oIxT (fVar 1) (ret (.int 0))) fNil)) (fgName 5) (ret true) (fOp oAdd (fOp oMul (ret (.int 2)) (fOp oAdd (fOp oMul (fVar 5) (fOp oIxT (fVar 1) (ret (.int 1)))) (fVar 4))) (ret (.int 1))) [5])))) (fgName 3))) fNext)
  (fRet (fCB oTup (fCons (fN (fLc (fRng1 (fCons (fOp oMul (ret (.int 2)) (fVar 2)) fNil)) (fgName 6) (fB (fOp oEq (fOp oMod (fCountL (fVar 3) (fCons (fVar 6) fNil)) (ret (.int 2))) (ret (.int 1)))) (fVar 6) [6])) fNil)))))))
def F__law_flips : Fr := runW 2 7 f__law_flips
def f_is_whole : MS := (fRet (fAndV (fIsi "int" (fVar 0)) (fNotV (fIsi "bool" (fVar 0)))))
def F_is_whole : Fn := runF 1 1 f_is_whole
def f_is_side : MS := (fRet (fAndV (fCall F_is_whole (fCons (fVar 0) fNil)) (fChain oLe oLe (ret (.int 2)) (fVar 0) (ret (.int 5)))))
def F_is_side : Fn := runF 1 1 f_is_side
def f_require_board : MS := (fSeq (fIfS (fOr (fNot (fB (fIsi "tuple" (fVar 0)))) (fB (fOp oNe (fCB oLen (fCons (fVar 0) fNil)) (ret (.int 2)))))
    fNever fNext)
  (fIfS (fOr (fNot (fB (fCall F_is_side (fCons (fOp oIxT (fVar 0) (ret (.int 0))) fNil)))) (fNot (fB (fCall F_is_side (fCons (fOp oIxT (fVar 0) (ret (.int 1))) fNil)))))
    fNever fNext))
def F_require_board : Fn := runF 1 1 f_require_board
def f_first_misplaced : MS := (fSeq (fIfS (fNot (fB (fIsi "tuple" (fVar 0))))
    (fRet (ret (.int 0))) fNext)
  (fSeq (fAsg (ret (.int 0)) (fgName 2))
  (fSeq (fFor (fEnumT (fVar 0)) (fgTup 2 (fgCons (fgName 3) (fgCons (fgName 4) fgNil)))
    (fSeq (fIfS (fOr (fNot (fB (fCall F_is_whole (fCons (fVar 4) fNil)))) (fOr (fB (fOp oLt (fVar 4) (fVar 2))) (fB (fOp oGe (fVar 4) (fVar 1)))))
    (fRet (fVar 3)) fNext)
  (fAsg (fOp oAdd (fVar 4) (ret (.int 1))) (fgName 2))))
  (fRet (ret .none)))))
def F_first_misplaced : Fn := runF 2 5 f_first_misplaced
def f_site_count : MS := (fRet (fOp oMul (fOp oIxT (fVar 0) (ret (.int 0))) (fOp oIxT (fVar 0) (ret (.int 1)))))
def F_site_count : Fn := runF 1 1 f_site_count
def f_edge_count : MS := (fRet (fOp oMul (ret (.int 2)) (fCall F_site_count (fCons (fVar 0) fNil))))
def F_edge_count : Fn := runF 1 1 f_edge_count
def f_require_flips : MS := (fSeq (fAsg (fCall F_first_misplaced (fCons (fVar 1) (fCons (fCall F_edge_count (fCons (fVar 0) fNil)) fNil))) (fgName 2))
  (fIfS (fB (fOp oNotN (fVar 2) (ret .none)))
    fNever fNext))
def F_require_flips : Fn := runF 2 3 f_require_flips
def f_odd_ones : MS := (fSeq (fOwn 2 (fOpN oRep (fN (fLst (fCons (ret (.int 0)) fNil))) (fVar 1)))
  (fSeq (fFor (fItO (fVar 0)) (fgName 3)
    (fAugI (fun i j => i + j) 2 (fVar 3) (ret (.int 1))))
  (fFz 2 (fRet (fCB oTup (fCons (fN (fLc (fEnumL (fVar 2)) (fgTup 2 (fgCons (fgName 3) (fgCons (fgName 4) fgNil))) (fB (fOp oEq (fOp oMod (fVar 4) (ret (.int 2))) (ret (.int 1)))) (fVar 3) [3, 4])) fNil))))))
def F_odd_ones : Fn := runF 2 5 f_odd_ones
def f_goes_down : MS := (fRet (fOp oEq (fOp oMod (fVar 0) (ret (.int 2))) (ret (.int 1))))
def F_goes_down : Fn := runF 1 1 f_goes_down
def f_site_right_of : MS := (fSeq (fAsg (fOp oIxT (fVar 0) (ret (.int 1))) (fgName 2))
  (fRet (fOp oAdd (fOp oSub (fVar 1) (fOp oMod (fVar 1) (fVar 2))) (fOp oMod (fOp oAdd (fVar 1) (ret (.int 1))) (fVar 2)))))
def F_site_right_of : Fn := runF 2 3 f_site_right_of
def f_site_below : MS := (fRet (fOp oMod (fOp oAdd (fVar 1) (fOp oIxT (fVar 0) (ret (.int 1)))) (fCall F_site_count (fCons (fVar 0) fNil))))
def F_site_below : Fn := runF 2 2 f_site_below
def f_edge_ends : MS := (fSeq (fAsg (fOp oDiv (fVar 1) (ret (.int 2))) (fgName 2))
  (fSeq (fIfS (fB (fCall F_goes_down (fCons (fVar 1) fNil)))
    (fRet (fTup (fCons (fVar 2) (fCons (fCall F_site_below (fCons (fVar 0) (fCons (fVar 2) fNil))) fNil)))) fNext)
  (fRet (fTup (fCons (fVar 2) (fCons (fCall F_site_right_of (fCons (fVar 0) (fCons (fVar 2) fNil))) fNil))))))
def F_edge_ends : Fn := runF 2 3 f_edge_ends
def f_checks : MS := (fSeq (fDrop (fCall F_require_board (fCons (fVar 0) fNil)))
  (fSeq (fDrop (fCall F_require_flips (fCons (fVar 0) (fCons (fVar 1) fNil))))
  (fSeq (fAsg (fN (fLc2 (fItT (fVar 1)) (fgName 3) (ret true) (fItT (fCall F_edge_ends (fCons (fVar 0) (fCons (fVar 3) fNil)))) (fgName 4) (ret true) (fVar 4) [3, 4] [4])) (fgName 2))
  (fRet (fCall F_odd_ones (fCons (fVar 2) (fCons (fCall F_site_count (fCons (fVar 0) fNil)) fNil)))))))
def F_checks : Fn := runF 2 5 f_checks
def f_crosses_first_seam : MS := (fSeq (fAsg (fOp oIxT (fVar 0) (ret (.int 1))) (fgName 2))
  (fRet (fAndV (fNotV (fCall F_goes_down (fCons (fVar 1) fNil))) (fOp oEq (fOp oMod (fOp oDiv (fVar 1) (ret (.int 2))) (fVar 2)) (fOp oSub (fVar 2) (ret (.int 1)))))))
def F_crosses_first_seam : Fn := runF 2 3 f_crosses_first_seam
def f_crosses_second_seam : MS := (fSeq (fAsg (fVar 0) (fgTup 2 (fgCons (fgName 2) (fgCons (fgName 3) fgNil))))
  (fRet (fAndV (fCall F_goes_down (fCons (fVar 1) fNil)) (fOp oEq (fOp oDiv (fOp oDiv (fVar 1) (ret (.int 2))) (fVar 3)) (fOp oSub (fVar 2) (ret (.int 1)))))))
def F_crosses_second_seam : Fn := runF 2 4 f_crosses_second_seam
def f_seams : MS := (fSeq (fDrop (fCall F_require_board (fCons (fVar 0) fNil)))
  (fSeq (fDrop (fCall F_require_flips (fCons (fVar 0) (fCons (fVar 1) fNil))))
  (fSeq (fAsg (fN (fLc (fItT (fVar 1)) (fgName 3) (fB (fCall F_crosses_first_seam (fCons (fVar 0) (fCons (fVar 3) fNil)))) (fVar 3) [3])) (fgName 2))
  (fSeq (fAsg (fN (fLc (fItT (fVar 1)) (fgName 3) (fB (fCall F_crosses_second_seam (fCons (fVar 0) (fCons (fVar 3) fNil)))) (fVar 3) [3])) (fgName 4))
  (fRet (fTup (fCons (fOp oMod (fCB oLen (fCons (fVar 2) fNil)) (ret (.int 2))) (fCons (fOp oMod (fCB oLen (fCons (fVar 4) fNil)) (ret (.int 2))) fNil))))))))
def F_seams : Fn := runF 2 5 f_seams
def f_require_faces : MS := (fSeq (fAsg (fCall F_first_misplaced (fCons (fVar 1) (fCons (fCall F_site_count (fCons (fVar 0) fNil)) fNil))) (fgName 2))
  (fIfS (fB (fOp oNotN (fVar 2) (ret .none)))
    fNever fNext))
def F_require_faces : Fn := runF 2 3 f_require_faces
def f_edges_round : MS := (fSeq (fAsg (fCall F_site_below (fCons (fVar 0) (fCons (fVar 1) fNil))) (fgName 2))
  (fSeq (fAsg (fCall F_site_right_of (fCons (fVar 0) (fCons (fVar 1) fNil))) (fgName 3))
  (fRet (fTup (fCons (fOp oMul (ret (.int 2)) (fVar 1)) (fCons (fOp oAdd (fOp oMul (ret (.int 2)) (fVar 1)) (ret (.int 1))) (fCons (fOp oMul (ret (.int 2)) (fVar 2)) (fCons (fOp oAdd (fOp oMul (ret (.int 2)) (fVar 3)) (ret (.int 1))) fNil))))))))
def F_edges_round : Fn := runF 2 4 f_edges_round
def f_turned : MS := (fSeq (fDrop (fCall F_require_board (fCons (fVar 0) fNil)))
  (fSeq (fDrop (fCall F_require_flips (fCons (fVar 0) (fCons (fVar 1) fNil))))
  (fSeq (fDrop (fCall F_require_faces (fCons (fVar 0) (fCons (fVar 2) fNil))))
  (fSeq (fAsg (fN (fLc2 (fItT (fVar 2)) (fgName 4) (ret true) (fItT (fCall F_edges_round (fCons (fVar 0) (fCons (fVar 4) fNil)))) (fgName 5) (ret true) (fVar 5) [4, 5] [5])) (fgName 3))
  (fRet (fCall F_odd_ones (fCons (fN (fLst (fStar (fVar 1) (fStar (fVar 3) fNil)))) (fCons (fCall F_edge_count (fCons (fVar 0) fNil)) fNil))))))))
def F_turned : Fn := runF 3 6 f_turned
def f_after : MS := (fSeq (fDrop (fCall F_require_board (fCons (fVar 0) fNil)))
  (fSeq (fDrop (fCall F_require_flips (fCons (fVar 0) (fCons (fVar 1) fNil))))
  (fSeq (fDrop (fCall F_require_flips (fCons (fVar 0) (fCons (fVar 2) fNil))))
  (fRet (fCall F_odd_ones (fCons (fOp oCatT (fVar 1) (fVar 2)) (fCons (fCall F_edge_count (fCons (fVar 0) fNil)) fNil)))))))
def F_after : Fn := runF 3 3 f_after
def f_faces_within : MS := (fSeq (fAsg (fOp oIxT (fVar 0) (ret (.int 1))) (fgName 2))
  (fSeq (fOwn 3 (fLst (fCons (ret (.bool false)) fNil)))
  (fSeq (fFor (fRng2 (fCons (ret (.int 1)) (fCons (fCall F_site_count (fCons (fVar 0) fNil)) fNil))) (fgName 4)
    (fIfS (fB (fOp oEq (fOp oMod (fVar 4) (fVar 2)) (ret (.int 0))))
    (fApp 3 (fOp oNe (fLook (fOp oIxL (fVar 3) (fOp oSub (fVar 4) (fVar 2)))) (fOp oIn (fOp oMul (ret (.int 2)) (fVar 4)) (fVar 1)))) (fApp 3 (fOp oNe (fLook (fOp oIxL (fVar 3) (fOp oSub (fVar 4) (ret (.int 1))))) (fOp oIn (fOp oAdd (fOp oMul (ret (.int 2)) (fVar 4)) (ret (.int 1))) (fVar 1))))))
  (fFz 3 (fRet (fCB oTup (fCons (fN (fLc (fEnumL (fVar 3)) (fgTup 2 (fgCons (fgName 4) (fgCons (fgName 5) fgNil))) (fB (fVar 5)) (fVar 4) [4, 5])) fNil)))))))
def F_faces_within : Fn := runF 2 6 f_faces_within
def f_led : MS := (fSeq (fAsg (fCall F_after (fCons (fVar 0) (fCons (fVar 1) (fCons (fVar 2) fNil)))) (fgName 3))
  (fSeq (fIfS (fOr (fB (fOp oNe (fCall F_checks (fCons (fVar 0) (fCons (fVar 3) fNil))) (fTup fNil))) (fB (fOp oNe (fCall F_seams (fCons (fVar 0) (fCons (fVar 3) fNil))) (fTup (fCons (ret (.int 0)) (fCons (ret (.int 0)) fNil))))))
    (fRet (ret .none)) fNext)
  (fRet (fCall F_faces_within (fCons (fVar 0) (fCons (fVar 3) fNil))))))
def F_led : Fn := runF 3 4 f_led
def f_row_sites : MS := (fSeq (fAsg (fOp oIxT (fVar 0) (ret (.int 1))) (fgName 2))
  (fRet (fN (fListRg2 (fOp oMul (fVar 1) (fVar 2)) (fOp oMul (fOp oAdd (fVar 1) (ret (.int 1))) (fVar 2))))))
def F_row_sites : Fn := runF 2 3 f_row_sites
def f_sign_of : MS := (fRet (fIf (fB (fVar 1)) (fOp oIxS (fVar 0) (ret (.int 1))) (fOp oIxS (fVar 0) (ret (.int 0)))))
def F_sign_of : Fn := runF 2 2 f_sign_of
def f_written : MS := (fSeq (fAsg (fCall F_checks (fCons (fVar 0) (fCons (fVar 1) fNil))) (fgName 2))
  (fSeq (fOwn 3 (fLst fNil))
  (fSeq (fFor (fRng1 (fCons (fOp oIxT (fVar 0) (ret (.int 0))) fNil)) (fgName 4)
    (fSeq (fAsg (fCall F_row_sites (fCons (fVar 0) (fCons (fVar 4) fNil))) (fgName 5))
  (fSeq (fApp 3 (fM1 oJoin (ret (.str "")) (fN (fLc (fItL (fVar 5)) (fgName 6) (ret true) (fOp oCatS (fCall F_sign_of (fCons (ret (.str "o*")) (fCons (fOp oIn (fVar 6) (fVar 2)) fNil))) (fCall F_sign_of (fCons (ret (.str "-=")) (fCons (fOp oIn (fOp oMul (ret (.int 2)) (fVar 6)) (fVar 1)) fNil)))) [6]))))
  (fApp 3 (fM1 oJoin (ret (.str " ")) (fN (fLc (fItL (fVar 5)) (fgName 6) (ret true) (fCall F_sign_of (fCons (ret (.str "|#")) (fCons (fOp oIn (fOp oAdd (fOp oMul (ret (.int 2)) (fVar 6)) (ret (.int 1))) (fVar 1)) fNil))) [6])))))))
  (fFz 3 (fRet (fM1 oJoin (ret (.str "\n")) (fVar 3)))))))
def F_written : Fn := runF 2 7 f_written
def f_require_lit : MS := (fSeq (fAsg (fCall F_first_misplaced (fCons (fVar 1) (fCons (fCall F_site_count (fCons (fVar 0) fNil)) fNil))) (fgName 2))
  (fIfS (fB (fOp oNotN (fVar 2) (ret .none)))
    fNever fNext))
def F_require_lit : Fn := runF 2 3 f_require_lit
def f_is_cost : MS := (fRet (fAndV (fCall F_is_whole (fCons (fVar 0) fNil)) (fChain oLe oLe (ret (.int 1)) (fVar 0) (ret (.int 99)))))
def F_is_cost : Fn := runF 1 1 f_is_cost
def f_first_bad_cost : MS := (fSeq (fIfS (fNot (fB (fIsi "tuple" (fVar 0))))
    (fRet (ret (.int 0))) fNext)
  (fSeq (fFor (fEnumT (fVar 0)) (fgTup 2 (fgCons (fgName 2) (fgCons (fgName 3) fgNil)))
    (fIfS (fOr (fB (fOp oEq (fVar 2) (fVar 1))) (fNot (fB (fCall F_is_cost (fCons (fVar 3) fNil)))))
    (fRet (fVar 2)) fNext))
  (fSeq (fIfS (fB (fOp oLt (fCB oLen (fCons (fVar 0) fNil)) (fVar 1)))
    (fRet (fCB oLen (fCons (fVar 0) fNil))) fNext)
  (fRet (ret .none)))))
def F_first_bad_cost : Fn := runF 2 4 f_first_bad_cost
def f_require_costs : MS := (fSeq (fIfS (fB (fOp oIsN (fVar 1) (ret .none)))
    fRetN fNext)
  (fSeq (fAsg (fCall F_first_bad_cost (fCons (fVar 1) (fCons (fCall F_edge_count (fCons (fVar 0) fNil)) fNil))) (fgName 2))
  (fIfS (fB (fOp oNotN (fVar 2) (ret .none)))
    fNever fNext)))
def F_require_costs : Fn := runF 2 3 f_require_costs
def f_behind : MS := (fSeq (fOwn 2 (fLst fNil))
  (fSeq (fFor (fRng1 (fCons (fCB oLen (fCons (ret (.tuple [.tuple [.int 0, .int 0], .tuple [.int 0, .int 1], .tuple [.int 1, .int 0], .tuple [.int 1, .int 1]])) fNil)) fNil)) (fgName 3)
    (fSeq (fAsg (fN (fLc (fRng1 (fCons (fCB oLen (fCons (ret (.tuple [.tuple [.int 0, .int 0], .tuple [.int 0, .int 1], .tuple [.int 1, .int 0], .tuple [.int 1, .int 1]])) fNil)) fNil)) (fgName 5) (ret true) (fTup (fCons (fOp oIxL (fVar 0) (fVar 5)) (fCons (fOp oIxL (fVar 1) (fOp oXor (fVar 5) (fVar 3))) fNil))) [5])) (fgName 4))
  (fApp 2 (fCB oMin2 (fCons (fN (fLc (fItL (fVar 4)) (fgTup 2 (fgCons (fgName 6) (fgCons (fgName 7) fgNil))) (ret true) (fTup (fCons (fOp oAdd (fOp oIxT (fVar 6) (ret (.int 0))) (fOp oIxT (fVar 7) (ret (.int 0)))) (fCons (fOp oXor (fOp oIxT (fVar 6) (ret (.int 1))) (fOp oIxT (fVar 7) (ret (.int 1)))) fNil))) [6, 7])) fNil)))))
  (fFz 2 (fRet (fVar 2)))))
def F_behind : Fn := runF 2 8 f_behind
def f_rim_sites : MS := (fSeq (fAsg (fOp oIxT (fVar 0) (ret (.int 1))) (fgName 1))
  (fRet (fN (fLc (fRng1 (fCons (fCall F_site_count (fCons (fVar 0) fNil)) fNil)) (fgName 2) (fOr (fB (fOp oLt (fVar 2) (fVar 1))) (fB (fOp oEq (fOp oMod (fVar 2) (fVar 1)) (ret (.int 0))))) (fVar 2) [2]))))
def F_rim_sites : Fn := runF 1 3 f_rim_sites
def f_numbers_in : MS := (fRet (fCB oTup (fCons (fN (fLc (fRng1 (fCons (fVar 1) fNil)) (fgName 2) (fB (fOp oEq (fOp oMod (fOp oShr (fVar 0) (fVar 2)) (ret (.int 2))) (ret (.int 1)))) (fVar 2) [2])) fNil)))
def F_numbers_in : Fn := runF 2 3 f_numbers_in
def f__law_alike (Frec : Fn) : MS := (fSeq (fIfS (fAnd (fB (fIsiTL (fVar 0))) (fB (fIsiTL (fVar 1))))
    (fSeq (fIfS (fOr (fB (fOp oNe (fIsi "tuple" (fVar 0)) (fIsi "tuple" (fVar 1)))) (fB (fOp oNe (fCB oLen (fCons (fVar 0) fNil)) (fCB oLen (fCons (fVar 1) fNil)))))
    (fRet (ret (.bool false))) fNext)
  (fRet (fOp oEq (fN (fLc (fRng1 (fCons (fCB oLen (fCons (fVar 0) fNil)) fNil)) (fgName 2) (fNot (fB (fCall Frec (fCons (fOp oIxO (fVar 0) (fVar 2)) (fCons (fOp oIxO (fVar 1) (fVar 2)) fNil))))) (fVar 2) [2])) (fN (fLst fNil))))) fNext)
  (fRet (fAndV (fOp oEq (fVar 0) (fVar 1)) (fOp oEq (fIsi "bool" (fVar 0)) (fIsi "bool" (fVar 1))))))
def R__law_alike : Nat → Fn
  | 0 => fun _ => none
  | i + 1 => runF 2 3 (f__law_alike (R__law_alike i))
def F__law_alike : Fn := R__law_alike 7
def f__law_crosses : MS := (fSeq (fPar [2, 3] (fCons (fOp oDiv (fOp oDiv (fVar 1) (ret (.int 2))) (fOp oIxT (fVar 0) (ret (.int 1)))) (fCons (fOp oMod (fOp oDiv (fVar 1) (ret (.int 2))) (fOp oIxT (fVar 0) (ret (.int 1)))) fNil)))
  (fRet (fTup (fCons (fCB oInt (fCons (fAndV (fOp oEq (fOp oMod (fVar 1) (ret (.int 2))) (ret (.int 0))) (fOp oEq (fVar 3) (fOp oSub (fOp oIxT (fVar 0) (ret (.int 1))) (ret (.int 1))))) fNil)) (fCons (fCB oInt (fCons (fAndV (fOp oEq (fOp oMod (fVar 1) (ret (.int 2))) (ret (.int 1))) (fOp oEq (fVar 2) (fOp oSub (fOp oIxT (fVar 0) (ret (.int 0))) (ret (.int 1))))) fNil)) fNil)))))
def F__law_crosses : Fn := runF 2 4 f__law_crosses
def f__law_seams : MS := (fSeq (fAsg (fN (fLc (fItT (fVar 1)) (fgName 3) (ret true) (fCall F__law_crosses (fCons (fVar 0) (fCons (fVar 3) fNil))) [3])) (fgName 2))
  (fRet (fTup (fCons (fOp oMod (fCB oSum (fCons (fN (fLc (fItL (fVar 2)) (fgName 4) (ret true) (fOp oIxT (fVar 4) (ret (.int 0))) [4])) fNil)) (ret (.int 2))) (fCons (fOp oMod (fCB oSum (fCons (fN (fLc (fItL (fVar 2)) (fgName 4) (ret true) (fOp oIxT (fVar 4) (ret (.int 1))) [4])) fNil)) (ret (.int 2))) fNil)))))
def F__law_seams : Fn := runF 2 5 f__law_seams
def f__law_price : MS := (fRet (fCB oSum (fCons (fN (fLc (fItT (fVar 1)) (fgName 2) (ret true) (fOp oIxT (fVar 0) (fVar 2)) [2])) fNil)))
def F__law_price : Fn := runF 2 3 f__law_price
def f__law_are_least : MS := (fSeq (fAsg (fN (fLst (fCons (fTup (fCons (ret (.int 0)) (fCons (ret (.int 0)) fNil))) (fCons (fTup (fCons (ret (.int 0)) (fCons (ret (.int 1)) fNil))) (fCons (fTup (fCons (ret (.int 1)) (fCons (ret (.int 0)) fNil))) (fCons (fTup (fCons (ret (.int 1)) (fCons (ret (.int 1)) fNil))) fNil)))))) (fgName 4))
  (fSeq (fFor (fRng1 (fCons (ret (.int 4)) fNil)) (fgName 5)
    (fSeq (fAsg (fOp oIxT (fVar 3) (fVar 5)) (fgTup 2 (fgCons (fgName 6) (fgCons (fgName 7) fgNil))))
  (fIfS (fOr (fB (fOp oNe (fCall F_checks (fCons (fVar 0) (fCons (fVar 7) fNil))) (fVar 2))) (fOr (fB (fOp oNe (fCall F_seams (fCons (fVar 0) (fCons (fVar 7) fNil))) (fOp oIxL (fVar 4) (fVar 5)))) (fB (fOp oNe (fCall F__law_price (fCons (fVar 1) (fCons (fVar 7) fNil))) (fVar 6)))))
    (fRet (ret (.bool false))) fNext)))
  (fRet (ret (.bool true)))))
def F__law_are_least : Fn := runF 4 8 f__law_are_least
def f__law_loop : MS := (fSeq (fAsg (fTup (fCons (fCallR F__law_taken 0 (fCons (fOp oIxT (fVar 1) (ret (.int 0))) fNil)) (fCons (fCallR F__law_taken 0 (fCons (fOp oIxT (fVar 1) (ret (.int 1))) fNil)) (fCons (fOp oAdd (ret (.int 1)) (fCallR F__law_taken 0 (fCons (ret (.int 3)) fNil))) fNil)))) (fgTup 3 (fgCons (fgName 2) (fgCons (fgName 3) (fgCons (fgName 4) fgNil)))))
  (fSeq (fAsg (fN (fOpN oRep (fN (fLc (fRng1 (fCons (fOp oIxT (fVar 1) (ret (.int 1))) fNil)) (fgName 6) (ret true) (fOp oMul (ret (.int 2)) (fOp oAdd (fOp oMul (fVar 2) (fOp oIxT (fVar 1) (ret (.int 1)))) (fVar 6))) [6])) (fCB oInt (fCons (fOp oNe (fVar 4) (ret (.int 2))) fNil)))) (fgName 5))
  (fRet (fCB oTup (fCons (fN (fCBN oSorted (fCons (fN (fOpN oCat (fVar 5) (fN (fOpN oRep (fN (fLc (fRng1 (fCons (fOp oIxT (fVar 1) (ret (.int 0))) fNil)) (fgName 6) (ret true) (fOp oAdd (fOp oMul (ret (.int 2)) (fOp oAdd (fOp oMul (fVar 6) (fOp oIxT (fVar 1) (ret (.int 1)))) (fVar 3))) (ret (.int 1))) [6])) (fCB oInt (fCons (fOp oGt (fVar 4) (ret (.int 1))) fNil)))))) fNil))) fNil)))))
def F__law_loop : Fr := runW 2 7 f__law_loop
def f__law_told_by : MS := (fSeq (fParND 2 3 (fLst fNil) (fN (fLst fNil)))
  (fSeq (fFor (fItL (fVar 1)) (fgTup 2 (fgCons (fgName 4) (fgCons (fgName 5) fgNil)))
    (fSeq (fFor (fItT (fVar 4)) (fgName 6)
    (fAsg (fN (fOpN oCat (fVar 3) (fCall F__law_ends (fCons (fVar 0) (fCons (fVar 6) fNil))))) (fgName 3)))
  (fSeq (fAsg (fN (fLc (fRng1 (fCons (fOp oMul (fOp oIxT (fVar 0) (ret (.int 0))) (fOp oIxT (fVar 0) (ret (.int 1)))) fNil)) (fgName 8) (fB (fOp oNe (fOp oEq (fOp oMod (fCountL (fVar 3) (fCons (fVar 8) fNil)) (ret (.int 2))) (ret (.int 1))) (fOp oIn (fVar 8) (fVar 5)))) (fVar 8) [8])) (fgName 7))
  (fApp 2 (fCB oTup (fCons (fVar 7) fNil))))))
  (fFz 2 (fRet (fCB oTup (fCons (fVar 2) fNil))))))
def F__law_told_by : Fn := runF 2 9 f__law_told_by
def f_is_lit : MS := (fRet (fOp oIsN (fCall F_first_misplaced (fCons (fVar 1) (fCons (fCall F_site_count (fCons (fVar 0) fNil)) fNil))) (ret .none)))
def F_is_lit : Fn := runF 2 2 f_is_lit
def f_first_bad_beat : MS := (fSeq (fIfS (fOr (fNot (fB (fIsi "tuple" (fVar 1)))) (fB (fOp oEq (fCB oLen (fCons (fVar 1) fNil)) (ret (.int 0)))))
    (fRet (ret (.int 0))) fNext)
  (fSeq (fFor (fEnumT (fVar 1)) (fgTup 2 (fgCons (fgName 2) (fgCons (fgName 3) fgNil)))
    (fIfS (fOr (fB (fOp oEq (fVar 2) (ret (.int 5)))) (fNot (fB (fCall F_is_lit (fCons (fVar 0) (fCons (fVar 3) fNil))))))
    (fRet (fVar 2)) fNext))
  (fSeq (fIfS (fB (fOp oEq (fOp oMod (fCB oLen (fCons (fOp oIxT (fVar 1) (fUn oNeg (ret (.int 1)))) fNil)) (ret (.int 2))) (ret (.int 1))))
    (fRet (fOp oSub (fCB oLen (fCons (fVar 1) fNil)) (ret (.int 1)))) fNext)
  (fRet (ret .none)))))
def F_first_bad_beat : Fn := runF 2 4 f_first_bad_beat
def f_require_told : MS := (fSeq (fAsg (fCall F_first_bad_beat (fCons (fVar 0) (fCons (fVar 1) fNil))) (fgName 2))
  (fIfS (fB (fOp oNotN (fVar 2) (ret .none)))
    fNever fNext))
def F_require_told : Fn := runF 2 3 f_require_told
def f_is_pair : MS := (fSeq (fIfS (fOr (fNot (fB (fIsi "tuple" (fVar 1)))) (fB (fOp oNe (fCB oLen (fCons (fVar 1) fNil)) (ret (.int 2)))))
    (fRet (ret (.bool false))) fNext)
  (fRet (fAndV (fOp oIsN (fCall F_first_misplaced (fCons (fOp oIxT (fVar 1) (ret (.int 0))) (fCons (fCall F_edge_count (fCons (fVar 0) fNil)) fNil))) (ret .none)) (fCall F_is_lit (fCons (fVar 0) (fCons (fOp oIxT (fVar 1) (ret (.int 1))) fNil))))))
def F_is_pair : Fn := runF 2 2 f_is_pair
def f_first_bad_pair : MS := (fSeq (fIfS (fNot (fB (fIsi "list" (fVar 1))))
    (fRet (ret (.int 0))) fNext)
  (fSeq (fFor (fEnumL (fVar 1)) (fgTup 2 (fgCons (fgName 3) (fgCons (fgName 4) fgNil)))
    (fIfS (fOr (fB (fOp oEq (fVar 3) (fVar 2))) (fNot (fB (fCall F_is_pair (fCons (fVar 0) (fCons (fVar 4) fNil))))))
    (fRet (fVar 3)) fNext))
  (fSeq (fIfS (fB (fOp oLt (fCB oLen (fCons (fVar 1) fNil)) (fVar 2)))
    (fRet (fCB oLen (fCons (fVar 1) fNil))) fNext)
  (fRet (ret .none)))))
def F_first_bad_pair : Fn := runF 3 5 f_first_bad_pair
def f_require_story : MS := (fSeq (fAsg (fCall F_first_bad_pair (fCons (fVar 0) (fCons (fVar 1) (fCons (fVar 2) fNil)))) (fgName 3))
  (fIfS (fB (fOp oNotN (fVar 3) (ret .none)))
    fNever fNext))
def F_require_story : Fn := runF 3 4 f_require_story
def f_require_count : MS := (fIfS (fOr (fNot (fB (fCall F_is_whole (fCons (fVar 0) fNil)))) (fNot (fB (fChain oLe oLe (ret (.int 1)) (fVar 0) (ret (.int 9))))))
    fNever fNext)
def F_require_count : Fn := runF 1 1 f_require_count
def f_judged : MS := (fSeq (fDrop (fCall F_require_board (fCons (fVar 0) fNil)))
  (fSeq (fDrop (fCall F_require_told (fCons (fVar 0) (fCons (fVar 1) fNil))))
  (fSeq (fDrop (fCall F_require_story (fCons (fVar 0) (fCons (fVar 2) (fCons (fCB oLen (fCons (fVar 1) fNil)) fNil)))))
  (fSeq (fDrop (fCall F_require_count (fCons (fVar 3) fNil)))
  (fSeq (fDrop (fCall F_require_count (fCons (fVar 4) fNil)))
  (fSeq (fAsg (ret (.int 0)) (fgName 5))
  (fSeq (fAsg (fTup fNil) (fgName 6))
  (fSeq (fFor (fZipTL (fVar 1) (fVar 2)) (fgTup 2 (fgCons (fgName 7) (fgCons (fgTup 2 (fgCons (fgName 8) (fgCons (fgName 9) fgNil))) fgNil)))
    (fSeq (fAsg (fCall F_after (fCons (fVar 0) (fCons (fVar 6) (fCons (fVar 8) fNil)))) (fgName 6))
  (fSeq (fIfS (fB (fOp oNe (fCall F_odd_ones (fCons (fOp oCatT (fCall F_checks (fCons (fVar 0) (fCons (fVar 6) fNil))) (fVar 9)) (fCons (fCall F_site_count (fCons (fVar 0) fNil)) fNil))) (fVar 7)))
    (fRet (ret .none)) fNext)
  (fAug (fun i j => i + j) 5 (fOp oAdd (fOp oMul (fVar 3) (fCB oLen (fCons (fVar 8) fNil))) (fOp oMul (fVar 4) (fCB oLen (fCons (fVar 9) fNil))))))))
  (fSeq (fIfS (fB (fOp oNe (fOp oIxT (fOp oIxL (fVar 2) (fUn oNeg (ret (.int 1)))) (ret (.int 1))) (fTup fNil)))
    (fRet (ret .none)) fNext)
  (fRet (fTup (fCons (fVar 5) (fCons (fCall F_seams (fCons (fVar 0) (fCons (fVar 6) fNil))) fNil)))))))))))))
def F_judged : Fn := runF 5 10 f_judged
def f_changes : MS := (fSeq (fAsg (fCall F_site_count (fCons (fVar 0) fNil)) (fgName 2))
  (fSeq (fOwn 3 (fLst fNil))
  (fSeq (fAsg (fTup fNil) (fgName 4))
  (fSeq (fFor (fEnumT (fVar 1)) (fgTup 2 (fgCons (fgName 5) (fgCons (fgName 6) fgNil)))
    (fSeq (fExt 3 (fN (fLc (fItT (fCall F_odd_ones (fCons (fOp oCatT (fVar 4) (fVar 6)) (fCons (fVar 2) fNil)))) (fgName 7) (ret true) (fOp oAdd (fOp oMul (fVar 5) (fVar 2)) (fVar 7)) [7])))
  (fAsg (fVar 6) (fgName 4))))
  (fFz 3 (fRet (fVar 3)))))))
def F_changes : Fn := runF 2 8 f_changes
def f_story_of : MS := (fSeq (fAsg (fCall F_edge_count (fCons (fVar 0) fNil)) (fgName 3))
  (fSeq (fAsg (fCall F_site_count (fCons (fVar 0) fNil)) (fgName 4))
  (fSeq (fOwn 5 (fLst fNil))
  (fSeq (fFor (fRng1 (fCons (fVar 1) fNil)) (fgName 6)
    (fSeq (fAsg (fCall F_numbers_in (fCons (fOp oShr (fVar 2) (fOp oMul (fVar 6) (fVar 3))) (fCons (fVar 3) fNil))) (fgName 7))
  (fSeq (fAsg (fCall F_numbers_in (fCons (fOp oShr (fVar 2) (fOp oAdd (fOp oMul (fVar 1) (fVar 3)) (fOp oMul (fVar 6) (fVar 4)))) (fCons (fVar 4) fNil))) (fgName 8))
  (fApp 5 (fTup (fCons (fVar 7) (fCons (fVar 8) fNil)))))))
  (fFz 5 (fRet (fVar 5)))))))
def F_story_of : Fn := runF 3 9 f_story_of
def f_is_row : MS := (fSeq (fAsg (fOp oEq (fOp oMod (fVar 1) (ret (.int 2))) (ret (.int 1))) (fgName 3))
  (fSeq (fAsg (fIf (fB (fVar 3)) (ret (.str "|#")) (ret (.str "o*"))) (fgName 4))
  (fSeq (fAsg (fIf (fB (fVar 3)) (ret (.str " ")) (ret (.str "-="))) (fgName 5))
  (fSeq (fIfS (fB (fOp oNe (fCB oLenS (fCons (fVar 0) fNil)) (fOp oSub (fOp oMul (ret (.int 2)) (fVar 2)) (fOp oMod (fVar 1) (ret (.int 2))))))
    (fRet (ret (.bool false))) fNext)
  (fRet (fAndV (fCB oAll (fCons (fN (fLc (fItS (fSlS3 (fVar 0) fNo fNo (fSo (ret (.int 2))))) (fgName 6) (ret true) (fOp oInC (fVar 6) (fVar 4)) [6])) fNil)) (fCB oAll (fCons (fN (fLc (fItS (fSlS3 (fVar 0) (fSo (ret (.int 1))) fNo (fSo (ret (.int 2))))) (fgName 6) (ret true) (fOp oInC (fVar 6) (fVar 5)) [6])) fNil))))))))
def F_is_row : Fn := runF 3 7 f_is_row
def f_require_rows : MS := (fSeq (fAsg (fOp oDiv (fCB oLenS (fCons (fOp oIxL (fVar 0) (ret (.int 0))) fNil)) (ret (.int 2))) (fgName 1))
  (fSeq (fIfS (fNot (fB (fChain oLe oLe (ret (.int 2)) (fVar 1) (ret (.int 5)))))
    fNever fNext)
  (fSeq (fFor (fEnumL (fVar 0)) (fgTup 2 (fgCons (fgName 2) (fgCons (fgName 3) fgNil)))
    (fIfS (fOr (fB (fOp oEq (fVar 2) (fOp oMul (ret (.int 2)) (ret (.int 5))))) (fNot (fB (fCall F_is_row (fCons (fVar 3) (fCons (fVar 2) (fCons (fVar 1) fNil)))))))
    fNever fNext))
  (fIfS (fOr (fB (fOp oEq (fOp oMod (fCB oLen (fCons (fVar 0) fNil)) (ret (.int 2))) (ret (.int 1)))) (fB (fOp oLt (fCB oLen (fCons (fVar 0) fNil)) (fOp oMul (ret (.int 2)) (ret (.int 2))))))
    fNever fNext))))
def F_require_rows : Fn := runF 1 4 f_require_rows
def f_drawn_flips : MS := (fSeq (fOwn 2 (fLst fNil))
  (fSeq (fFor (fRng1 (fCons (fCall F_site_count (fCons (fVar 0) fNil)) fNil)) (fgName 3)
    (fSeq (fAsg (fCB oDivmod (fCons (fVar 3) (fCons (fOp oIxT (fVar 0) (ret (.int 1))) fNil))) (fgTup 2 (fgCons (fgName 4) (fgCons (fgName 5) fgNil))))
  (fSeq (fIfS (fB (fOp oEq (fOp oIxS (fOp oIxL (fVar 1) (fOp oMul (ret (.int 2)) (fVar 4))) (fOp oAdd (fOp oMul (ret (.int 2)) (fVar 5)) (ret (.int 1)))) (fOp oIxS (ret (.str "-=")) (ret (.int 1)))))
    (fApp 2 (fOp oMul (ret (.int 2)) (fVar 3))) fNext)
  (fIfS (fB (fOp oEq (fOp oIxS (fOp oIxL (fVar 1) (fOp oAdd (fOp oMul (ret (.int 2)) (fVar 4)) (ret (.int 1)))) (fOp oMul (ret (.int 2)) (fVar 5))) (fOp oIxS (ret (.str "|#")) (ret (.int 1)))))
    (fApp 2 (fOp oAdd (fOp oMul (ret (.int 2)) (fVar 3)) (ret (.int 1)))) fNext))))
  (fFz 2 (fRet (fCB oTup (fCons (fVar 2) fNil))))))
def F_drawn_flips : Fn := runF 2 6 f_drawn_flips
def f_read : MS := (fSeq (fIfS (fNot (fB (fIsi "str" (fVar 0))))
    fNever fNext)
  (fSeq (fAsg (fN (fSplit (fVar 0) (ret (.str "\n")))) (fgName 1))
  (fSeq (fDrop (fCall F_require_rows (fCons (fVar 1) fNil)))
  (fSeq (fAsg (fTup (fCons (fOp oDiv (fCB oLen (fCons (fVar 1) fNil)) (ret (.int 2))) (fCons (fOp oDiv (fCB oLenS (fCons (fOp oIxL (fVar 1) (ret (.int 0))) fNil)) (ret (.int 2))) fNil))) (fgName 2))
  (fSeq (fAsg (fCall F_drawn_flips (fCons (fVar 2) (fCons (fVar 1) fNil))) (fgName 3))
  (fSeq (fFor (fEnumL (fN (fSplit (fCall F_written (fCons (fVar 2) (fCons (fVar 3) fNil))) (ret (.str "\n"))))) (fgTup 2 (fgCons (fgName 4) (fgCons (fgName 5) fgNil)))
    (fIfS (fB (fOp oNe (fVar 5) (fOp oIxL (fVar 1) (fVar 4))))
    fNever fNext))
  (fRet (fTup (fCons (fVar 2) (fCons (fVar 3) fNil))))))))))
def F_read : Fn := runF 1 6 f_read
def f__law_changed : MS := (fSeq (fPar [2, 3] (fCons (fCallR F__law_taken 0 (fCons (fOp oAdd (fCB oLenS (fCons (fVar 1) fNil)) (ret (.int 1))) fNil)) (fCons (fCallR F__law_taken 0 (fCons (ret (.int 5)) fNil)) fNil)))
  (fSeq (fIfS (fB (fOp oLt (fVar 3) (ret (.int 3))))
    (fSeq (fAsg (fOp oMul (fOp oIxS (ret (.str "o*-=|# \nx")) (fCallR F__law_taken 0 (fCons (ret (.int 9)) fNil))) (fCB oInt (fCons (fOp oLt (fVar 3) (ret (.int 2))) fNil))) (fgName 4))
  (fRet (fOp oCatS (fOp oCatS (fSlS (fVar 1) fNo (fSo (fVar 2))) (fVar 4)) (fSlS (fVar 1) (fSo (fOp oAdd (fVar 2) (fCB oInt (fCons (fOp oGt (fVar 3) (ret (.int 0))) fNil)))) fNo)))) fNext)
  (fSeq (fAsg (fN (fSplit (fVar 1) (ret (.str "\n")))) (fgName 5))
  (fSeq (fAsg (fCallR F__law_taken 0 (fCons (fCB oLen (fCons (fVar 5) fNil)) fNil)) (fgName 6))
  (fSeq (fAsg (fN (fOpN oRep (fN (fSlL (fVar 5) (fSo (fVar 6)) (fSo (fOp oAdd (fVar 6) (ret (.int 2)))))) (fOp oMul (ret (.int 2)) (fCallR F__law_taken 0 (fCons (ret (.int 2)) fNil))))) (fgName 7))
  (fRet (fM1 oJoin (ret (.str "\n")) (fN (fOpN oCat (fN (fOpN oCat (fN (fSlL (fVar 5) fNo (fSo (fVar 6)))) (fVar 7))) (fN (fSlL (fVar 5) (fSo (fOp oAdd (fOp oAdd (fVar 6) (ret (.int 1))) (fOp oMod (fVar 3) (ret (.int 2))))) fNo)))))))))))
def F__law_changed : Fr := runW 2 8 f__law_changed
def f__law_due : MS := (fSeq (fAsg (fN (fSplit (fVar 0) (ret (.str "\n")))) (fgName 1))
  (fSeq (fAsg (fOp oDiv (fCB oLen (fCons (fOp oIxL (fVar 1) (ret (.int 0))) fNil)) (ret (.int 2))) (fgName 2))
  (fSeq (fIfS (fNot (fB (fChain oLe oLe (ret (.int 2)) (fVar 2) (ret (.int 5)))))
    (fRet (fTup (fCons (ret (.str "text")) (fCons (ret (.int 0)) fNil)))) fNext)
  (fSeq (fFor (fRng1 (fCons (fCB oLen (fCons (fVar 1) fNil)) fNil)) (fgName 3)
    (fSeq (fAsg (fOp oSub (fOp oMul (ret (.int 2)) (fVar 2)) (fOp oMod (fVar 3) (ret (.int 2)))) (fgName 4))
  (fSeq (fAsg (fOp oIxL (fN (fLst (fCons (fN (fLst (fCons (ret (.str "o*")) (fCons (ret (.str "-=")) fNil)))) (fCons (fN (fLst (fCons (ret (.str "|#")) (fCons (ret (.str " ")) fNil)))) fNil)))) (fOp oMod (fVar 3) (ret (.int 2)))) (fgName 5))
  (fSeq (fIfS (fOr (fB (fOp oEq (fVar 3) (ret (.int 10)))) (fB (fOp oNe (fCB oLen (fCons (fOp oIxL (fVar 1) (fVar 3)) fNil)) (fVar 4))))
    (fRet (fTup (fCons (ret (.str "text")) (fCons (fVar 3) fNil)))) fNext)
  (fIfS (fB (fOp oNe (fN (fLc (fRng1 (fCons (fVar 4) fNil)) (fgName 6) (fB (fOp oNi (fOp oIxT (fOp oIxL (fVar 1) (fVar 3)) (fVar 6)) (fOp oIxT (fVar 5) (fOp oMod (fVar 6) (ret (.int 2)))))) (fVar 6) [6])) (fN (fLst fNil))))
    (fRet (fTup (fCons (ret (.str "text")) (fCons (fVar 3) fNil)))) fNext)))))
  (fSeq (fIfS (fOr (fB (fOp oLt (fCB oLen (fCons (fVar 1) fNil)) (ret (.int 4)))) (fB (fOp oEq (fOp oMod (fCB oLen (fCons (fVar 1) fNil)) (ret (.int 2))) (ret (.int 1)))))
    (fRet (fTup (fCons (ret (.str "text")) (fCons (fCB oLen (fCons (fVar 1) fNil)) fNil)))) fNext)
  (fSeq (fPar [7, 8] (fCons (fTup (fCons (fOp oDiv (fCB oLen (fCons (fVar 1) fNil)) (ret (.int 2))) (fCons (fVar 2) fNil))) (fCons (fN (fLst fNil)) fNil)))
  (fSeq (fFor (fRng1 (fCons (fOp oMul (fOp oIxT (fVar 7) (ret (.int 0))) (fVar 2)) fNil)) (fgName 9)
    (fSeq (fPar [10, 11] (fCons (fOp oDiv (fVar 9) (fVar 2)) (fCons (fOp oMod (fVar 9) (fVar 2)) fNil)))
  (fSeq (fPar [12, 13] (fCons (fOp oIxL (fVar 1) (fOp oMul (ret (.int 2)) (fVar 10))) (fCons (fOp oIxL (fVar 1) (fOp oAdd (fOp oMul (ret (.int 2)) (fVar 10)) (ret (.int 1)))) fNil)))
  (fSeq (fAsg (fN (fOpN oCat (fVar 8) (fN (fOpN oRep (fN (fLst (fCons (fOp oMul (ret (.int 2)) (fVar 9)) fNil))) (fCB oInt (fCons (fOp oEq (fOp oIxT (fVar 12) (fOp oAdd (fOp oMul (ret (.int 2)) (fVar 11)) (ret (.int 1)))) (ret (.str "="))) fNil)))))) (fgName 8))
  (fAsg (fN (fOpN oCat (fVar 8) (fN (fOpN oRep (fN (fLst (fCons (fOp oAdd (fOp oMul (ret (.int 2)) (fVar 9)) (ret (.int 1))) fNil))) (fCB oInt (fCons (fOp oEq (fOp oIxT (fVar 13) (fOp oMul (ret (.int 2)) (fVar 11))) (ret (.str "#"))) fNil)))))) (fgName 8))))))
  (fSeq (fAsg (fCall F__law_lit (fCons (fVar 7) (fCons (fVar 8) fNil))) (fgName 14))
  (fSeq (fFor (fRng1 (fCons (fOp oMul (fOp oIxT (fVar 7) (ret (.int 0))) (fVar 2)) fNil)) (fgName 9)
    (fSeq (fAsg (fOp oIxL (fVar 1) (fOp oMul (ret (.int 2)) (fOp oDiv (fVar 9) (fVar 2)))) (fgName 12))
  (fIfS (fB (fOp oNe (fOp oEq (fOp oIxT (fVar 12) (fOp oMul (ret (.int 2)) (fOp oMod (fVar 9) (fVar 2)))) (ret (.str "*"))) (fOp oIn (fVar 9) (fVar 14))))
    (fRet (fTup (fCons (ret (.str "text")) (fCons (fOp oMul (ret (.int 2)) (fOp oDiv (fVar 9) (fVar 2))) fNil)))) fNext)))
  (fRet (fTup (fCons (fVar 7) (fCons (fCB oTup (fCons (fVar 8) fNil)) fNil)))))))))))))
def F__law_due : Fn := runF 1 15 f__law_due
def f__law_kept (Frec : Fn) : MS := (fSeq (fIfS (fB (fIsi "list" (fVar 0)))
    (fRet (fN (fLc (fItO (fVar 0)) (fgName 1) (ret true) (fCall Frec (fCons (fVar 1) fNil)) [1]))) fNext)
  (fRet (fIf (fB (fIsi "tuple" (fVar 0))) (fCB oTup (fCons (fN (fLc (fItO (fVar 0)) (fgName 1) (ret true) (fCall Frec (fCons (fVar 1) fNil)) [1])) fNil)) (fVar 0))))
def R__law_kept : Nat → Fn
  | 0 => fun _ => none
  | i + 1 => runF 1 2 (f__law_kept (R__law_kept i))
def F__law_kept : Fn := R__law_kept 7
def f__law_moved : MS := (fSeq (fAsg (fN (fOpN oRep (fN (fLst (fCons (ret (.int 0)) fNil))) (fCB oLen (fCons (fVar 0) fNil)))) (fgName 2))
  (fSeq (fFor (fRng1 (fCons (fCB oLen (fCons (fVar 0) fNil)) fNil)) (fgName 3)
    (fSto 2 (fOp oIxT (fVar 1) (fVar 3)) (fOp oIxT (fVar 0) (fVar 3))))
  (fRet (fCB oTup (fCons (fVar 2) fNil)))))
def F__law_moved : Fn := runF 2 4 f__law_moved
def f__law_shifted : MS := (fSeq (fPar [4, 5] (fCons (fOp oDiv (fVar 1) (fOp oIxT (fVar 0) (ret (.int 1)))) (fCons (fOp oMod (fVar 1) (fOp oIxT (fVar 0) (ret (.int 1)))) fNil)))
  (fRet (fOp oAdd (fOp oMul (fOp oMod (fOp oAdd (fVar 4) (fVar 2)) (fOp oIxT (fVar 0) (ret (.int 0)))) (fOp oIxT (fVar 0) (ret (.int 1)))) (fOp oMod (fOp oAdd (fVar 5) (fVar 3)) (fOp oIxT (fVar 0) (ret (.int 1)))))))
def F__law_shifted : Fn := runF 4 6 f__law_shifted
def f__law_turned_over : MS := (fRet (fOp oAdd (fOp oMul (fOp oMod (fVar 1) (fOp oIxT (fVar 0) (ret (.int 1)))) (fOp oIxT (fVar 0) (ret (.int 0)))) (fOp oDiv (fVar 1) (fOp oIxT (fVar 0) (ret (.int 1))))))
def F__law_turned_over : Fn := runF 2 2 f__law_turned_over
def f__law_taken_2 : MS := (fSeq (fIfS (fB (fOp oGt (fRowI 0 3) (ret (.int 0))))
    (fSeq (fAsg (fOp oMod (fCB oInt (fCons (fRowI 0 3) fNil)) (fVar 1)) (fgName 2))
  (fSeq (fRowSet 0 3 (fOp oDiv (fRowI 0 3) (fVar 1)))
  (fRet (fVar 2)))) fNext)
  (fSeq (fRowSet 0 1 (fOp oAdd (fRowI 0 1) (ret (.int 1))))
  (fSeq (fIfS (fB (fOp oGt (fRowI 0 1) (fRowLen 0)))
    (fSeq (fRowSet 0 2 (fOp oMod (fCB oInt (fCons (fOp oAdd (fOp oMul (fRowI 0 2) (ret (.int 48271))) (ret (.int 11))) fNil)) (ret (.int 2147483647))))
  (fRet (fOp oMod (fCB oInt (fCons (fOp oDiv (fRowI 0 2) (ret (.int 7))) fNil)) (fVar 1)))) fNext)
  (fSeq (fAsg (fRowAt 0 (fOp oSub (fRowI 0 1) (ret (.int 1)))) (fgName 3))
  (fSeq (fRowSet 0 2 (fOp oMod (fCB oInt (fCons (fOp oAdd (fOp oAdd (fOp oMul (fRowI 0 2) (ret (.int 48271))) (fVar 3)) (ret (.int 11))) fNil)) (ret (.int 2147483647))))
  (fSeq (fIfS (fB (fOp oGe (fVar 3) (fOp oPow (ret (.int 10)) (ret (.int 18)))))
    (fRowSet 0 3 (fOp oDiv (fVar 3) (fVar 1))) fNext)
  (fRet (fOp oMod (fCB oInt (fCons (fVar 3) fNil)) (fVar 1)))))))))
def F__law_taken_2 : Fr := runW 2 4 f__law_taken_2
def f__law_board_2 : MS := (fRet (fTup (fCons (fOp oAdd (ret (.int 2)) (fCallR F__law_taken_2 0 (fCons (fOp oSub (fVar 1) (ret (.int 1))) fNil))) (fCons (fOp oAdd (ret (.int 2)) (fCallR F__law_taken_2 0 (fCons (fOp oSub (fVar 1) (ret (.int 1))) fNil))) fNil))))
def F__law_board_2 : Fr := runW 2 2 f__law_board_2
def f__law_some_2 : MS := (fSeq (fAsg (fN (fLst fNil)) (fgName 3))
  (fSeq (fFor (fRng1 (fCons (fCallR F__law_taken_2 0 (fCons (fOp oAdd (fCB oMin2 (fCons (fVar 1) (fCons (fVar 2) fNil))) (ret (.int 1))) fNil)) fNil)) (fgName 4)
    (fSeq (fAsg (fCallR F__law_taken_2 0 (fCons (fVar 1) fNil)) (fgName 5))
  (fAsg (fN (fOpN oCat (fVar 3) (fN (fOpN oRep (fN (fLst (fCons (fVar 5) fNil))) (fCB oInt (fCons (fOp oNi (fVar 5) (fVar 3)) fNil)))))) (fgName 3))))
  (fRet (fCB oTup (fCons (fN (fCBN oSorted (fCons (fVar 3) fNil))) fNil)))))
def F__law_some_2 : Fr := runW 3 6 f__law_some_2
def f__law_flips_2 : MS := (fSeq (fAsg (fOp oMul (fOp oIxT (fVar 1) (ret (.int 0))) (fOp oIxT (fVar 1) (ret (.int 1)))) (fgName 2))
  (fSeq (fAsg (fN (fCBN oListOf (fCons (fCallR F__law_some_2 0 (fCons (fOp oMul (ret (.int 2)) (fVar 2)) (fCons (fOp oIxL (fN (fLst (fCons (ret (.int 3)) (fCons (ret (.int 6)) (fCons (fOp oMul (ret (.int 2)) (fVar 2)) fNil))))) (fCallR F__law_taken_2 0 (fCons (ret (.int 3)) fNil))) fNil))) fNil))) (fgName 3))
  (fSeq (fIfS (fB (fOp oEq (fCallR F__law_taken_2 0 (fCons (ret (.int 4)) fNil)) (ret (.int 0))))
    (fSeq (fAsg (fCallR F__law_taken_2 0 (fCons (fOp oIxT (fVar 1) (ret (.int 0))) fNil)) (fgName 4))
  (fAsg (fN (fOpN oCat (fVar 3) (fN (fLc (fRng1 (fCons (fOp oIxT (fVar 1) (ret (.int 1))) fNil)) (fgName 5) (ret true) (fOp oMul (ret (.int 2)) (fOp oAdd (fOp oMul (fVar 4) (fOp oIxT (fVar 1) (ret (.int 1)))) (fVar 5))) [5])))) (fgName 3))) fNext)
  (fSeq (fIfS (fB (fOp oEq (fCallR F__law_taken_2 0 (fCons (ret (.int 4)) fNil)) (ret (.int 0))))
    (fSeq (fAsg (fCallR F__law_taken_2 0 (fCons (fOp oIxT (fVar 1) (ret (.int 1))) fNil)) (fgName 4))
  (fAsg (fN (fOpN oCat (fVar 3) (fN (fLc (fRng1 (fCons (fOp oIxT (fVar 1) (ret (.int 0))) fNil)) (fgName 5) (ret true) (fOp oAdd (fOp oMul (ret (.int 2)) (fOp oAdd (fOp oMul (fVar 5) (fOp oIxT (fVar 1) (ret (.int 1)))) (fVar 4))) (ret (.int 1))) [5])))) (fgName 3))) fNext)
  (fRet (fCB oTup (fCons (fN (fLc (fRng1 (fCons (fOp oMul (ret (.int 2)) (fVar 2)) fNil)) (fgName 6) (fB (fOp oEq (fOp oMod (fCountL (fVar 3) (fCons (fVar 6) fNil)) (ret (.int 2))) (ret (.int 1)))) (fVar 6) [6])) fNil)))))))
def F__law_flips_2 : Fr := runW 2 7 f__law_flips_2
def f__law_apart : MS := (fRet (fCB oTup (fCons (fN (fCBN oSorted (fCons (fN (fOpN oCat (fN (fLc (fItT (fVar 0)) (fgName 2) (fB (fOp oNi (fVar 2) (fVar 1))) (fVar 2) [2])) (fN (fLc (fItT (fVar 1)) (fgName 2) (fB (fOp oNi (fVar 2) (fVar 0))) (fVar 2) [2])))) fNil))) fNil)))
def F__law_apart : Fn := runF 2 3 f__law_apart
def f__law_side : MS := (fRet (fTup (fCons (fOp oMod (fCB oInt (fCons (fOp oAdd (fOp oIxT (fVar 0) (ret (.int 0))) (fOp oIxT (fVar 1) (ret (.int 0)))) fNil)) (ret (.int 2))) (fCons (fOp oMod (fCB oInt (fCons (fOp oAdd (fOp oIxT (fVar 0) (ret (.int 1))) (fOp oIxT (fVar 1) (ret (.int 1)))) fNil)) (ret (.int 2))) fNil))))
def F__law_side : Fn := runF 2 2 f__law_side
def f__law_is_led : MS := (fSeq (fAsg (fCallR F__law_flips_2 0 (fCons (fVar 1) fNil)) (fgName 3))
  (fSeq (fAsg (fCall F_led (fCons (fVar 1) (fCons (fVar 2) (fCons (fVar 3) fNil)))) (fgName 4))
  (fSeq (fAsg (fAndV (fOp oEq (fCall F_checks (fCons (fVar 1) (fCons (fVar 2) fNil))) (fCall F_checks (fCons (fVar 1) (fCons (fVar 3) fNil)))) (fOp oEq (fCall F_seams (fCons (fVar 1) (fCons (fVar 2) fNil))) (fCall F_seams (fCons (fVar 1) (fCons (fVar 3) fNil))))) (fgName 5))
  (fSeq (fIfS (fOr (fB (fOp oEq (fOp oIsN (fVar 4) (ret .none)) (fVar 5))) (fAnd (fB (fOp oNotN (fVar 4) (ret .none))) (fB (fOp oNe (fCall F_turned (fCons (fVar 1) (fCons (fVar 2) (fCons (fVar 4) fNil)))) (fVar 3)))))
    (fRet (ret (.bool false))) fNext)
  (fSeq (fAsg (fCallR F__law_taken_2 0 (fCons (fOp oIxT (fVar 1) (ret (.int 0))) fNil)) (fgName 6))
  (fSeq (fAsg (fCB oTup (fCons (fN (fLc (fRng1 (fCons (fOp oIxT (fVar 1) (ret (.int 1))) fNil)) (fgName 8) (ret true) (fOp oMul (ret (.int 2)) (fOp oAdd (fOp oMul (fVar 6) (fOp oIxT (fVar 1) (ret (.int 1)))) (fVar 8))) [8])) fNil)) (fgName 7))
  (fRet (fAndV (fOp oEq (fCall F_checks (fCons (fVar 1) (fCons (fVar 7) fNil))) (fTup fNil)) (fOp oIsN (fCall F_led (fCons (fVar 1) (fCons (fVar 2) (fCons (fCall F_after (fCons (fVar 1) (fCons (fVar 2) (fCons (fVar 7) fNil)))) fNil)))) (ret .none))))))))))
def F__law_is_led : Fr := runW 3 9 f__law_is_led
def f__law_site : MS := (fRet (fOp oAdd (fOp oMul (fOp oMod (fCB oInt (fCons (fVar 1) fNil)) (fOp oIxT (fVar 0) (ret (.int 1)))) (fOp oIxT (fVar 0) (ret (.int 0)))) (fOp oDiv (fVar 1) (fOp oIxT (fVar 0) (ret (.int 1))))))
def F__law_site : Fn := runF 2 2 f__law_site
def f__law_edges : MS := (fRet (fCB oTup (fCons (fN (fCBN oSorted (fCons (fN (fLc (fItT (fVar 1)) (fgName 2) (ret true) (fOp oSub (fOp oAdd (fOp oMul (ret (.int 2)) (fCall F__law_site (fCons (fVar 0) (fCons (fOp oDiv (fVar 2) (ret (.int 2))) fNil)))) (ret (.int 1))) (fOp oMod (fCB oInt (fCons (fVar 2) fNil)) (ret (.int 2)))) [2])) fNil))) fNil)))
def F__law_edges : Fn := runF 2 3 f__law_edges
def f__law_sites : MS := (fRet (fCB oTup (fCons (fN (fCBN oSorted (fCons (fN (fLc (fItT (fVar 1)) (fgName 2) (ret true) (fCall F__law_site (fCons (fVar 0) (fCons (fVar 2) fNil))) [2])) fNil))) fNil)))
def F__law_sites : Fn := runF 2 3 f__law_sites
def f__law_story : MS := (fSeq (fParDN 3 4 (fOp oMul (fOp oIxT (fVar 1) (ret (.int 0))) (fOp oIxT (fVar 1) (ret (.int 1)))) (fLst fNil))
  (fSeq (fFor (fRng1 (fCons (fVar 2) fNil)) (fgName 5)
    (fApp 4 (fTup (fCons (fCallR F__law_some_2 0 (fCons (fOp oMul (ret (.int 2)) (fVar 3)) (fCons (ret (.int 1)) fNil))) (fCons (fIf (fB (fOp oLt (fVar 5) (fOp oSub (fVar 2) (ret (.int 1))))) (fCallR F__law_some_2 0 (fCons (fVar 3) (fCons (ret (.int 1)) fNil))) (fTup fNil)) fNil)))))
  (fFz 4 (fRet (fVar 4)))))
def F__law_story : Fr := runW 3 6 f__law_story
def f__law_told : MS := (fSeq (fParND 2 3 (fLst fNil) (fTup fNil))
  (fSeq (fFor (fItL (fVar 1)) (fgTup 2 (fgCons (fgName 4) (fgCons (fgName 5) fgNil)))
    (fSeq (fAsg (fCall F_after (fCons (fVar 0) (fCons (fVar 3) (fCons (fVar 4) fNil)))) (fgName 3))
  (fApp 2 (fCall F__law_apart (fCons (fCall F_checks (fCons (fVar 0) (fCons (fVar 3) fNil))) (fCons (fVar 5) fNil))))))
  (fFz 2 (fRet (fCB oTup (fCons (fVar 2) fNil))))))
def F__law_told : Fn := runF 2 6 f__law_told
def f__law_events : MS := (fSeq (fAsg (fTup (fCons (ret (.int 0)) (fCons (fTup fNil) fNil))) (fgTup 2 (fgCons (fgName 1) (fgCons (fgName 2) fgNil))))
  (fSeq (fFor (fItT (fVar 0)) (fgName 3)
    (fPar [1, 2] (fCons (fOp oAdd (fVar 1) (fCB oLen (fCons (fCall F__law_apart (fCons (fVar 2) (fCons (fVar 3) fNil))) fNil))) (fCons (fVar 3) fNil))))
  (fRet (fVar 1))))
def F__law_events : Fn := runF 1 4 f__law_events
def f__law_rows : MS := (fSeq (fParND 2 3 (fLst fNil) (fCall F_checks (fCons (fVar 0) (fCons (fVar 1) fNil))))
  (fSeq (fFor (fRng1 (fCons (fOp oIxT (fVar 0) (ret (.int 0))) fNil)) (fgName 4)
    (fSeq (fAsg (fN (fListRg2 (fOp oMul (fVar 4) (fOp oIxT (fVar 0) (ret (.int 1)))) (fOp oAdd (fOp oMul (fVar 4) (fOp oIxT (fVar 0) (ret (.int 1)))) (fOp oIxT (fVar 0) (ret (.int 1)))))) (fgName 5))
  (fSeq (fApp 2 (fM1 oJoin (ret (.str "")) (fN (fLc (fItL (fVar 5)) (fgName 6) (ret true) (fOp oCatS (fOp oIxS (ret (.str "o*")) (fCB oInt (fCons (fOp oIn (fVar 6) (fVar 3)) fNil))) (fOp oIxS (ret (.str "-=")) (fCB oInt (fCons (fOp oIn (fOp oMul (ret (.int 2)) (fVar 6)) (fVar 1)) fNil)))) [6]))))
  (fApp 2 (fM1 oJoin (ret (.str " ")) (fN (fLc (fItL (fVar 5)) (fgName 6) (ret true) (fOp oIxS (ret (.str "|#")) (fCB oInt (fCons (fOp oIn (fOp oAdd (fOp oMul (ret (.int 2)) (fVar 6)) (ret (.int 1))) (fVar 1)) fNil))) [6])))))))
  (fFz 2 (fRet (fVar 2)))))
def F__law_rows : Fn := runF 2 7 f__law_rows
end Sb

/-! Seamboard: how functions are reckoned. -/
namespace Sb
open PySem PySem.Spec PyProof.Rows L2
section
variable {α β : Type} {s : Ss} {ρ ρ1 : Ro} {a b : MS} {g : ME α}
@[simp] theorem ret_at (x : α) : (ret x : ME α) s ρ = some (.ok x, ρ) := (rfl)
@[simp] theorem lft_at (x : α) : (lft (some x) : ME α) s ρ = some (.ok x, ρ) := (rfl)
theorem bnd_to {k : α → ME β} {x : α} (h : g s ρ = some (.ok x, ρ1)) : bnd g k s ρ = k x s ρ1 := by unfold bnd; rw [h]
theorem fOut_to {k : α → MS} {x : α} (h : g s ρ = some (.ok x, ρ1)) : fOut g k s ρ = k x s ρ1 := by unfold fOut; rw [h]
@[simp] theorem bnd_at (k : α → ME β) : bnd g k s ρ = match g s ρ with
  | none => none
  | some (.error x, ρ1) => some (.error x, ρ1)
  | some (.ok a, ρ1) => k a s ρ1 := (rfl)
@[simp] theorem fOut_at (k : α → MS) : fOut g k s ρ = match g s ρ with
  | none => none
  | some (.error x, ρ1) => some (.er x ρ1)
  | some (.ok a, ρ1) => k a s ρ1 := (rfl)
@[simp] theorem fVar_at (i : Nat) : fVar i s ρ = match s[i]? with
  | some (some (.d x)) => some (.ok x, ρ)
  | _ => none := (rfl)
@[simp] theorem fSeq_at : fSeq a b s ρ = match a s ρ with
  | some (.nx s1 ρ1) => b s1 ρ1
  | o => o := (rfl)
theorem fSeq_to {s1 : Ss} (h : a s ρ = some (.nx s1 ρ1)) : fSeq a b s ρ = b s1 ρ1 := by unfold fSeq; rw [h]
theorem fSeq_rt {d : Dt} (h : a s ρ = some (.rt d ρ1)) : fSeq a b s ρ = some (.rt d ρ1) := by unfold fSeq; rw [h]
theorem fSeq_ct {s1 : Ss} (h : a s ρ = some (.ct s1 ρ1)) : fSeq a b s ρ = some (.ct s1 ρ1) := by unfold fSeq; rw [h]
@[simp] theorem fgName_at (j : Nat) (d : Dt) : fgName j d s = some (s.set j (some (.d d))) := (rfl)
@[simp] theorem fgCons_at (f : FG) (fs : FGs) (d : Dt) (ds : List Dt) : fgCons f fs (d :: ds) s = match f d s with
  | some s1 => fs ds s1
  | none => none := (rfl)
@[simp] theorem fgNil_at : fgNil [] s = some s := (rfl)
@[simp] theorem fgTup_at (n : Nat) (fs : FGs) (ds : List Dt) : fgTup n fs (.tuple ds) s = if ds.length = n then fs ds s else none := (rfl)
@[simp] theorem forGo_nil (tg : FG) : forGo tg b [] s ρ = some (.nx s ρ) := (rfl)
theorem forGo_cons (tg : FG) (d : Dt) (ds : List Dt) : forGo tg b (d :: ds) s ρ = match tg d s with
  | none => none
  | some s1 => match b s1 ρ with
    | some (.nx s2 ρ2) => forGo tg b ds s2 ρ2
    | some (.ct s2 ρ2) => forGo tg b ds s2 ρ2
    | some (.bk s2 ρ2) => some (.nx s2 ρ2)
    | o => o := rfl
/-- a for whose turns go on, by its states -/
theorem forGo_to {tg : FG} {ds : List Dt} (Ss' : Nat → Ss) (Rs : Nat → Ro) (h0 : Ss' 0 = s) (r0 : Rs 0 = ρ) (hd : ∀ i d, ds[i]? = some d → ∃ s1, tg d (Ss' i) = some s1 ∧ (b s1 (Rs i) = some (.nx (Ss' (i + 1)) (Rs (i + 1))) ∨ b s1 (Rs i) = some (.ct (Ss' (i + 1)) (Rs (i + 1))))) :
    forGo tg b ds s ρ = some (.nx (Ss' ds.length) (Rs ds.length)) := by
  induction ds generalizing s ρ Ss' Rs with
  | nil => rw [forGo_nil, ← h0, ← r0]; rfl
  | cons d ds ih =>
    obtain ⟨s1, h1, h2⟩ := hd 0 d rfl
    rw [forGo_cons, ← h0, h1]
    have := ih (s := Ss' 1) (ρ := Rs 1) (fun i => Ss' (i + 1)) (fun i => Rs (i + 1)) rfl rfl fun i d h => hd (i + 1) d (by simpa using h)
    rw [← r0]
    rcases h2 with h2 | h2 <;> (simp only [h2]; rw [this]; rfl)
@[simp] theorem fOp_e (o : Dt → Dt → Option Dt) (x y : ME Dt) : fOp o x y s ρ = (bnd x fun u => bnd y fun v => lft (o u v)) s ρ := (rfl)
@[simp] theorem fUn_e (o : Dt → Option Dt) (x : ME Dt) : fUn o x s ρ = (bnd x fun u => lft (o u)) s ρ := (rfl)
@[simp] theorem fNil_e : fNil s ρ = some (.ok [], ρ) := (rfl)
@[simp] theorem fCons_e (x : ME Dt) (t : ME (List Dt)) : fCons x t s ρ = (bnd x fun u => bnd t fun us => ret (u :: us)) s ρ := (rfl)
@[simp] theorem fTup_e (t : ME (List Dt)) : fTup t s ρ = (bnd t fun ds => lft (if ds.length ≤ 100000 then some (.tuple ds) else none)) s ρ := (rfl)
@[simp] theorem fCB_e (o : List Dt → Option Dt) (t : ME (List Dt)) : fCB o t s ρ = (bnd t fun ds => lft (o ds)) s ρ := (rfl)
@[simp] theorem fB_e (x : ME Dt) : fB x s ρ = (bnd x fun u => lft (asB u)) s ρ := (rfl)
@[simp] theorem asB_b (b : Bool) : asB (.bool b) = some b := (rfl)
@[simp] theorem fNot_e (x : ME Bool) : fNot x s ρ = (bnd x fun b => ret (!b)) s ρ := (rfl)
@[simp] theorem fAnd_e (x y : ME Bool) : fAnd x y s ρ = (bnd x fun b => if b = true then y else ret false) s ρ := (rfl)
@[simp] theorem fOr_e (x y : ME Bool) : fOr x y s ρ = (bnd x fun b => if b = true then ret true else y) s ρ := (rfl)
@[simp] theorem fNotV_e (x : ME Dt) : fNotV x s ρ = (bnd x fun u => lft ((asB u).map fun b => .bool (!b))) s ρ := (rfl)
@[simp] theorem fIf_e (c : ME Bool) (x y : ME Dt) : fIf c x y s ρ = (bnd c fun b => if b = true then x else y) s ρ := (rfl)
@[simp] theorem fAndV_e (x y : ME Dt) : fAndV x y s ρ = (bnd x fun u => match u with
  | .bool true => y
  | .bool false => ret (.bool false)
  | _ => lft none) s ρ := (rfl)
@[simp] theorem fOrV_e (x y : ME Dt) : fOrV x y s ρ = (bnd x fun u => match u with
  | .bool true => ret (.bool true)
  | .bool false => y
  | _ => lft none) s ρ := (rfl)
@[simp] theorem fChain_e (o o' : Dt → Dt → Option Dt) (x y z : ME Dt) : fChain o o' x y z s ρ = (bnd x fun u => bnd y fun v => match o u v with
  | some (.bool true) => bnd z fun w => lft (o' v w)
  | some (.bool false) => ret (.bool false)
  | _ => lft none) s ρ := (rfl)
@[simp] theorem fN_e (x : ME (List Dt)) : fN x s ρ = (bnd x fun ds => ret (.list ds)) s ρ := (rfl)
@[simp] theorem fOpN_e (o : Dt → Dt → Option (List Dt)) (x y : ME Dt) : fOpN o x y s ρ = (bnd x fun u => bnd y fun v => lft (o u v)) s ρ := (rfl)
@[simp] theorem fCBN_e (o : List Dt → Option (List Dt)) (t : ME (List Dt)) : fCBN o t s ρ = (bnd t fun ds => lft (o ds)) s ρ := (rfl)
@[simp] theorem fLst_e (t : ME (List Dt)) : fLst t s ρ = (bnd t fun ds => lft (few ds)) s ρ := (rfl)
@[simp] theorem fItL_e (x : ME Dt) : fItL x s ρ = (bnd x fun u => lft (match u with
  | .list ds => some ds
  | _ => none)) s ρ := (rfl)
@[simp] theorem fItT_e (x : ME Dt) : fItT x s ρ = (bnd x fun u => lft (match u with
  | .tuple ds => some ds
  | _ => none)) s ρ := (rfl)
@[simp] theorem fItO_e (x : ME Dt) : fItO x s ρ = (bnd x fun u => lft (seqD u)) s ρ := (rfl)
@[simp] theorem seqD_t (ds : List Dt) : seqD (.tuple ds) = some ds := (rfl)
@[simp] theorem seqD_l (ds : List Dt) : seqD (.list ds) = some ds := (rfl)
@[simp] theorem fRng1_e (t : ME (List Dt)) : fRng1 t s ρ = (bnd t fun ds => lft (oRng1 ds)) s ρ := (rfl)
@[simp] theorem fRng2_e (t : ME (List Dt)) : fRng2 t s ρ = (bnd t fun ds => lft (oRng2 ds)) s ρ := (rfl)
@[simp] theorem fRng3_e (t : ME (List Dt)) : fRng3 t s ρ = (bnd t fun ds => lft (oRng3 ds)) s ρ := (rfl)
@[simp] theorem fEnumL_e (x : ME Dt) : fEnumL x s ρ = (bnd x fun u => lft (match u with
  | .list ds => some (pairsFrom 0 ds)
  | _ => none)) s ρ := (rfl)
@[simp] theorem fEnumT_e (x : ME Dt) : fEnumT x s ρ = (bnd x fun u => lft (match u with
  | .tuple ds => some (pairsFrom 0 ds)
  | _ => none)) s ρ := (rfl)
@[simp] theorem fRet_e (x : ME Dt) : fRet x s ρ = (fOut x fun d _ ρ => some (.rt d ρ)) s ρ := (rfl)
@[simp] theorem fRetN_at : fRetN s ρ = some (.rt .none ρ) := (rfl)
@[simp] theorem fIfS_e (c : ME Bool) : fIfS c a b s ρ = (fOut c fun x => if x = true then a else b) s ρ := (rfl)
@[simp] theorem fAsg_e (x : ME Dt) (tg : FG) : fAsg x tg s ρ = (fOut x fun d s ρ => match tg d s with
  | some s1 => some (.nx s1 ρ)
  | none => none) s ρ := (rfl)
@[simp] theorem fFor_e (i : ME (List Dt)) (tg : FG) : fFor i tg b s ρ = (fOut i fun ds => forGo tg b ds) s ρ := (rfl)
@[simp] theorem fDrop_e (x : ME Dt) : fDrop x s ρ = (fOut x fun _ s ρ => some (.nx s ρ)) s ρ := (rfl)
@[simp] theorem fNext_at : fNext s ρ = some (.nx s ρ) := (rfl)
@[simp] theorem fCont_at : fCont s ρ = some (.ct s ρ) := (rfl)
@[simp] theorem fBreak_at : fBreak s ρ = some (.bk s ρ) := (rfl)
@[simp] theorem fPar_e (is : List Nat) (t : ME (List Dt)) : fPar is t s ρ = (fOut t fun ds s ρ => match setAll is ds s with
  | some s1 => some (.nx s1 ρ)
  | none => none) s ρ := (rfl)
@[simp] theorem setAll_n : setAll [] [] s = some s := (rfl)
@[simp] theorem setAll_c (i : Nat) (is : List Nat) (d : Dt) (ds : List Dt) : setAll (i :: is) (d :: ds) s = setAll is ds (s.set i (some (.d d))) := (rfl)
@[simp] theorem fCall_at (F : Fn) (t : ME (List Dt)) : fCall F t s ρ = (bnd t fun ds s ρ => match F ds with
  | none => none
  | some r => some (r, ρ)) s ρ := (rfl)
@[simp] theorem fIsi_e (n : String) (x : ME Dt) : fIsi n x s ρ = (bnd x fun u => lft (kitO n u)) s ρ := (rfl)
@[simp] theorem fIsiTL_e (x : ME Dt) : fIsiTL x s ρ = (bnd x fun u => ret (.bool (kTL u))) s ρ := (rfl)
@[simp] theorem runF_at (np n : Nat) (ds : List Dt) : runF np n b ds = if ds.length = np then outF (b (argS n ds) none) else none := (rfl)
@[simp] theorem outF_rt (d : Dt) : outF (some (.rt d ρ)) = some (.ok d) := (rfl)
@[simp] theorem outF_nx : outF (some (.nx s ρ)) = some (.ok .none) := (rfl)
@[simp] theorem argS_e (n : Nat) (ds : List Dt) : argS n ds = ds.map (fun d => some (Wv.d d)) ++ List.replicate (n - ds.length) none := (rfl)
@[simp] theorem oI_i (f : Int → Int → Int) (i j : Int) : oI f (.int i) (.int j) = some (.int (f i j)) := (rfl)
@[simp] theorem oB_i (f : Int → Int → Bool) (i j : Int) : oB f (.int i) (.int j) = some (.bool (f i j)) := (rfl)
theorem oMul_i {i j : Int} (h : -1000000000000 ≤ i ∧ i ≤ 1000000000000 ∨ -1000000000000 ≤ j ∧ j ≤ 1000000000000) : oIC cMul (fun i j => i * j) (.int i) (.int j) = some (.int (i * j)) := by
  show (if cMul i j = true then _ else _) = _
  rw [if_pos]
  unfold cMul
  simpa using h
theorem oMod_i {i j : Int} (h : 0 < j) : oIC cPos (fun i j => i % j) (.int i) (.int j) = some (.int (i % j)) := if_pos (decide_eq_true h)
theorem oDiv_i {i j : Int} (h : 0 < j ∧ j < 1073741824) : oIC cDiv (fun i j => i / j) (.int i) (.int j) = some (.int (i / j)) := if_pos (decide_eq_true h)
theorem oShr_i {i j : Int} (h : 0 ≤ j) : oIC cNn (fun i j => i / 2 ^ j.toNat) (.int i) (.int j) = some (.int (i / 2 ^ j.toNat)) := if_pos (decide_eq_true h)
theorem atI_in {α : Type} {xs : List α} {i : Int} {v : α} (h0 : 0 ≤ i) (h : xs[i.toNat]? = some v) : atI xs i = some v := at_nn h0 h
@[simp] theorem atI_0 {α : Type} (x : α) (xs : List α) : atI (x :: xs) 0 = some x := atI_in (by decide) rfl
@[simp] theorem atI_1 {α : Type} (x y : α) (xs : List α) : atI (x :: y :: xs) 1 = some y := atI_in (by decide) rfl
@[simp] theorem atI_2 {α : Type} (x y z : α) (xs : List α) : atI (x :: y :: z :: xs) 2 = some z := atI_in (by decide) rfl
@[simp] theorem atI_3 {α : Type} (x y z u : α) (xs : List α) : atI (x :: y :: z :: u :: xs) 3 = some u := atI_in (by decide) rfl
@[simp] theorem oIxT_e (ds : List Dt) (i : Int) : oIxT (.tuple ds) (.int i) = atI ds i := (rfl)
@[simp] theorem oIxL_e (ds : List Dt) (i : Int) : oIxL (.list ds) (.int i) = atI ds i := (rfl)
@[simp] theorem oLen_t (ds : List Dt) : oLen [.tuple ds] = some (.int ds.length) := (rfl)
@[simp] theorem oLen_l (ds : List Dt) : oLen [.list ds] = some (.int ds.length) := (rfl)
@[simp] theorem oTup_l (ds : List Dt) : oTup [.list ds] = some (.tuple ds) := (rfl)
@[simp] theorem oTup_t (ds : List Dt) : oTup [.tuple ds] = some (.tuple ds) := (rfl)
@[simp] theorem oInt_i (i : Int) : oInt [.int i] = some (.int i) := (rfl)
@[simp] theorem oInt_b (b : Bool) : oInt [.bool b] = some (.int (if b then 1 else 0)) := (rfl)
@[simp] theorem oIsN_e (x : Dt) : oIsN x .none = some (.bool (isNo x)) := (rfl)
@[simp] theorem oNotN_e (x : Dt) : oNotN x .none = some (.bool (!isNo x)) := (rfl)
theorem oEq_e {x y : Dt} (h : (SeqAt.shaped x && SeqAt.shaped y) = true) : oEq x y = some (.bool (PyData.eqv x y)) := if_pos h
theorem oNe_e {x y : Dt} (h : (SeqAt.shaped x && SeqAt.shaped y) = true) : oNe x y = some (.bool (!PyData.eqv x y)) := if_pos h
@[simp] theorem oEq_i (i j : Int) : oEq (.int i) (.int j) = some (.bool (decide (i = j))) := (oEq_e rfl).trans (by rw [eqv_int])
@[simp] theorem oNe_i (i j : Int) : oNe (.int i) (.int j) = some (.bool (!decide (i = j))) := (oNe_e rfl).trans (by rw [eqv_int])
@[simp] theorem fStar_e (x : ME Dt) (t : ME (List Dt)) : fStar x t s ρ = (bnd x fun u => match seqD u with
  | some ds => bnd t fun us => ret (ds ++ us)
  | none => lft none) s ρ := (rfl)
@[simp] theorem fOwn_e (i : Nat) (x : ME (List Dt)) : fOwn i x s ρ = (fOut x fun ds s ρ => some (.nx (s.set i (some (.o (.l ds)))) ρ)) s ρ := (rfl)
@[simp] theorem fFz_at (i : Nat) : fFz i b s ρ = match s[i]? with
  | some (some (.o (.l xs))) => b (s.set i (some (.d (.list xs)))) ρ
  | some (some (.o (.ll xss))) => b (s.set i (some (.d (.list (xss.map .list))))) ρ
  | some (some (.d _)) => b s ρ
  | _ => none := (rfl)
theorem few_e {ds : List Dt} (h : ds.length ≤ 100000) : few ds = some ds := if_pos h
theorem oCat_e {x y : List Dt} (h : x.length + y.length ≤ 100000) : oCat (.list x) (.list y) = some (x ++ y) := few_e (by rw [List.length_append]; exact h)
theorem oCatT_e {x y : List Dt} (h : x.length + y.length ≤ 100000) : oCatT (.tuple x) (.tuple y) = some (.tuple (x ++ y)) := if_pos h
theorem oRep_e {x : List Dt} {k : Int} (h : -1000 ≤ k ∧ k ≤ 1000 ∧ x.length ≤ 100) : oRep (.list x) (.int k) = some (List.replicate k.toNat x).flatten := if_pos h
theorem oRng1_e {j : Int} (h : -1000000 ≤ j ∧ j ≤ 1000000) : oRng1 [.int j] = some (upto 0 j.toNat) := if_pos h
theorem oRng2_e {i j : Int} (h : (-1000000 ≤ i ∧ i ≤ 1000000) ∧ -1000000 ≤ j ∧ j ≤ 1000000) : oRng2 [.int i, .int j] = some (upto i (j - i).toNat) := if_pos h
@[simp] theorem lcGo_nil (tg : FG) (t : ME Bool) (e : ME Dt) : lcGo tg t e s [] ρ = some ([], ρ) := (rfl)
/-- a comprehension that draws nothing -/
theorem lcGo_to {tg : FG} {t : ME Bool} {e : ME Dt} (p : Dt → Bool) (q : Dt → Dt) : ∀ {ds : List Dt}, (∀ d ∈ ds, ∃ s1, tg d s = some s1 ∧ t s1 ρ = some (.ok (p d), ρ) ∧ (p d = true → e s1 ρ = some (.ok (q d), ρ))) → lcGo tg t e s ds ρ = some ((ds.filter p).map q, ρ)
  | [], _ => rfl
  | d :: ds, h => by
    obtain ⟨s1, h1, h2, h3⟩ := h d List.mem_cons_self
    have ih := lcGo_to p q (ds := ds) fun d hd => h d (List.mem_cons_of_mem _ hd)
    unfold lcGo
    rw [h1]
    simp only [h2]
    cases hp : p d with
    | true => simp only [h3 hp, ih, List.filter_cons, hp, if_true, List.map_cons]
    | false => simp only [ih, List.filter_cons, hp]; rfl
theorem lcGo_map {tg : FG} {e : ME Dt} (q : Dt → Dt) {ds : List Dt} (h : ∀ d ∈ ds, ∃ s1, tg d s = some s1 ∧ e s1 ρ = some (.ok (q d), ρ)) : lcGo tg (ret true) e s ds ρ = some (ds.map q, ρ) := by
  have := lcGo_to (t := ret true) (s := s) (ρ := ρ) (tg := tg) (e := e) (fun _ => true) q (ds := ds) fun d hd => by
    obtain ⟨s1, h1, h2⟩ := h d hd
    exact ⟨s1, h1, rfl, fun _ => h2⟩
  rw [this, List.filter_eq_self.mpr fun _ _ => rfl]
theorem fLc_to {i : ME (List Dt)} {tg : FG} {t : ME Bool} {e : ME Dt} {vs : List Nat} {ds xs : List Dt} {ρ2 : Ro} (h : i s ρ = some (.ok ds, ρ1)) (hl : ds.length ≤ 50000) (h2 : lcGo tg t e (wipeS s vs) ds ρ1 = some (xs, ρ2)) : fLc i tg t e vs s ρ = some (.ok xs, ρ2) := by
  unfold fLc
  rw [bnd_to h, if_pos hl, h2]
/-- two clauses that draw nothing -/
theorem lc2Go_to {tg tg1 : FG} {i1 : ME (List Dt)} {e : ME Dt} {vs1 : List Nat} (es : Dt → List Dt) (q : Dt → Dt → Dt) : ∀ {ds : List Dt}, (∀ d ∈ ds, ∃ s1, tg d s = some s1 ∧ i1 s1 ρ = some (.ok (es d), ρ) ∧ lcGo tg1 (ret true) e (wipeS s1 vs1) (es d) ρ = some ((es d).map (q d), ρ)) →
    lc2Go tg (ret true) i1 tg1 (ret true) e vs1 s ds ρ = some (ds.flatMap fun d => (es d).map (q d), ρ)
  | [], _ => rfl
  | d :: ds, h => by
    obtain ⟨s1, h1, h2, h3⟩ := h d List.mem_cons_self
    have ih := lc2Go_to es q (ds := ds) fun d hd => h d (List.mem_cons_of_mem _ hd)
    unfold lc2Go
    rw [h1]
    simp only [ret_at, h2, h3, ih, List.flatMap_cons]
theorem fLc2_to {i : ME (List Dt)} {tg tg1 : FG} {t t1 : ME Bool} {i1 : ME (List Dt)} {e : ME Dt} {vs vs1 : List Nat} {ds xs : List Dt} {ρ2 : Ro} (h : i s ρ = some (.ok ds, ρ1)) (h2 : lc2Go tg t i1 tg1 t1 e vs1 (wipeS s vs) ds ρ1 = some (xs, ρ2)) (hl : xs.length ≤ 50000) : fLc2 i tg t i1 tg1 t1 e vs vs1 s ρ = some (.ok xs, ρ2) := by
  unfold fLc2
  rw [bnd_to h]
  simp only [h2, if_pos hl]
end
end Sb

/-! Seamboard: numbers, boards, parities (mathematics). -/
namespace Sb
open PySem PySem.Spec PyProof.Rows L2
def isI : Dt → Bool
  | .int _ => true
  | _ => false
def kI : Dt → Bool
  | .int _ => true
  | .bool _ => true
  | _ => false
def kB : Dt → Bool
  | .bool _ => true
  | _ => false
def kT : Dt → Bool
  | .tuple _ => true
  | _ => false
theorem kit_I : ∀ x : Dt, kitB (tyN x) "int" = some (kI x)
  | .none => (by decide +kernel : kitB "NoneType" "int" = some false)
  | .bool _ => (by decide +kernel : kitB "bool" "int" = some true)
  | .int _ => (by decide +kernel : kitB "int" "int" = some true)
  | .str _ => (by decide +kernel : kitB "str" "int" = some false)
  | .list _ => (by decide +kernel : kitB "list" "int" = some false)
  | .tuple _ => (by decide +kernel : kitB "tuple" "int" = some false)
  | .dict _ => (by decide +kernel : kitB "dict" "int" = some false)
theorem kit_B : ∀ x : Dt, kitB (tyN x) "bool" = some (kB x)
  | .none => (by decide +kernel : kitB "NoneType" "bool" = some false)
  | .bool _ => (by decide +kernel : kitB "bool" "bool" = some true)
  | .int _ => (by decide +kernel : kitB "int" "bool" = some false)
  | .str _ => (by decide +kernel : kitB "str" "bool" = some false)
  | .list _ => (by decide +kernel : kitB "list" "bool" = some false)
  | .tuple _ => (by decide +kernel : kitB "tuple" "bool" = some false)
  | .dict _ => (by decide +kernel : kitB "dict" "bool" = some false)
theorem kit_T : ∀ x : Dt, kitB (tyN x) "tuple" = some (kT x)
  | .none => (by decide +kernel : kitB "NoneType" "tuple" = some false)
  | .bool _ => (by decide +kernel : kitB "bool" "tuple" = some false)
  | .int _ => (by decide +kernel : kitB "int" "tuple" = some false)
  | .str _ => (by decide +kernel : kitB "str" "tuple" = some false)
  | .list _ => (by decide +kernel : kitB "list" "tuple" = some false)
  | .tuple _ => (by decide +kernel : kitB "tuple" "tuple" = some true)
  | .dict _ => (by decide +kernel : kitB "dict" "tuple" = some false)
def sideB : Dt → Bool
  | .int i => decide (2 ≤ i) && decide (i ≤ 5)
  | _ => false
/-! ### rising -/
def Rise (n : Int) (l : List Int) : Prop := l.Pairwise (· < ·) ∧ ∀ x ∈ l, 0 ≤ x ∧ x < n
theorem rise_sel (n : Nat) (f : Nat → Bool) : Rise (n : Int) (sel n f) := ⟨sel_rise n f, fun x hx => by
  obtain ⟨k, rfl, h, _⟩ := mem_sel.mp hx
  omega⟩
def low (l : List Int) : Nat → Int
  | 0 => 0
  | i + 1 => l.getD i 0 + 1
theorem low_le {n : Int} {l : List Int} (h : Rise n l) {i : Nat} {x : Int} (hx : l[i]? = some x) : low l i ≤ x := by
  cases i with
  | zero => exact (h.2 x (List.mem_of_getElem? hx)).1
  | succ i =>
    obtain ⟨hi, e⟩ := List.getElem?_eq_some_iff.mp hx
    have h1 := List.pairwise_iff_getElem.mp h.1 i (i + 1) (by omega) hi (by omega)
    show l.getD i 0 + 1 ≤ x
    rw [List.getD_eq_getElem?_getD, List.getElem?_eq_getElem (show i < l.length by omega)]
    show l[i] + 1 ≤ x
    omega
def rightI (c s : Int) : Int := s - s % c + (s + 1) % c
def belowI (r c s : Int) : Int := (s + c) % (r * c)
def endB (r c e : Int) : Int := if e % 2 = 1 then belowI r c (e / 2) else rightI c (e / 2)
def crA (r c e : Int) : Bool := !(decide (e % 2 = 1)) && decide (e / 2 % c = c - 1)
def crB (r c e : Int) : Bool := decide (e % 2 = 1) && decide (e / 2 / c = r - 1)
def cnt (n : Nat) (l : List Int) : List Int := (List.range n).map fun (k : Nat) => ((l.count (k : Int) : Nat) : Int)
theorem cnt_len (n : Nat) (l : List Int) : (cnt n l).length = n := by unfold cnt; rw [List.length_map, List.length_range]
theorem cnt_get {n k : Nat} (l : List Int) (h : k < n) : (cnt n l)[k]? = some ((l.count (k : Int) : Nat) : Int) := by
  unfold cnt; rw [List.getElem?_map, List.getElem?_range h]; rfl
theorem cnt_nil (n : Nat) : cnt n [] = List.replicate n 0 := by
  unfold cnt
  apply List.ext_getElem?
  intro i
  rw [List.getElem?_map, List.getElem?_replicate]
  by_cases h : i < n
  · rw [List.getElem?_range h, if_pos h]; rfl
  · rw [if_neg h, List.getElem?_eq_none (by rw [List.length_range]; omega)]; rfl
theorem cnt_snoc {n k : Nat} (l : List Int) (h : k < n) : cnt n (l ++ [(k : Int)]) = (cnt n l).set k (((l.count (k : Int) : Nat) : Int) + 1) := by
  apply List.ext_getElem?
  intro i
  rw [List.getElem?_set, cnt_len]
  by_cases hi : i < n
  · rw [cnt_get _ hi, List.count_append]
    by_cases e : k = i
    · subst e
      rw [if_pos rfl, if_pos h, List.count_singleton_self]
      rfl
    · rw [if_neg e, cnt_get _ hi, List.count_singleton]
      have : ((k : Int) == (i : Int)) = false := by
        rw [beq_eq_false_iff_ne]; omega
      rw [this]
      rfl
  · rw [List.getElem?_eq_none (by rw [cnt_len]; omega)]
    by_cases e : k = i
    · subst e; exact absurd h hi
    · rw [if_neg e, List.getElem?_eq_none (by rw [cnt_len]; omega)]
def pOdd : Dt → Bool
  | .tuple [_, .int c] => decide (c % 2 = 1)
  | _ => false
def qFst : Dt → Dt
  | .tuple [a, _] => a
  | _ => .none
theorem pairs_range (g : Nat → Dt) : ∀ (n k : Nat), pairsFrom k ((List.range' k n).map g) = (List.range' k n).map fun j => .tuple [.int (j : Nat), g j]
  | 0, _ => rfl
  | n + 1, k => by
    rw [List.range'_succ, List.map_cons, List.map_cons]
    show _ :: pairsFrom (k + 1) _ = _
    rw [pairs_range g n (k + 1)]
theorem odd_end (n : Nat) (l : List Int) : ((pairsFrom 0 ((cnt n l).map .int)).filter pOdd).map qFst = (sel n fun k => decide (l.count (k : Int) % 2 = 1)).map .int := by
  have e : (cnt n l).map PyData.int = (List.range' 0 n).map fun (k : Nat) => PyData.int ((l.count (k : Int) : Nat) : Int) := by
    unfold cnt
    rw [List.map_map, ← List.range_eq_range']
    rfl
  rw [e, pairs_range, List.filter_map, List.map_map, ← List.range_eq_range']
  unfold sel
  rw [List.map_map]
  have e2 : (pOdd ∘ fun (j : Nat) => PyData.tuple [.int (j : Int), .int ((l.count (j : Int) : Nat) : Int)]) = fun (k : Nat) => decide (l.count (k : Int) % 2 = 1) := by
    funext k
    show decide ((((l.count (k : Int) : Nat) : Int)) % 2 = 1) = _
    apply decide_eq_decide.mpr
    omega
  rw [e2]
  rfl
theorem pairs_mem : ∀ {ds : List Dt} {k : Nat} {d : Dt}, d ∈ pairsFrom k ds → ∃ (j : Nat) (x : Dt), d = .tuple [.int (j : Nat), x] ∧ x ∈ ds
  | [], _, _, h => by cases h
  | x :: ds, k, d, h => by
    rcases List.mem_cons.mp h with e | h
    · exact ⟨k, x, e, List.mem_cons_self⟩
    · obtain ⟨j, y, e, hy⟩ := pairs_mem h
      exact ⟨j, y, e, List.mem_cons_of_mem _ hy⟩
theorem endB_in {r c e : Int} (h1 : 2 ≤ r) (h2 : r ≤ 5) (h3 : 2 ≤ c) (h4 : c ≤ 5) (h : 0 ≤ e ∧ e < 2 * (r * c)) : 0 ≤ endB r c e ∧ endB r c e < r * c := by
  unfold endB
  have hp : 0 < r * c := Int.mul_pos (by omega) (by omega)
  split
  · unfold belowI
    exact ⟨Int.emod_nonneg _ (by omega), Int.emod_lt_of_pos _ hp⟩
  · unfold rightI
    have hs : 0 ≤ e / 2 ∧ e / 2 < r * c := by omega
    generalize e / 2 = s at hs
    have a1 := Int.emod_nonneg s (show c ≠ 0 by omega)
    have a2 := Int.emod_lt_of_pos s (show 0 < c by omega)
    have a3 := Int.emod_nonneg (s + 1) (show c ≠ 0 by omega)
    have a4 := Int.emod_lt_of_pos (s + 1) (show 0 < c by omega)
    have e1 : s = c * (s / c) + s % c := (Int.mul_ediv_add_emod s c).symm
    have q0 : 0 ≤ s / c := Int.ediv_nonneg hs.1 (by omega)
    have q1 : s / c < r := Int.ediv_lt_of_lt_mul (by omega) (by rw [Int.mul_comm] at hs; rw [Int.mul_comm]; exact hs.2)
    have q2 : c * (s / c) + c ≤ r * c := by
      have := Int.mul_le_mul_of_nonneg_left (show s / c + 1 ≤ r by omega) (show 0 ≤ c by omega)
      rw [Int.mul_add, Int.mul_one, Int.mul_comm c r] at this
      exact this
    have q3 : 0 ≤ c * (s / c) := Int.mul_nonneg (by omega) q0
    omega
def endsL (r c : Int) (l : List Int) : List Int := l.flatMap fun e => [e / 2, endB r c e]
def litF (r c : Int) (l : List Int) (k : Nat) : Bool := decide ((endsL r c l).count (k : Int) % 2 = 1)
def Brd (r c : Nat) : Prop := 2 ≤ r ∧ r ≤ 5 ∧ 2 ≤ c ∧ c ≤ 5
theorem rise_len {n : Nat} {l : List Int} (h : Rise (n : Int) l) : l.length ≤ n := by
  rw [sel_of h.1 h.2]
  exact sel_len _ _
def cp (k : Int) (l : List Int) : Bool := decide (l.count k % 2 = 1)
end Sb

/-! Seamboard: the boards' functions. -/
namespace Sb
open PySem PySem.Spec PyProof.Rows L2
theorem v_is_whole (x : Dt) : F_is_whole [x] = some (.ok (.bool (isI x))) := by
  cases x <;> simp [F_is_whole, f_is_whole, kitO, kit_I, kit_B, kI, kB, isI]
theorem v_is_side (x : Dt) : F_is_side [x] = some (.ok (.bool (sideB x))) := by
  cases x <;> simp [F_is_side, f_is_side, v_is_whole, isI, sideB]
  rename_i i
  by_cases h : 2 ≤ i <;> simp [h]
theorem v_require_board {r c : Nat} (hB : Brd r c) : F_require_board [bd r c] = some (.ok .none) := by
  obtain ⟨h1, h2, h3, h4⟩ := hB
  have e1 : decide ((2 : Int) ≤ (r : Int)) = true := decide_eq_true (by omega)
  have e2 : decide ((r : Int) ≤ 5) = true := decide_eq_true (by omega)
  have e3 : decide ((2 : Int) ≤ (c : Int)) = true := decide_eq_true (by omega)
  have e4 : decide ((c : Int) ≤ 5) = true := decide_eq_true (by omega)
  simp only [F_require_board, f_require_board, kitO, kit_T, kT, v_is_side, sideB, e1, e2, e3, e4] 
  simp [kitO, kit_T, kT, v_is_side, sideB, e1, e2, e3, e4]
theorem v_site_count {r c : Nat} (hB : Brd r c) : F_site_count [bd r c] = some (.ok (.int (r * c))) := by
  obtain ⟨h1, h2, h3, h4⟩ := hB
  simp [F_site_count, f_site_count, oMul_i (i := (r : Int)) (j := c) (by omega)]
theorem v_edge_count {r c : Nat} (hB : Brd r c) : F_edge_count [bd r c] = some (.ok (.int (2 * (r * c)))) := by
  simp [F_edge_count, f_edge_count, v_site_count hB, oMul_i]
theorem low_succ (x : Int) (l : List Int) (i : Nat) : low (x :: l) (i + 2) = low l (i + 1) := rfl
theorem v_first_misplaced {l : List Int} {n : Int} (h : Rise n l) : F_first_misplaced [ti l, .int n] = some (.ok .none) := by
  have key : ∀ (l2 : List Int) (k : Nat) (lo : Int) (x3 x4 : Option Wv), (∀ x ∈ l2, lo ≤ x) → l2.Pairwise (· < ·) → (∀ x ∈ l2, x < n) →
      ∃ s2, forGo (fgTup 2 (fgCons (fgName 3) (fgCons (fgName 4) fgNil))) (fSeq (fIfS (fOr (fNot (fB (fCall F_is_whole (fCons (fVar 4) fNil)))) (fOr (fB (fOp oLt (fVar 4) (fVar 2))) (fB (fOp oGe (fVar 4) (fVar 1)))))
        (fRet (fVar 3)) fNext) (fAsg (fOp oAdd (fVar 4) (ret (.int 1))) (fgName 2))) (pairsFrom k (l2.map .int)) [some (.d (ti l)), some (.d (.int n)), some (.d (.int lo)), x3, x4] none = some (.nx s2 none) := by
    intro l2
    induction l2 with
    | nil => intro k lo x3 x4 _ _ _; exact ⟨_, rfl⟩
    | cons x l2 ih =>
      intro k lo x3 x4 h1 h2 h3
      have hx := h1 x List.mem_cons_self
      have hn := h3 x List.mem_cons_self
      obtain ⟨hp, h2'⟩ := List.pairwise_cons.mp h2
      obtain ⟨s2, hs⟩ := ih (k + 1) (x + 1) (some (.d (.int k))) (some (.d (.int x))) (fun y hy => hp y hy) h2' (fun y hy => h3 y (List.mem_cons_of_mem _ hy))
      refine ⟨s2, ?_⟩
      rw [List.map_cons, pairsFrom, forGo_cons]
      simp [v_is_whole, isI, show ¬ x < lo by omega, show ¬ n ≤ x by omega]
      exact hs
  obtain ⟨s2, hs⟩ := key l 0 0 none none (fun x hx => (h.2 x hx).1) h.1 (fun x hx => (h.2 x hx).2)
  simp [F_first_misplaced, f_first_misplaced, kitO, kit_T, kT]
  simp [hs]
theorem rise_e {r c : Nat} (f : Nat → Bool) : Rise (2 * ((r : Int) * c)) (sel (2 * (r * c)) f) := by
  have := rise_sel (2 * (r * c)) f
  simpa using this
theorem rise_s {r c : Nat} (f : Nat → Bool) : Rise ((r : Int) * c) (sel (r * c) f) := by
  have := rise_sel (r * c) f
  simpa using this
theorem v_require_flips {r c : Nat} (hB : Brd r c) (f : Nat → Bool) : F_require_flips [bd r c, ti (sel (2 * (r * c)) f)] = some (.ok .none) := by
  simp [F_require_flips, f_require_flips, v_edge_count hB, v_first_misplaced (rise_e f), isNo]
theorem v_require_lit {r c : Nat} (hB : Brd r c) (f : Nat → Bool) : F_require_lit [bd r c, ti (sel (r * c) f)] = some (.ok .none) := by
  simp [F_require_lit, f_require_lit, v_site_count hB, v_first_misplaced (rise_s f), isNo]
theorem v_require_faces {r c : Nat} (hB : Brd r c) (f : Nat → Bool) : F_require_faces [bd r c, ti (sel (r * c) f)] = some (.ok .none) := by
  simp [F_require_faces, f_require_faces, v_site_count hB, v_first_misplaced (rise_s f), isNo]
theorem v_goes_down (e : Int) : F_goes_down [.int e] = some (.ok (.bool (decide (e % 2 = 1)))) := by
  simp [F_goes_down, f_goes_down, oMod_i]
theorem v_site_right_of {r c : Nat} (hB : Brd r c) (s : Int) : F_site_right_of [bd r c, .int s] = some (.ok (.int (rightI c s))) := by
  obtain ⟨h1, h2, h3, h4⟩ := hB
  simp [F_site_right_of, f_site_right_of, oMod_i (j := (c : Int)) (by omega), rightI]
theorem v_site_below {r c : Nat} (hB : Brd r c) (s : Int) : F_site_below [bd r c, .int s] = some (.ok (.int (belowI r c s))) := by
  have hB' := hB
  obtain ⟨h1, h2, h3, h4⟩ := hB
  have hp : (0 : Int) < r * c := Int.mul_pos (by omega) (by omega)
  simp [F_site_below, f_site_below, v_site_count hB', oMod_i (j := (r : Int) * c) hp, belowI]
theorem v_edge_ends {r c : Nat} (hB : Brd r c) (e : Int) : F_edge_ends [bd r c, .int e] = some (.ok (.tuple [.int (e / 2), .int (endB r c e)])) := by
  by_cases h : e % 2 = 1
  · simp [F_edge_ends, f_edge_ends, v_goes_down, oDiv_i, v_site_below hB, v_site_right_of hB, h, endB]
  · simp [F_edge_ends, f_edge_ends, v_goes_down, oDiv_i, v_site_below hB, v_site_right_of hB, h, endB]
theorem v_crosses_first_seam {r c : Nat} (hB : Brd r c) (e : Int) : F_crosses_first_seam [bd r c, .int e] = some (.ok (.bool (crA r c e))) := by
  obtain ⟨h1, h2, h3, h4⟩ := hB
  by_cases h : e % 2 = 1
  · simp [F_crosses_first_seam, f_crosses_first_seam, v_goes_down, h, crA]
  · simp [F_crosses_first_seam, f_crosses_first_seam, v_goes_down, h, crA, oDiv_i, oMod_i (j := (c : Int)) (by omega)]
theorem v_crosses_second_seam {r c : Nat} (hB : Brd r c) (e : Int) : F_crosses_second_seam [bd r c, .int e] = some (.ok (.bool (crB r c e))) := by
  obtain ⟨h1, h2, h3, h4⟩ := hB
  by_cases h : e % 2 = 1
  · simp [F_crosses_second_seam, f_crosses_second_seam, v_goes_down, h, crB, oDiv_i, oDiv_i (j := (c : Int)) (by omega)]
  · simp [F_crosses_second_seam, f_crosses_second_seam, v_goes_down, h, crB]
end Sb

/-! Seamboard: counting; checks, seams, after, turned. -/
namespace Sb
open PySem PySem.Spec PyProof.Rows L2
theorem rep_zero (n : Nat) : (List.replicate n [(PyData.int 0 : Dt)]).flatten = (cnt n []).map .int := by
  rw [cnt_nil, List.map_replicate]
  induction n with
  | zero => rfl
  | succ n ih => rw [List.replicate_succ, List.flatten_cons, ih, List.replicate_succ]; rfl
theorem odd_loop (n : Nat) (x0 : Dt) : ∀ (l : List Int) (pre : List Int) (x3 : Option Wv), (∀ x ∈ l, 0 ≤ x ∧ x < n) →
    ∃ y3, forGo (fgName 3) (fAugI (fun i j => i + j) 2 (fVar 3) (ret (.int 1))) (l.map .int) [some (.d x0), some (.d (.int n)), some (.o (.l ((cnt n pre).map .int))), x3, none] none = some (.nx [some (.d x0), some (.d (.int n)), some (.o (.l ((cnt n (pre ++ l)).map .int))), y3, none] none)
  | [], pre, x3, _ => ⟨x3, by rw [List.append_nil]; rfl⟩
  | x :: l, pre, x3, h => by
    obtain ⟨y3, hy⟩ := odd_loop n x0 l (pre ++ [x]) (some (.d (.int x))) fun y hy => h y (List.mem_cons_of_mem _ hy)
    refine ⟨y3, ?_⟩
    obtain ⟨b0, b1⟩ := h x List.mem_cons_self
    obtain ⟨k, rfl⟩ : ∃ k : Nat, x = k := ⟨x.toNat, by omega⟩
    have hk : k < n := by omega
    have e1 : ixN (cnt n pre).length (k : Int) = some k := by
      unfold ixN; rw [if_pos b0, cnt_len, if_pos b1]; rfl
    have e2 := cnt_get pre hk
    rw [List.map_cons, forGo_cons]
    simp [fAugI, e1, e2]
    rw [← List.map_set, ← cnt_snoc pre hk]
    rw [List.append_assoc] at hy
    exact hy
theorem v_odd {l : List Int} {n : Nat} (hn : n ≤ 1000) (h : ∀ x ∈ l, 0 ≤ x ∧ x < n) {x0 : Dt} (hx : seqD x0 = some (l.map .int)) : F_odd_ones [x0, .int n] = some (.ok (ti (sel n fun k => cp k l))) := by
  obtain ⟨y3, hy⟩ := odd_loop n x0 l [] none h
  have e1 := oRep_e (x := [(PyData.int 0 : Dt)]) (k := n) ⟨by omega, by omega, by decide⟩
  have e2 : lcGo (fgTup 2 (fgCons (fgName 3) (fgCons (fgName 4) fgNil))) (fB (fOp oEq (fOp oMod (fVar 4) (ret (.int 2))) (ret (.int 1)))) (fVar 3)
      [some (.d x0), some (.d (.int n)), some (.d (.list ((cnt n l).map .int))), none, none] (pairsFrom 0 ((cnt n l).map .int)) none = some ((sel n fun k => cp k l).map .int, none) := by
    rw [lcGo_to pOdd qFst, odd_end]
    · rfl
    · intro d hd
      obtain ⟨j, x, rfl, hx⟩ := pairs_mem hd
      obtain ⟨k, _, rfl⟩ := List.mem_map.mp hx
      refine ⟨_, by simp; rfl, ?_, fun _ => ?_⟩
      · simp [oMod_i, pOdd]
      · simp [qFst]
  have e3 : ((pairsFrom 0 ((cnt n l).map PyData.int)).length ≤ 50000) := by rw [pairs_len, List.length_map, cnt_len]; omega
  rw [Int.toNat_natCast, rep_zero] at e1
  rw [List.nil_append] at hy
  simp [F_odd_ones, f_odd_ones, few_e, e1, hx, hy, fLc, wipeS, e2, e3]
end Sb

/-! Seamboard: parities of chosen sets; what faces flip (mathematics). -/
namespace Sb
open PySem PySem.Spec PyProof.Rows L2
theorem srt_lt {l : List Int} (h : l.Nodup) : (srt l).Pairwise (· < ·) := by
  have h1 := srt_sorted l
  have h2 : (srt l).Nodup := (srt_perm l).nodup_iff.mpr h
  exact h1.imp₂ (fun a b hab hne => Int.lt_iff_le_and_ne.mpr ⟨hab, hne⟩) h2
theorem hasI_mem {i : Int} {l : List Int} : hasI i l = true ↔ i ∈ l := ⟨fun h => List.mem_of_elem_eq_true h, fun h => List.elem_eq_true_of_mem h⟩
/-- the rest by 2 of how many numbers below n are taken -/
def px : Nat → (Nat → Bool) → Bool
  | 0, _ => false
  | n + 1, h => px n h ^^ h n
theorem px_congr : ∀ {n : Nat} {f g : Nat → Bool}, (∀ k, k < n → f k = g k) → px n f = px n g
  | 0, _, _, _ => rfl
  | n + 1, f, g, h => by
    show (px n f ^^ f n) = (px n g ^^ g n)
    rw [px_congr fun k hk => h k (by omega), h n (by omega)]
theorem px_xor : ∀ (n : Nat) (f g : Nat → Bool), px n (fun k => f k ^^ g k) = (px n f ^^ px n g)
  | 0, _, _ => rfl
  | n + 1, f, g => by
    show (px n (fun k => f k ^^ g k) ^^ (f n ^^ g n)) = ((px n f ^^ f n) ^^ (px n g ^^ g n))
    rw [px_xor n f g]
    cases px n f <;> cases px n g <;> cases f n <;> cases g n <;> rfl
theorem px_ff : ∀ n : Nat, px n (fun _ => false) = false
  | 0 => rfl
  | n + 1 => by
    show (px n (fun _ => false) ^^ false) = false
    rw [px_ff n]; rfl
theorem px_and (b : Bool) (n : Nat) (h : Nat → Bool) : px n (fun k => b && h k) = (b && px n h) := by
  cases b
  · exact px_ff n
  · exact px_congr fun k _ => rfl
theorem px_swap : ∀ (n m : Nat) (h : Nat → Nat → Bool), px n (fun i => px m (fun j => h i j)) = px m (fun j => px n (fun i => h i j))
  | 0, m, h => (px_ff m).symm
  | n + 1, m, h => by
    show (px n (fun i => px m (fun j => h i j)) ^^ px m (fun j => h n j)) = px m (fun j => px n (fun i => h i j) ^^ h n j)
    rw [px_swap n m h, px_xor]
theorem px_one : ∀ {n e : Nat} (h : Nat → Bool), e < n → px n (fun k => decide (k = e) && h k) = h e
  | n + 1, e, h, he => by
    show (px n (fun k => decide (k = e) && h k) ^^ (decide (n = e) && h n)) = h e
    by_cases q : n = e
    · subst q
      have : px n (fun k => decide (k = n) && h k) = false := by
        rw [px_congr (g := fun _ => false) fun k hk => by rw [decide_eq_false (by omega)]; rfl, px_ff]
      rw [this]; simp
    · rw [px_one h (by omega), decide_eq_false q]; simp
theorem px_dec {n e : Nat} (he : e < n) : px n (fun k => decide (k = e)) = true := by
  have := px_one (fun _ => true) he
  simpa using this
theorem sel_succ (n : Nat) (f : Nat → Bool) : sel (n + 1) f = sel n f ++ (if f n = true then [(n : Int)] else []) := by
  unfold sel
  rw [List.range_succ, List.filter_append, List.map_append]
  congr 1
  rw [List.filter_cons]
  split <;> rfl
/-- the rest of a count -/
theorem dec_mod (a b : Nat) : decide ((a + b) % 2 = 1) = (decide (a % 2 = 1) ^^ decide (b % 2 = 1)) := by
  rcases Nat.mod_two_eq_zero_or_one a with h1 | h1 <;> rcases Nat.mod_two_eq_zero_or_one b with h2 | h2 <;> simp [Nat.add_mod, h1, h2]
theorem cp_app (k : Int) (l m : List Int) : cp k (l ++ m) = (cp k l ^^ cp k m) := by
  unfold cp
  rw [List.count_append, dec_mod]
theorem cp_one (k x : Int) : cp k [x] = decide (x = k) := by
  unfold cp
  rw [List.count_singleton]
  by_cases h : x = k
  · subst h; simp
  · have : (x == k) = false := beq_eq_false_iff_ne.mpr h
    rw [this, decide_eq_false h]; rfl
theorem cp_nil (k : Int) : cp k [] = false := rfl
theorem cp_flat (k : Int) (g : Int → List Int) (f : Nat → Bool) : ∀ n : Nat, cp k ((sel n f).flatMap g) = px n fun e => f e && cp k (g (e : Int))
  | 0 => rfl
  | n + 1 => by
    rw [sel_succ, List.flatMap_append, cp_app, cp_flat k g f n]
    show _ = (px n (fun e => f e && cp k (g (e : Int))) ^^ (f n && cp k (g (n : Int))))
    congr 1
    cases f n
    · rfl
    · show cp k ([(n : Int)].flatMap g) = _
      simp
theorem cp_sel {n k : Nat} (f : Nat → Bool) (h : k < n) : cp (k : Int) (sel n f) = f k := by
  have e : sel n f = (sel n f).flatMap fun x => [x] := by simp
  rw [e, cp_flat]
  rw [px_congr (g := fun e => decide (e = k) && f e) fun e _ => by
    rw [cp_one, Bool.and_comm]
    congr 1
    apply decide_eq_decide.mpr
    omega]
  exact px_one f h
theorem par_len (f : Int → Bool) (g : Nat → Bool) : ∀ n : Nat, decide ((((sel n g).filter f).length) % 2 = 1) = px n fun e => g e && f (e : Int)
  | 0 => rfl
  | n + 1 => by
    rw [sel_succ, List.filter_append, List.length_append, dec_mod, par_len f g n]
    show _ = (px n (fun e => g e && f (e : Int)) ^^ (g n && f (n : Int)))
    congr 1
    cases hg : g n
    · rfl
    · show decide (([(n : Int)].filter f).length % 2 = 1) = (true && f (n : Int))
      cases hf : f (n : Int) <;> simp [List.filter_cons, hf]
def bi (b : Bool) : Int := if b then 1 else 0
theorem bi_of (n : Nat) : ((n : Nat) : Int) % 2 = bi (decide (n % 2 = 1)) := by
  unfold bi
  rcases Nat.mod_two_eq_zero_or_one n with h | h
  · rw [h]; simp; omega
  · rw [h]; simp; omega
theorem bi_add (a b : Bool) : (bi a + bi b) % 2 = bi (a ^^ b) := by cases a <;> cases b <;> rfl
theorem len_par (n : Nat) (g : Nat → Bool) : (((sel n g).length : Nat) : Int) % 2 = bi (px n g) := by
  have h := par_len (fun _ => true) g n
  rw [List.filter_eq_self.mpr fun _ _ => rfl] at h
  rw [bi_of, h]
  congr 1
  exact px_congr fun k _ => Bool.and_true _
/-! ### lit sites, seams -/
def uu (r c : Nat) (e k : Nat) : Bool := decide (((e : Nat) : Int) / 2 = (k : Int)) ^^ decide (endB r c (e : Int) = (k : Int))
def lit (r c : Nat) (f : Nat → Bool) (k : Nat) : Bool := px (2 * (r * c)) fun e => f e && uu r c e k
def sA (r c : Nat) (f : Nat → Bool) : Bool := px (2 * (r * c)) fun e => f e && crA r c (e : Int)
def sB (r c : Nat) (f : Nat → Bool) : Bool := px (2 * (r * c)) fun e => f e && crB r c (e : Int)
theorem and_xor (a b c : Bool) : ((a ^^ b) && c) = ((a && c) ^^ (b && c)) := by cases a <;> cases b <;> cases c <;> rfl
theorem lit_xor (r c : Nat) (f g : Nat → Bool) (k : Nat) : lit r c (fun e => f e ^^ g e) k = (lit r c f k ^^ lit r c g k) := by
  unfold lit
  rw [← px_xor]
  exact px_congr fun e _ => and_xor _ _ _
theorem sA_xor (r c : Nat) (f g : Nat → Bool) : sA r c (fun e => f e ^^ g e) = (sA r c f ^^ sA r c g) := by
  unfold sA
  rw [← px_xor]
  exact px_congr fun e _ => and_xor _ _ _
theorem sB_xor (r c : Nat) (f g : Nat → Bool) : sB r c (fun e => f e ^^ g e) = (sB r c f ^^ sB r c g) := by
  unfold sB
  rw [← px_xor]
  exact px_congr fun e _ => and_xor _ _ _
theorem lit_congr {r c : Nat} {f g : Nat → Bool} (h : ∀ e, e < 2 * (r * c) → f e = g e) (k : Nat) : lit r c f k = lit r c g k := px_congr fun e he => by rw [h e he]
theorem sA_congr {r c : Nat} {f g : Nat → Bool} (h : ∀ e, e < 2 * (r * c) → f e = g e) : sA r c f = sA r c g := px_congr fun e he => by rw [h e he]
theorem sB_congr {r c : Nat} {f g : Nat → Bool} (h : ∀ e, e < 2 * (r * c) → f e = g e) : sB r c f = sB r c g := px_congr fun e he => by rw [h e he]
theorem lit_ff (r c : Nat) (k : Nat) : lit r c (fun _ => false) k = false := px_ff _
theorem sA_ff (r c : Nat) : sA r c (fun _ => false) = false := px_ff _
theorem sB_ff (r c : Nat) : sB r c (fun _ => false) = false := px_ff _
theorem lit_one {r c e : Nat} (h : e < 2 * (r * c)) (k : Nat) : lit r c (fun x => decide (x = e)) k = uu r c e k := px_one (fun x => uu r c x k) h
theorem sA_one {r c e : Nat} (h : e < 2 * (r * c)) : sA r c (fun x => decide (x = e)) = crA r c (e : Int) := px_one (fun x => crA r c (x : Int)) h
theorem sB_one {r c e : Nat} (h : e < 2 * (r * c)) : sB r c (fun x => decide (x = e)) = crB r c (e : Int) := px_one (fun x => crB r c (x : Int)) h
theorem sel_ff (n : Nat) : sel n (fun _ => false) = [] := by
  apply List.eq_nil_iff_forall_not_mem.mpr
  intro x hx
  obtain ⟨k, _, _, h⟩ := mem_sel.mp hx
  cases h
theorem sel_one {n e : Nat} (h : e < n) : sel n (fun x => decide (x = e)) = [(e : Int)] := rise_eq (sel_rise _ _) (List.pairwise_singleton _ _) fun x => by
  rw [mem_sel, List.mem_singleton]
  constructor
  · rintro ⟨k, rfl, _, h2⟩
    rw [of_decide_eq_true h2]
  · rintro rfl
    exact ⟨e, rfl, h, decide_eq_true rfl⟩
/-! ### the ends of an edge lie on the board, apart -/
theorem ends_nat {r c e : Nat} (hB : Brd r c) (h : e < 2 * (r * c)) : ∃ a b : Nat, a < r * c ∧ b < r * c ∧ ((e : Int) / 2 = a) ∧ endB r c (e : Int) = b := by
  obtain ⟨h1, h2, h3, h4⟩ := hB
  have hrc : (((r * c : Nat) : Int)) = (r : Int) * c := Int.natCast_mul r c
  have hb := endB_in (r := r) (c := c) (e := e) (by omega) (by omega) (by omega) (by omega) ⟨by omega, by rw [← hrc]; omega⟩
  rw [← hrc] at hb
  exact ⟨e / 2, (endB r c e).toNat, by omega, by omega, by omega, by omega⟩
theorem uu_even {r c e : Nat} (hB : Brd r c) (h : e < 2 * (r * c)) : px (r * c) (uu r c e) = false := by
  obtain ⟨a, b, ha, hb, ea, eb⟩ := ends_nat hB h
  have e1 : px (r * c) (uu r c e) = px (r * c) fun k => decide (k = a) ^^ decide (k = b) := px_congr fun k _ => by
    unfold uu
    rw [ea, eb]
    congr 1 <;> (apply decide_eq_decide.mpr; omega)
  rw [e1, px_xor, px_dec ha, px_dec hb]; rfl
theorem lit_even {r c : Nat} (hB : Brd r c) (f : Nat → Bool) : px (r * c) (lit r c f) = false := by
  unfold lit
  rw [px_swap]
  rw [px_congr (g := fun _ => false) fun e he => by rw [px_and, uu_even hB he, Bool.and_false], px_ff]
theorem right_ne {c s : Nat} (hc : 2 ≤ c) : rightI c s ≠ (s : Int) := by
  unfold rightI
  have a1 := Int.emod_nonneg (s : Int) (show (c : Int) ≠ 0 by omega)
  have a2 := Int.emod_lt_of_pos (s : Int) (show 0 < (c : Int) by omega)
  intro h
  have h2 : ((s : Int) + 1) % c = (s : Int) % c := by omega
  by_cases q : (s : Int) % c + 1 < c
  · have : ((s : Int) + 1) % c = (s : Int) % c + 1 := by
      rw [Int.add_emod, Int.emod_eq_of_lt (show 0 ≤ (1 : Int) by decide) (show (1 : Int) < c by omega)]
      exact Int.emod_eq_of_lt (by omega) q
    omega
  · have e1 : (s : Int) % c + 1 = c := by omega
    have : ((s : Int) + 1) % c = 0 := by
      rw [Int.add_emod, Int.emod_eq_of_lt (show 0 ≤ (1 : Int) by decide) (show (1 : Int) < c by omega), e1, Int.emod_self]
    omega
theorem sel_two {n a b : Nat} (ha : a < n) (hb : b < n) (hab : a ≠ b) : (sel n fun k => decide (k = a) ^^ decide (k = b)).length = 2 := by
  have nd : [(a : Int), (b : Int)].Nodup := by simp; omega
  have e : (sel n fun k => decide (k = a) ^^ decide (k = b)) = srt [(a : Int), (b : Int)] := rise_eq (sel_rise _ _) (srt_lt nd) fun x => by
    rw [(srt_perm _).mem_iff, mem_sel]
    constructor
    · rintro ⟨k, rfl, _, h⟩
      by_cases q : k = a
      · subst q; simp
      · by_cases q2 : k = b
        · subst q2; simp
        · rw [decide_eq_false q, decide_eq_false q2] at h; cases h
    · intro h
      simp at h
      rcases h with rfl | rfl
      · exact ⟨a, rfl, ha, by rw [decide_eq_true rfl, decide_eq_false hab]; rfl⟩
      · exact ⟨b, rfl, hb, by rw [decide_eq_true rfl, decide_eq_false (Ne.symm hab)]; rfl⟩
  rw [e, (srt_perm _).length_eq]; rfl
theorem bd_bi (a b : Bool) : SeqAt.shaped (bd (bi a) (bi b)) = true := rfl
/-! the sixteen boards, one by one -/
def brds : List (Nat × Nat) := [(2, 2), (2, 3), (2, 4), (2, 5), (3, 2), (3, 3), (3, 4), (3, 5), (4, 2), (4, 3), (4, 4), (4, 5), (5, 2), (5, 3), (5, 4), (5, 5)]
theorem brd_mem {r c : Nat} (h : Brd r c) : (r, c) ∈ brds := by
  obtain ⟨h1, h2, h3, h4⟩ := h
  have a : r = 2 ∨ r = 3 ∨ r = 4 ∨ r = 5 := by omega
  have b : c = 2 ∨ c = 3 ∨ c = 4 ∨ c = 5 := by omega
  rcases a with rfl | rfl | rfl | rfl <;> rcases b with rfl | rfl | rfl | rfl <;> decide
def rnd (r c f : Int) : List Int := [2 * f, 2 * f + 1, 2 * belowI r c f, 2 * rightI c f + 1]
theorem right_in {r c s : Int} (h3 : 2 ≤ c) (h : 0 ≤ s ∧ s < r * c) (h1 : 2 ≤ r) (h2 : r ≤ 5) (h4 : c ≤ 5) : 0 ≤ rightI c s ∧ rightI c s < r * c := by
  have e := endB_in (e := 2 * s) h1 h2 h3 h4 ⟨by omega, by omega⟩
  unfold endB at e
  rw [if_neg (by omega), show 2 * s / 2 = s by omega] at e
  exact e
theorem below_in {r c s : Int} (h3 : 2 ≤ c) (h1 : 2 ≤ r) : 0 ≤ belowI r c s ∧ belowI r c s < r * c := by
  have hp : 0 < r * c := Int.mul_pos (by omega) (by omega)
  exact ⟨Int.emod_nonneg _ (by omega), Int.emod_lt_of_pos _ hp⟩
theorem rnd_len (r c : Int) : ∀ m : List Int, (m.flatMap (rnd r c)).length = 4 * m.length
  | [] => rfl
  | x :: m => by
    rw [List.flatMap_cons, List.length_append, rnd_len r c m]
    show 4 + 4 * m.length = 4 * (m.length + 1)
    omega
/-! ### faces: what turning does, over all boards -/
def rightN (c s : Nat) : Nat := s - s % c + (s + 1) % c
def belowN (r c s : Nat) : Nat := (s + c) % (r * c)
def endN (r c e : Nat) : Nat := if e % 2 = 1 then belowN r c (e / 2) else rightN c (e / 2)
theorem right_nat (c s : Nat) : rightI c s = (rightN c s : Nat) := by
  unfold rightI rightN
  have h := Nat.mod_le s c
  rw [Int.natCast_add, Int.natCast_sub h, Int.natCast_emod, Int.natCast_emod]
  rfl
theorem below_nat (r c s : Nat) : belowI r c s = (belowN r c s : Nat) := by
  unfold belowI belowN
  rw [Int.natCast_emod, Int.natCast_mul]
  rfl
theorem end_nat (r c e : Nat) : endB r c (e : Int) = (endN r c e : Nat) := by
  have h2 : ((e : Nat) : Int) / 2 = ((e / 2 : Nat) : Int) := (Int.natCast_ediv e 2).symm
  unfold endB endN
  by_cases h : e % 2 = 1
  · rw [if_pos (by omega), if_pos h, h2, below_nat]
  · rw [if_neg (by omega), if_neg h, h2, right_nat]
def crAN (c e : Nat) : Bool := !decide (e % 2 = 1) && decide (e / 2 % c = c - 1)
def crBN (r c e : Nat) : Bool := decide (e % 2 = 1) && decide (e / 2 / c = r - 1)
theorem crA_nat {r c e : Nat} (hc : 2 ≤ c) : crA r c (e : Int) = crAN c e := by
  unfold crA crAN
  have e1 : decide ((e : Int) % 2 = 1) = decide (e % 2 = 1) := decide_eq_decide.mpr (by omega)
  have h2 : ((e : Nat) : Int) / 2 % (c : Int) = ((e / 2 % c : Nat) : Int) := by rw [Int.natCast_emod, Int.natCast_ediv]; rfl
  rw [e1, h2]
  congr 1
  exact decide_eq_decide.mpr (by omega)
theorem crB_nat {r c e : Nat} (hr : 2 ≤ r) : crB r c (e : Int) = crBN r c e := by
  unfold crB crBN
  have e1 : decide ((e : Int) % 2 = 1) = decide (e % 2 = 1) := decide_eq_decide.mpr (by omega)
  have h2 : ((e : Nat) : Int) / 2 / (c : Int) = ((e / 2 / c : Nat) : Int) := by rw [Int.natCast_ediv, Int.natCast_ediv]; rfl
  rw [e1, h2]
  congr 1
  exact decide_eq_decide.mpr (by omega)
theorem uu_nat (r c e k : Nat) : uu r c e k = (decide (k = e / 2) ^^ decide (k = endN r c e)) := by
  unfold uu
  rw [end_nat]
  congr 1
  · exact decide_eq_decide.mpr (by omega)
  · exact decide_eq_decide.mpr (by omega)
/-- face p has the edge e round it (an odd count of times) -/
def fb (r c p e : Nat) : Bool := decide (e = 2 * p) ^^ (decide (e = 2 * p + 1) ^^ (decide (e = 2 * belowN r c p) ^^ decide (e = 2 * rightN c p + 1)))
/-- what is flipped by turning the faces F -/
def tr (r c : Nat) (F : Nat → Bool) (e : Nat) : Bool := px (r * c) fun p => F p && fb r c p e
theorem cp_rnd (r c p e : Nat) : cp (e : Int) (rnd r c (p : Int)) = fb r c p e := by
  have e0 : rnd r c (p : Int) = [2 * (p : Int)] ++ ([2 * (p : Int) + 1] ++ ([2 * belowI r c p] ++ [2 * rightI c p + 1])) := rfl
  rw [e0, cp_app, cp_app, cp_app, cp_one, cp_one, cp_one, cp_one, below_nat, right_nat]
  unfold fb
  congr 1
  · exact decide_eq_decide.mpr (by omega)
  congr 1
  · exact decide_eq_decide.mpr (by omega)
  congr 1
  · exact decide_eq_decide.mpr (by omega)
  · exact decide_eq_decide.mpr (by omega)
theorem tr_xor (r c : Nat) (F G : Nat → Bool) (e : Nat) : tr r c (fun k => F k ^^ G k) e = (tr r c F e ^^ tr r c G e) := by
  unfold tr
  rw [← px_xor]
  exact px_congr fun p _ => and_xor _ _ _
theorem tr_congr {r c : Nat} {F G : Nat → Bool} (h : ∀ p, p < r * c → F p = G p) (e : Nat) : tr r c F e = tr r c G e := px_congr fun p hp => by rw [h p hp]
theorem tr_ff (r c e : Nat) : tr r c (fun _ => false) e = false := px_ff _
theorem tr_one {r c p : Nat} (h : p < r * c) (e : Nat) : tr r c (fun x => decide (x = p)) e = fb r c p e := px_one (fun x => fb r c x e) h
/-! small facts over the sixteen boards, by trying -/
def upN (r c s : Nat) : Nat := if s < c then s + r * c - c else s - c
def leftN (c s : Nat) : Nat := if s % c = 0 then s + c - 1 else s - 1
def chkFace : Bool := brds.all fun (r, c) => (List.range (r * c)).all fun p =>
  decide (belowN r c p < r * c) && decide (rightN c p < r * c) && decide (upN r c p < r * c) && decide (leftN c p < r * c) &&
  (!(crAN c (2 * p) ^^ (crAN c (2 * p + 1) ^^ (crAN c (2 * belowN r c p) ^^ crAN c (2 * rightN c p + 1))))) &&
  (!(crBN r c (2 * p) ^^ (crBN r c (2 * p + 1) ^^ (crBN r c (2 * belowN r c p) ^^ crBN r c (2 * rightN c p + 1))))) &&
  (List.range (r * c)).all fun s =>
    (!((decide (s = p) ^^ decide (s = endN r c (2 * p))) ^^ ((decide (s = p) ^^ decide (s = endN r c (2 * p + 1))) ^^ ((decide (s = belowN r c p) ^^ decide (s = endN r c (2 * belowN r c p))) ^^ (decide (s = rightN c p) ^^ decide (s = endN r c (2 * rightN c p + 1))))))) &&
    (fb r c p (2 * s) == (decide (p = s) ^^ decide (p = upN r c s))) && (fb r c p (2 * s + 1) == (decide (p = s) ^^ decide (p = leftN c s)))
theorem chkFace_ok : chkFace = true := by decide +kernel
structure FaceOk (r c p : Nat) : Prop where
  b : belowN r c p < r * c
  ri : rightN c p < r * c
  u : upN r c p < r * c
  l : leftN c p < r * c
  a1 : (crAN c (2 * p) ^^ (crAN c (2 * p + 1) ^^ (crAN c (2 * belowN r c p) ^^ crAN c (2 * rightN c p + 1)))) = false
  b1 : (crBN r c (2 * p) ^^ (crBN r c (2 * p + 1) ^^ (crBN r c (2 * belowN r c p) ^^ crBN r c (2 * rightN c p + 1)))) = false
  lit : ∀ s, s < r * c → (uu r c (2 * p) s ^^ (uu r c (2 * p + 1) s ^^ (uu r c (2 * belowN r c p) s ^^ uu r c (2 * rightN c p + 1) s))) = false
  ev : ∀ s, s < r * c → fb r c p (2 * s) = (decide (p = s) ^^ decide (p = upN r c s))
  od : ∀ s, s < r * c → fb r c p (2 * s + 1) = (decide (p = s) ^^ decide (p = leftN c s))
theorem face_ok {r c p : Nat} (hB : Brd r c) (hp : p < r * c) : FaceOk r c p := by
  have h := List.all_eq_true.mp (List.all_eq_true.mp chkFace_ok _ (brd_mem hB)) p (List.mem_range.mpr hp)
  simp only [Bool.and_eq_true, decide_eq_true_eq, Bool.not_eq_true', List.all_eq_true, List.mem_range, beq_iff_eq] at h
  obtain ⟨⟨⟨⟨⟨⟨h1, h2⟩, h3⟩, h4⟩, h5⟩, h6⟩, h7⟩ := h
  refine ⟨h1, h2, h3, h4, h5, h6, fun s hs => ?_, fun s hs => (h7 s hs).1.2, fun s hs => (h7 s hs).2⟩
  have := (h7 s hs).1.1
  rw [uu_nat, uu_nat, uu_nat, uu_nat]
  rw [show 2 * p / 2 = p by omega, show (2 * p + 1) / 2 = p by omega, show 2 * belowN r c p / 2 = belowN r c p by omega, show (2 * rightN c p + 1) / 2 = rightN c p by omega]
  exact this
/-- a sum over the edges round a face -/
theorem px_fb {r c p : Nat} (hB : Brd r c) (hp : p < r * c) (h : Nat → Bool) : px (2 * (r * c)) (fun e => fb r c p e && h e) = (h (2 * p) ^^ (h (2 * p + 1) ^^ (h (2 * belowN r c p) ^^ h (2 * rightN c p + 1)))) := by
  have K := face_ok hB hp
  have kb := K.b
  have kr := K.ri
  unfold fb
  rw [px_congr (g := fun e => (decide (e = 2 * p) && h e) ^^ ((decide (e = 2 * p + 1) && h e) ^^ ((decide (e = 2 * belowN r c p) && h e) ^^ (decide (e = 2 * rightN c p + 1) && h e)))) fun e _ => by
    rw [and_xor, and_xor, and_xor]]
  rw [px_xor, px_xor, px_xor, px_one h (by omega), px_one h (by omega), px_one h (by omega), px_one h (by omega)]
theorem px_tr {r c : Nat} (hB : Brd r c) (F h : Nat → Bool) (z : ∀ p, p < r * c → (h (2 * p) ^^ (h (2 * p + 1) ^^ (h (2 * belowN r c p) ^^ h (2 * rightN c p + 1)))) = false) : px (2 * (r * c)) (fun e => tr r c F e && h e) = false := by
  have e1 : px (2 * (r * c)) (fun e => tr r c F e && h e) = px (2 * (r * c)) (fun e => px (r * c) fun p => F p && (fb r c p e && h e)) := px_congr fun e _ => by
    unfold tr
    rw [Bool.and_comm, ← px_and]
    exact px_congr fun p _ => by cases h e <;> cases F p <;> cases fb r c p e <;> rfl
  rw [e1, px_swap, px_congr (g := fun _ => false) fun p hp => by rw [px_and, px_fb hB hp, z p hp, Bool.and_false], px_ff]
theorem lit_tr {r c : Nat} (hB : Brd r c) (F : Nat → Bool) {s : Nat} (hs : s < r * c) : lit r c (tr r c F) s = false := px_tr hB F (fun e => uu r c e s) fun p hp => (face_ok hB hp).lit s hs
theorem sA_tr {r c : Nat} (hB : Brd r c) (F : Nat → Bool) : sA r c (tr r c F) = false := px_tr hB F (fun e => crA r c (e : Int)) fun p hp => by
  rw [crA_nat hB.2.2.1, crA_nat hB.2.2.1, crA_nat hB.2.2.1, crA_nat hB.2.2.1]; exact (face_ok hB hp).a1
theorem sB_tr {r c : Nat} (hB : Brd r c) (F : Nat → Bool) : sB r c (tr r c F) = false := px_tr hB F (fun e => crB r c (e : Int)) fun p hp => by
  rw [crB_nat hB.1, crB_nat hB.1, crB_nat hB.1, crB_nat hB.1]; exact (face_ok hB hp).b1
theorem xor_and (a b c : Bool) : (c && (a ^^ b)) = ((c && a) ^^ (c && b)) := by cases a <;> cases b <;> cases c <;> rfl
theorem tr_even {r c s : Nat} (hB : Brd r c) (hs : s < r * c) (F : Nat → Bool) : tr r c F (2 * s) = (F s ^^ F (upN r c s)) := by
  unfold tr
  rw [px_congr (g := fun p => (decide (p = s) && F p) ^^ (decide (p = upN r c s) && F p)) fun p hp => by
    rw [(face_ok hB hp).ev s hs, xor_and, Bool.and_comm, Bool.and_comm (F p)]]
  rw [px_xor, px_one F hs, px_one F (face_ok hB hs).u]
theorem tr_odd {r c s : Nat} (hB : Brd r c) (hs : s < r * c) (F : Nat → Bool) : tr r c F (2 * s + 1) = (F s ^^ F (leftN c s)) := by
  unfold tr
  rw [px_congr (g := fun p => (decide (p = s) && F p) ^^ (decide (p = leftN c s) && F p)) fun p hp => by
    rw [(face_ok hB hp).od s hs, xor_and, Bool.and_comm, Bool.and_comm (F p)]]
  rw [px_xor, px_one F hs, px_one F (face_ok hB hs).l]
theorem tr_all {r c e : Nat} (hB : Brd r c) (he : e < 2 * (r * c)) : tr r c (fun _ => true) e = false := by
  rcases Nat.mod_two_eq_zero_or_one e with h | h
  · have e1 : e = 2 * (e / 2) := by omega
    rw [e1, tr_even hB (by omega)]; rfl
  · have e1 : e = 2 * (e / 2) + 1 := by omega
    rw [e1, tr_odd hB (by omega)]; rfl
def fwS (c : Nat) (a : Nat → Bool) (n : Nat) (t : List Bool) : Bool := if n = 0 then false else if n % c = 0 then (t.getD (n - c) false ^^ a (2 * n)) else (t.getD (n - 1) false ^^ a (2 * n + 1))
def fwL (c : Nat) (a : Nat → Bool) : Nat → List Bool
  | 0 => []
  | n + 1 => fwL c a n ++ [fwS c a n (fwL c a n)]
def fw (c : Nat) (a : Nat → Bool) (k : Nat) : Bool := fwS c a k (fwL c a k)
theorem fwL_len (c : Nat) (a : Nat → Bool) : ∀ n, (fwL c a n).length = n
  | 0 => rfl
  | n + 1 => by
    show (fwL c a n ++ [_]).length = n + 1
    rw [List.length_append, fwL_len c a n]; rfl
theorem fwL_map (c : Nat) (a : Nat → Bool) : ∀ n : Nat, fwL c a n = (List.range n).map (fw c a)
  | 0 => rfl
  | n + 1 => by
    show fwL c a n ++ [fw c a n] = _
    rw [List.range_succ, List.map_append, ← fwL_map c a n]; rfl
theorem fwL_get (c : Nat) (a : Nat → Bool) {n k : Nat} (h : k < n) : (fwL c a n)[k]? = some (fw c a k) := by
  rw [fwL_map, List.getElem?_map, List.getElem?_range h]; rfl
theorem fwL_getD (c : Nat) (a : Nat → Bool) {n k : Nat} (h : k < n) : (fwL c a n).getD k false = fw c a k := by
  rw [List.getD_eq_getElem?_getD, fwL_get c a h]; rfl
theorem fw_zero (c : Nat) (a : Nat → Bool) : fw c a 0 = false := rfl
theorem fw_up {c : Nat} (a : Nat → Bool) {k : Nat} (h0 : 0 < c) (h : k % c = 0) (hk : 0 < k) : fw c a k = (fw c a (k - c) ^^ a (2 * k)) := by
  show fwS c a k (fwL c a k) = _
  unfold fwS
  rw [if_neg (by omega), if_pos h, fwL_getD c a (show k - c < k by omega)]
theorem fw_left {c : Nat} (a : Nat → Bool) {k : Nat} (h : ¬ k % c = 0) (hk : 0 < k) : fw c a k = (fw c a (k - 1) ^^ a (2 * k + 1)) := by
  show fwS c a k (fwL c a k) = _
  unfold fwS
  rw [if_neg (by omega), if_neg h, fwL_getD c a (show k - 1 < k by omega)]
def pTrue : Dt → Bool
  | .tuple [_, .bool b] => b
  | _ => false
theorem true_end (n : Nat) (g : Nat → Bool) : ((pairsFrom 0 (((List.range n).map g).map PyData.bool)).filter pTrue).map qFst = (sel n g).map .int := by
  rw [List.map_map, List.range_eq_range', pairs_range, List.filter_map, List.map_map, ← List.range_eq_range']
  unfold sel
  rw [List.map_map]
  rfl
/-- faces follow from what they flip -/
theorem fw_tr {r c : Nat} (hB : Brd r c) (F : Nat → Bool) : ∀ k, k < r * c → fw c (tr r c F) k = (F k ^^ F 0) := by
  intro k
  induction k using Nat.strongRecOn with
  | ind k ih =>
    intro hk
    have hc : 0 < c := by have := hB.2.2.1; omega
    by_cases h0 : k = 0
    · subst h0; rw [fw_zero, Bool.xor_self]
    by_cases hm : k % c = 0
    · have hge : c ≤ k := Nat.le_of_dvd (by omega) (Nat.dvd_of_mod_eq_zero hm)
      rw [fw_up _ hc hm (by omega), ih (k - c) (by omega) (by omega), tr_even hB hk]
      unfold upN
      rw [if_neg (by omega)]
      cases F (k - c) <;> cases F k <;> cases F 0 <;> rfl
    · rw [fw_left _ hm (by omega), ih (k - 1) (by omega) (by omega), tr_odd hB hk]
      unfold leftN
      rw [if_neg hm]
      cases F (k - 1) <;> cases F k <;> cases F 0 <;> rfl
theorem fw_congr {r c : Nat} (hB : Brd r c) {a b : Nat → Bool} (h : ∀ e, e < 2 * (r * c) → a e = b e) : ∀ k, k < r * c → fw c a k = fw c b k := by
  intro k
  induction k using Nat.strongRecOn with
  | ind k ih =>
    intro hk
    have hc : 0 < c := by have := hB.2.2.1; omega
    by_cases h0 : k = 0
    · subst h0; rfl
    by_cases hm : k % c = 0
    · rw [fw_up _ hc hm (by omega), fw_up _ hc hm (by omega), ih (k - c) (by omega) (by omega), h _ (by omega)]
    · rw [fw_left _ hm (by omega), fw_left _ hm (by omega), ih (k - 1) (by omega) (by omega), h _ (by omega)]
/-! what is neither lit nor crosses, and is not on the faces' tree, is nothing -/
def tree (c e : Nat) : Bool := if e % 2 = 1 then !decide (e / 2 % c = 0) else decide (e / 2 % c = 0) && decide (c ≤ e / 2)
def Sw (c e s : Nat) : Bool :=
  if e % 2 = 1 then decide (e / 2 / c < s / c)
  else if c ≤ e / 2 then decide (s / c = e / 2 / c) && decide (1 ≤ s % c) && decide (s % c ≤ e / 2 % c)
  else (decide (1 ≤ s / c) && decide (1 ≤ s % c)) || (decide (s / c = 0) && decide (e / 2 % c < s % c))
def wA (c e : Nat) : Bool := !decide (e % 2 = 1) && decide (e / 2 < c)
def wB (e : Nat) : Bool := decide (e % 2 = 1)
def chkTree : Bool := brds.all fun (r, c) => (List.range (2 * (r * c))).all fun e => tree c e || (List.range (2 * (r * c))).all fun x => tree c x ||
  (decide (x = e) == (Sw c e (x / 2) ^^ Sw c e (endN r c x) ^^ (wA c e && crAN c x) ^^ (wB e && crBN r c x)))
theorem chkTree_ok : chkTree = true := by decide +kernel
theorem tree_ok {r c e x : Nat} (hB : Brd r c) (he : e < 2 * (r * c)) (hx : x < 2 * (r * c)) (te : tree c e = false) (tx : tree c x = false) :
    decide (x = e) = (Sw c e (x / 2) ^^ Sw c e (endN r c x) ^^ (wA c e && crAN c x) ^^ (wB e && crBN r c x)) := by
  have h1 := List.all_eq_true.mp chkTree_ok _ (brd_mem hB)
  have h2 := List.all_eq_true.mp h1 e (List.mem_range.mpr he)
  simp only [te, Bool.false_or] at h2
  have h3 := List.all_eq_true.mp h2 x (List.mem_range.mpr hx)
  simp only [tx, Bool.false_or] at h3
  exact eq_of_beq h3
theorem none_left {r c : Nat} (hB : Brd r c) (g : Nat → Bool) (hl : ∀ s, s < r * c → lit r c g s = false) (ha : sA r c g = false) (hb : sB r c g = false) (ht : ∀ e, e < 2 * (r * c) → tree c e = true → g e = false) :
    ∀ e, e < 2 * (r * c) → g e = false := by
  intro e he
  cases te : tree c e with
  | true => exact ht e he te
  | false =>
    have e0 := px_one g he
    rw [← e0]
    rw [px_congr (g := fun x => ((g x && (Sw c e (x / 2) ^^ Sw c e (endN r c x))) ^^ (wA c e && (g x && crAN c x))) ^^ (wB e && (g x && crBN r c x))) fun x hx => by
      cases tx : tree c x with
      | true => rw [ht x hx tx]; simp
      | false =>
        rw [tree_ok hB he hx te tx]
        cases g x <;> cases (Sw c e (x / 2)) <;> cases (Sw c e (endN r c x)) <;> cases wA c e <;> cases crAN c x <;> cases wB e <;> cases crBN r c x <;> rfl]
    rw [px_xor, px_xor, px_and, px_and]
    have a1 : px (2 * (r * c)) (fun x => g x && crAN c x) = false := by rw [← ha]; exact px_congr fun x _ => by rw [crA_nat hB.2.2.1]
    have a2 : px (2 * (r * c)) (fun x => g x && crBN r c x) = false := by rw [← hb]; exact px_congr fun x _ => by rw [crB_nat hB.1]
    have a3 : px (2 * (r * c)) (fun x => g x && (Sw c e (x / 2) ^^ Sw c e (endN r c x))) = false := by
      rw [px_congr (g := fun x => px (r * c) fun s => Sw c e s && (g x && uu r c x s)) fun x hx => by
        obtain ⟨a, b, h1, h2, h3, h4⟩ := ends_nat hB hx
        have h5 : x / 2 = a := by omega
        have h6 : endN r c x = b := by rw [end_nat] at h4; omega
        rw [px_congr (g := fun s => g x && ((decide (s = a) && Sw c e s) ^^ (decide (s = b) && Sw c e s))) fun s _ => by
          rw [uu_nat, h5, h6]
          cases Sw c e s <;> cases g x <;> cases decide (s = a) <;> cases decide (s = b) <;> rfl]
        rw [px_and, px_xor, px_one _ h1, px_one _ h2, h5, h6]]
      rw [px_swap, px_congr (g := fun _ => false) fun s hs => by
        rw [px_and]
        have := hl s hs
        unfold lit at this
        rw [this, Bool.and_false], px_ff]
    rw [a1, a2, a3]; simp
/-- the faces found lead there -/
theorem tr_fw {r c : Nat} (hB : Brd r c) (a : Nat → Bool) (hl : ∀ s, s < r * c → lit r c a s = false) (ha : sA r c a = false) (hb : sB r c a = false) : ∀ e, e < 2 * (r * c) → tr r c (fw c a) e = a e := by
  intro e he
  have z := none_left hB (fun e => a e ^^ tr r c (fw c a) e) (fun s hs => by rw [lit_xor, hl s hs, lit_tr hB _ hs]; rfl) (by rw [sA_xor, ha, sA_tr hB]; rfl) (by rw [sB_xor, hb, sB_tr hB]; rfl) (fun e he te => by
    have hc : 0 < c := by have := hB.2.2.1; omega
    unfold tree at te
    by_cases h : e % 2 = 1
    · rw [if_pos h] at te
      have hm : ¬ e / 2 % c = 0 := by simpa using te
      have e1 : e = 2 * (e / 2) + 1 := by omega
      have hp : 0 < e / 2 := by
        rcases Nat.eq_zero_or_pos (e / 2) with q | q
        · rw [q, Nat.zero_mod] at hm; exact absurd rfl hm
        · exact q
      rw [e1, tr_odd hB (by omega), fw_left a hm hp]
      unfold leftN
      rw [if_neg hm]
      cases fw c a (e / 2 - 1) <;> cases a (2 * (e / 2) + 1) <;> rfl
    · rw [if_neg h] at te
      simp only [Bool.and_eq_true, decide_eq_true_eq] at te
      have e1 : e = 2 * (e / 2) := by omega
      rw [e1, tr_even hB (by omega), fw_up a hc te.1 (by omega)]
      unfold upN
      rw [if_neg (by omega)]
      cases fw c a (e / 2 - c) <;> cases a (2 * (e / 2)) <;> rfl) e he
  cases h1 : a e <;> cases h2 : tr r c (fw c a) e <;> rw [h1, h2] at z <;> first | rfl | cases z
theorem xor_cancel (a b : Bool) : (a ^^ (a ^^ b)) = b := by cases a <;> cases b <;> rfl
theorem sel_nil_iff {n : Nat} {f : Nat → Bool} : sel n f = [] ↔ ∀ k, k < n → f k = false := by
  constructor
  · intro h k hk
    cases e : f k with
    | false => rfl
    | true =>
      have := mem_sel_nat.mpr ⟨hk, e⟩
      rw [h] at this
      cases this
  · intro h
    rw [sel_congr h, sel_ff]

variable {P : Program} {w : World} {K : PySem.W.Frag} {mg : Str → Option Value} {base : Heap}
def othI (r c e : Int) : Int := if e % 2 = 0 then e / 2 / c * c + (if e / 2 % c = c - 1 then 0 else e / 2 % c + 1) else (if e / 2 / c = r - 1 then 0 else e / 2 / c + 1) * c + e / 2 % c
def chkOth : Bool := brds.all fun (r, c) => (List.range (2 * (r * c))).all fun e => decide (othI (r : Int) (c : Int) (e : Int) = endB (r : Int) (c : Int) (e : Int))
theorem chkOth_ok : chkOth = true := by decide +kernel
theorem oth_ok {r c e : Nat} (hB : Brd r c) (he : e < 2 * (r * c)) : othI (r : Int) (c : Int) (e : Int) = endB (r : Int) (c : Int) (e : Int) := of_decide_eq_true (List.all_eq_true.mp (List.all_eq_true.mp chkOth_ok _ (brd_mem hB)) e (List.mem_range.mpr he))
/-- [x + 1, 0][int(..)] -/
theorem sum_bi (f : Int → Bool) : ∀ l : List Int, (l.map fun e => bi (f e)).sum = (((l.filter f).length : Nat) : Int)
  | [] => rfl
  | x :: l => by
    rw [List.map_cons, List.sum_cons, sum_bi f l, List.filter_cons]
    cases f x
    · show 0 + _ = _
      rw [Int.zero_add]; rfl
    · show 1 + _ = (((l.filter f).length + 1 : Nat) : Int)
      omega
end Sb

/-! Seamboard: checks, seams, after, turned. -/
namespace Sb
open PySem PySem.Spec PyProof.Rows L2
theorem rc25 {r c : Nat} (hB : Brd r c) : r * c ≤ 25 := Nat.mul_le_mul hB.2.1 hB.2.2.2
theorem sel_len' {α : Type} (n : Nat) (f : Nat → Bool) (g : Int → α) : ((sel n f).map g).length ≤ n := by rw [List.length_map]; exact sel_len _ _
theorem endsL_in {r c : Nat} (hB : Brd r c) (f : Nat → Bool) : ∀ x ∈ endsL r c (sel (2 * (r * c)) f), 0 ≤ x ∧ x < ((r * c : Nat) : Int) := fun x hx => by
  unfold endsL at hx
  obtain ⟨e, he, hx⟩ := List.mem_flatMap.mp hx
  obtain ⟨k, rfl, hk, _⟩ := mem_sel.mp he
  obtain ⟨a, b, ha, hb, ea, eb⟩ := ends_nat hB hk
  rw [ea, eb] at hx
  simp at hx
  rcases hx with rfl | rfl <;> omega
theorem endsL_len (r c : Int) : ∀ l : List Int, (endsL r c l).length = 2 * l.length
  | [] => rfl
  | x :: l => by
    have := endsL_len r c l
    unfold endsL at this ⊢
    rw [List.flatMap_cons, List.length_append, this, List.length_cons]
    show 2 + 2 * l.length = 2 * (l.length + 1)
    omega
theorem lit_cp {r c : Nat} (f : Nat → Bool) : (sel (r * c) fun k => cp (k : Int) (endsL r c (sel (2 * (r * c)) f))) = sel (r * c) (lit r c f) := sel_congr fun k hk => by
  unfold endsL
  rw [cp_flat]
  refine px_congr fun e _ => ?_
  show (f e && cp (k : Int) ([(e : Int) / 2] ++ [endB r c (e : Int)])) = (f e && uu r c e k)
  rw [cp_app, cp_one, cp_one]
  rfl
theorem v_checks {r c : Nat} (hB : Brd r c) (f : Nat → Bool) : F_checks [bd r c, ti (sel (2 * (r * c)) f)] = some (.ok (ti (sel (r * c) (lit r c f)))) := by
  have h25 := rc25 hB
  have hl := sel_len (2 * (r * c)) f
  have e1 : ∀ x2 : Option Wv, lc2Go (fgName 3) (ret true) (fItT (fCall F_edge_ends (fCons (fVar 0) (fCons (fVar 3) fNil)))) (fgName 4) (ret true) (fVar 4) [4] [some (.d (bd r c)), some (.d (ti (sel (2 * (r * c)) f))), x2, none, none]
      ((sel (2 * (r * c)) f).map .int) none = some ((endsL r c (sel (2 * (r * c)) f)).map .int, none) := fun x2 => by
    rw [lc2Go_to (fun d => match d with | .int e => [.int (e / 2), .int (endB r c e)] | _ => []) (fun _ y => y)]
    · congr 2
      unfold endsL
      rw [List.map_flatMap, List.flatMap_map]
      rfl
    · intro d hd
      obtain ⟨e, _, rfl⟩ := List.mem_map.mp hd
      refine ⟨_, rfl, by simp [v_edge_ends hB], ?_⟩
      rw [lcGo_map (fun y => y)]
      intro d hd
      exact ⟨_, rfl, by simp [wipeS]⟩
  have e2 : ((endsL r c (sel (2 * (r * c)) f)).map PyData.int).length ≤ 50000 := by rw [List.length_map, endsL_len]; omega
  have e3 := v_odd (l := endsL r c (sel (2 * (r * c)) f)) (n := r * c) (by omega) (endsL_in hB f) (x0 := .list ((endsL r c (sel (2 * (r * c)) f)).map .int)) rfl
  rw [lit_cp] at e3
  rw [Int.natCast_mul] at e3
  simp [F_checks, f_checks, v_require_board hB, v_require_flips hB, fLc2, wipeS, e1, v_site_count hB, e3]
  rw [if_pos (by rw [List.length_map] at e2; exact e2)]
  simp [v_site_count hB, e3]
theorem filter_sel (p : Int → Bool) (l : List Int) (g : Dt → Bool) (h : ∀ e, g (.int e) = p e) : ((l.map PyData.int).filter g).map (fun y => y) = (l.filter p).map .int := by
  rw [List.filter_map, show (g ∘ PyData.int) = p from funext h]
  simp
theorem v_seams {r c : Nat} (hB : Brd r c) (f : Nat → Bool) : F_seams [bd r c, ti (sel (2 * (r * c)) f)] = some (.ok (bd (bi (sA r c f)) (bi (sB r c f)))) := by
  have h25 := rc25 hB
  have hl := sel_len (2 * (r * c)) f
  have e0 : ((sel (2 * (r * c)) f).map PyData.int).length ≤ 50000 := by rw [List.length_map]; omega
  have e1 : ∀ x2 x4 : Option Wv, lcGo (fgName 3) (fB (fCall F_crosses_first_seam (fCons (fVar 0) (fCons (fVar 3) fNil)))) (fVar 3) [some (.d (bd r c)), some (.d (ti (sel (2 * (r * c)) f))), x2, none, x4] ((sel (2 * (r * c)) f).map .int) none =
      some (((sel (2 * (r * c)) f).filter (crA r c)).map .int, none) := fun x2 x4 => by
    rw [lcGo_to (fun d => match d with | .int e => crA r c e | _ => false) (fun y => y), filter_sel (crA r c) _ _ fun _ => rfl]
    intro d hd
    obtain ⟨e, _, rfl⟩ := List.mem_map.mp hd
    exact ⟨_, rfl, by simp [v_crosses_first_seam hB], fun _ => by simp⟩
  have e2 : ∀ x2 x4 : Option Wv, lcGo (fgName 3) (fB (fCall F_crosses_second_seam (fCons (fVar 0) (fCons (fVar 3) fNil)))) (fVar 3) [some (.d (bd r c)), some (.d (ti (sel (2 * (r * c)) f))), x2, none, x4] ((sel (2 * (r * c)) f).map .int) none =
      some (((sel (2 * (r * c)) f).filter (crB r c)).map .int, none) := fun x2 x4 => by
    rw [lcGo_to (fun d => match d with | .int e => crB r c e | _ => false) (fun y => y), filter_sel (crB r c) _ _ fun _ => rfl]
    intro d hd
    obtain ⟨e, _, rfl⟩ := List.mem_map.mp hd
    exact ⟨_, rfl, by simp [v_crosses_second_seam hB], fun _ => by simp⟩
  have e3 : ∀ p : Int → Bool, ((((sel (2 * (r * c)) f).filter p).length : Nat) : Int) % 2 = bi (px (2 * (r * c)) fun e => f e && p (e : Int)) := fun p => by rw [bi_of, par_len]
  simp only [List.length_map] at e0
  simp [F_seams, f_seams, v_require_board hB, v_require_flips hB, fLc, wipeS, e0, e1, e2, oMod_i, e3]
  exact ⟨rfl, rfl⟩
theorem in_e {r c : Nat} (f : Nat → Bool) : ∀ x ∈ sel (2 * (r * c)) f, 0 ≤ x ∧ x < ((2 * (r * c) : Nat) : Int) := fun x hx => by
  obtain ⟨k, rfl, h, _⟩ := mem_sel.mp hx
  omega
theorem v_after {r c : Nat} (hB : Brd r c) (f g : Nat → Bool) : F_after [bd r c, ti (sel (2 * (r * c)) f), ti (sel (2 * (r * c)) g)] = some (.ok (ti (sel (2 * (r * c)) fun k => f k ^^ g k))) := by
  have h25 := rc25 hB
  have hl := sel_len (2 * (r * c)) f
  have hl2 := sel_len (2 * (r * c)) g
  have e1 := oCatT_e (x := (sel (2 * (r * c)) f).map PyData.int) (y := (sel (2 * (r * c)) g).map .int) (by rw [List.length_map, List.length_map]; omega)
  rw [← List.map_append] at e1
  have e3 := v_odd (l := sel (2 * (r * c)) f ++ sel (2 * (r * c)) g) (n := 2 * (r * c)) (by omega) (fun x hx => by
    rcases List.mem_append.mp hx with h | h
    · exact in_e f x h
    · exact in_e g x h) (x0 := ti (sel (2 * (r * c)) f ++ sel (2 * (r * c)) g)) rfl
  have e4 : (sel (2 * (r * c)) fun k => cp (k : Int) (sel (2 * (r * c)) f ++ sel (2 * (r * c)) g)) = sel (2 * (r * c)) fun k => f k ^^ g k := sel_congr fun k hk => by rw [cp_app, cp_sel f hk, cp_sel g hk]
  rw [e4] at e3
  rw [Int.natCast_mul, Int.natCast_mul] at e3
  have e5 : F_odd_ones [.tuple ((sel (2 * (r * c)) f).map .int ++ (sel (2 * (r * c)) g).map .int), .int (2 * ((r : Int) * c))] = some (.ok (ti (sel (2 * (r * c)) fun k => f k ^^ g k))) := by rw [← List.map_append]; exact e3
  rw [List.map_append] at e1
  simp [F_after, f_after, v_require_board hB, v_require_flips hB, e1, v_edge_count hB, e5]
theorem v_edges_round {r c : Nat} (hB : Brd r c) (p : Int) : F_edges_round [bd r c, .int p] = some (.ok (ti (rnd r c p))) := by
  simp [F_edges_round, f_edges_round, v_site_below hB, v_site_right_of hB, oMul_i, rnd]

theorem rnd_in {r c : Nat} (hB : Brd r c) (F : Nat → Bool) : ∀ x ∈ (sel (r * c) F).flatMap (rnd r c), 0 ≤ x ∧ x < ((2 * (r * c) : Nat) : Int) := fun x hx => by
  obtain ⟨h1, h2, h3, h4⟩ := hB
  obtain ⟨p, hp, hx⟩ := List.mem_flatMap.mp hx
  obtain ⟨k, rfl, hk, _⟩ := mem_sel.mp hp
  have hrc : (((r * c : Nat) : Int)) = (r : Int) * c := Int.natCast_mul r c
  have a1 := right_in (r := (r : Int)) (c := c) (s := k) (by omega) ⟨by omega, by rw [← hrc]; omega⟩ (by omega) (by omega) (by omega)
  have a2 := below_in (r := (r : Int)) (c := c) (s := k) (by omega) (by omega)
  rw [← hrc] at a1 a2
  unfold rnd at hx
  simp at hx
  omega
theorem tr_cp {r c : Nat} (f F : Nat → Bool) : (sel (2 * (r * c)) fun k => cp (k : Int) (sel (2 * (r * c)) f ++ (sel (r * c) F).flatMap (rnd r c))) = sel (2 * (r * c)) fun k => f k ^^ tr r c F k := sel_congr fun k hk => by
  rw [cp_app, cp_sel f hk, cp_flat]
  congr 1
  exact px_congr fun p _ => by rw [cp_rnd]
theorem v_turned {r c : Nat} (hB : Brd r c) (f F : Nat → Bool) : F_turned [bd r c, ti (sel (2 * (r * c)) f), ti (sel (r * c) F)] = some (.ok (ti (sel (2 * (r * c)) fun k => f k ^^ tr r c F k))) := by
  have h25 := rc25 hB
  have hl := sel_len (2 * (r * c)) f
  have hl2 := sel_len (r * c) F
  have hf := rnd_len (r : Int) c (sel (r * c) F)
  have e1 : ∀ x3 : Option Wv, lc2Go (fgName 4) (ret true) (fItT (fCall F_edges_round (fCons (fVar 0) (fCons (fVar 4) fNil)))) (fgName 5) (ret true) (fVar 5) [5] [some (.d (bd r c)), some (.d (ti (sel (2 * (r * c)) f))), some (.d (ti (sel (r * c) F))), x3, none, none]
      ((sel (r * c) F).map .int) none = some (((sel (r * c) F).flatMap (rnd r c)).map .int, none) := fun x3 => by
    rw [lc2Go_to (fun d => match d with | .int e => (rnd r c e).map .int | _ => []) (fun _ y => y)]
    · congr 2
      rw [List.map_flatMap, List.flatMap_map]
      simp [Function.comp_def]
    · intro d hd
      obtain ⟨e, _, rfl⟩ := List.mem_map.mp hd
      refine ⟨_, rfl, by simp [v_edges_round hB], ?_⟩
      rw [lcGo_map (fun y => y)]
      intro d hd
      exact ⟨_, rfl, by simp [wipeS]⟩
  have e2 : (((sel (r * c) F).flatMap (rnd r c)).map PyData.int).length ≤ 50000 := by rw [List.length_map]; omega
  have e3 := v_odd (l := sel (2 * (r * c)) f ++ (sel (r * c) F).flatMap (rnd r c)) (n := 2 * (r * c)) (by omega) (fun x hx => by
    rcases List.mem_append.mp hx with h | h
    · exact in_e f x h
    · exact rnd_in hB F x h) (x0 := .list ((sel (2 * (r * c)) f ++ (sel (r * c) F).flatMap (rnd r c)).map .int)) rfl
  rw [tr_cp, Int.natCast_mul, Int.natCast_mul] at e3
  have e5 : F_odd_ones [.list ((sel (2 * (r * c)) f).map .int ++ ((sel (r * c) F).flatMap (rnd r c)).map .int), .int (2 * ((r : Int) * c))] = some (.ok (ti (sel (2 * (r * c)) fun k => f k ^^ tr r c F k))) := by rw [← List.map_append]; exact e3
  have e6 := few_e (ds := (sel (2 * (r * c)) f).map .int ++ ((sel (r * c) F).flatMap (rnd r c)).map .int) (by rw [List.length_append, List.length_map, List.length_map]; omega)
  simp only [F_turned, f_turned, runF_at]
  have e7 : fLc2 (fItT (fVar 2)) (fgName 4) (ret true) (fItT (fCall F_edges_round (fCons (fVar 0) (fCons (fVar 4) fNil)))) (fgName 5) (ret true) (fVar 5) [4, 5] [5] [some (.d (bd r c)), some (.d (ti (sel (2 * (r * c)) f))), some (.d (ti (sel (r * c) F))), none, none, none] none = some (.ok (((sel (r * c) F).flatMap (rnd r c)).map .int), none) := 
    fLc2_to (ρ1 := none) (ds := (sel (r * c) F).map .int) (by simp) (by simp only [wipeS]; exact e1 none) e2
  simp [v_require_board hB, v_require_flips hB, v_require_faces hB, e7, v_edge_count hB, e5, e6]
end Sb

/-! Seamboard: what is drawn. -/
namespace Sb
open PySem PySem.Spec PyProof.Rows L2
@[simp] theorem runW_at (np n : Nat) (b : MS) (x : Rw) (ds : List Dt) : runW np n b x ds = if ds.length + 1 = np then outW (b (some .row :: argS (n - 1) ds) (some x)) else none := rfl
@[simp] theorem outW_rt (d : Dt) (x : Rw) : outW (some (.rt d (some x))) = some (.ok d, x) := rfl
@[simp] theorem outW_nx (s : Ss) (x : Rw) : outW (some (.nx s (some x))) = some (.ok .none, x) := rfl
@[simp] theorem fCallR_at {s : Ss} {ρ : Ro} (F : Fr) (i : Nat) (t : ME (List Dt)) : fCallR F i t s ρ = match s[i]? with
  | some (some .row) => bnd t (fun ds s ρ => match ρ with
    | none => none
    | some x => match F x ds with
      | none => none
      | some (r, x') => some (r, some x')) s ρ
  | _ => none := rfl
theorem oPow_i {i j : Int} {f : Int → Int → Int} (h : cPow i j = true) : oIC cPow f (.int i) (.int j) = some (.int (f i j)) := if_pos h
theorem lft_of {α : Type} {o : Option α} {a : α} {s : Ss} {ρ : Ro} (h : o = some a) : (lft o : ME α) s ρ = some (.ok a, ρ) := by subst h; rfl
theorem upto_filter (n : Nat) (g : Nat → Bool) (p : Dt → Bool) (hp : ∀ k : Nat, k < n → p (.int (0 + (k : Int))) = g k) : ((upto 0 n).filter p).map (fun d => d) = (sel n g).map PyData.int := by
  unfold upto sel
  rw [List.filter_map, List.map_map, List.map_map]
  have e2 : (List.range n).filter (p ∘ fun (i : Nat) => PyData.int (0 + (i : Int))) = (List.range n).filter g := List.filter_congr fun k hk => hp k (List.mem_range.mp hk)
  rw [e2]
  apply List.map_congr_left
  intro i _
  show PyData.int (0 + (i : Int)) = PyData.int (i : Int)
  rw [Int.zero_add]

theorem fSeq_assoc (a b c : MS) (s : Ss) (ρ : Ro) : fSeq a (fSeq b c) s ρ = fSeq (fSeq a b) c s ρ := by
  unfold fSeq
  cases a s ρ with
  | none => rfl
  | some o => cases o <;> rfl
theorem d_taken {x : Rw} (hx : 0 ≤ x.i) {m : Int} (h : 0 < m ∧ m < 1073741824) : ∃ (k : Nat) (x' : Rw), F__law_taken x [.int m] = some (.ok (.int k), x') ∧ (k : Int) < m ∧ 0 ≤ x'.i := by
  obtain ⟨ns, i, s0, r⟩ := x
  simp only [] at hx
  have fin : ∀ y : Int, ∃ k : Nat, y % m = k ∧ (k : Int) < m := fun y => by
    have a := Int.emod_nonneg y (show m ≠ 0 by omega)
    have b := Int.emod_lt_of_pos y h.1
    exact ⟨(y % m).toNat, by omega, by omega⟩
  by_cases h1 : 0 < r
  · obtain ⟨k, e, hk⟩ := fin r
    refine ⟨k, ⟨ns, i, s0, r / m⟩, ?_, hk, hx⟩
    simp [F__law_taken, f__law_taken, fRowI, Rw.at_, Rw.put, fRowSet, h1, oMod_i h.1, oDiv_i h, e]
  · by_cases h2 : (ns.length : Int) < i + 1
    · obtain ⟨k, e, hk⟩ := fin ((s0 * 48271 + 11) % 2147483647 / 7)
      refine ⟨k, ⟨ns, i + 1, (s0 * 48271 + 11) % 2147483647, r⟩, ?_, hk, by show 0 ≤ i + 1; omega⟩
      simp [F__law_taken, f__law_taken, fRowI, Rw.at_, Rw.put, fRowSet, fRowLen, h1, h2, oMod_i h.1, oMod_i, oDiv_i, oMul_i, e]
    · obtain ⟨n, hn⟩ : ∃ n, ns[i.toNat]? = some n := ⟨ns[i.toNat]'(by omega), List.getElem?_eq_getElem _⟩
      have hat : atI ns i = some n := atI_in hx hn
      obtain ⟨k, e, hk⟩ := fin n
      have hp : oIC cPow (fun i j => i ^ j.toNat) (.int 10) (.int 18) = some (.int 1000000000000000000) := oPow_i (by decide)
      by_cases h3 : (1000000000000000000 : Int) ≤ n
      · refine ⟨k, ⟨ns, i + 1, (s0 * 48271 + n + 11) % 2147483647, n / m⟩, ?_, hk, by show 0 ≤ i + 1; omega⟩
        simp [F__law_taken, f__law_taken, fRowI, Rw.at_, Rw.put, fRowSet, fRowLen, fRowAt, h1, h2, hat, hp, h3, oMod_i h.1, oMod_i, oDiv_i h, oMul_i, e]
      · refine ⟨k, ⟨ns, i + 1, (s0 * 48271 + n + 11) % 2147483647, r⟩, ?_, hk, by show 0 ≤ i + 1; omega⟩
        simp [F__law_taken, f__law_taken, fRowI, Rw.at_, Rw.put, fRowSet, fRowLen, fRowAt, h1, h2, hat, hp, h3, oMod_i h.1, oMod_i, oMul_i, e]
theorem d_board {x : Rw} (hx : 0 ≤ x.i) {m : Int} (h : 2 ≤ m ∧ m ≤ 5) : ∃ (r c : Nat) (x' : Rw), F__law_board x [.int m] = some (.ok (bd r c), x') ∧ Brd r c ∧ (r : Int) ≤ m ∧ (c : Int) ≤ m ∧ 0 ≤ x'.i := by
  obtain ⟨k, x1, e1, hk, hx1⟩ := d_taken hx (m := m - 1) (by omega)
  obtain ⟨j, x2, e2, hj, hx2⟩ := d_taken hx1 (m := m - 1) (by omega)
  refine ⟨2 + k, 2 + j, x2, ?_, ⟨by omega, by omega, by omega, by omega⟩, by omega, by omega, hx2⟩
  simp [F__law_board, f__law_board, e1, e2]
theorem some_loop {n : Nat} {t : Int} (hn : 1 ≤ n ∧ n ≤ 50) : ∀ (ds : List Dt) (l : List Int) (x : Rw) (x4 x5 : Option Wv), 0 ≤ x.i → l.Nodup → (∀ y ∈ l, 0 ≤ y ∧ y < (n : Int)) → l.length + ds.length ≤ 1000 →
    ∃ (l' : List Int) (x' : Rw) (y4 y5 : Option Wv), forGo (fgName 4) (fSeq (fAsg (fCallR F__law_taken 0 (fCons (fVar 1) fNil)) (fgName 5))
      (fAsg (fN (fOpN oCat (fVar 3) (fN (fOpN oRep (fN (fLst (fCons (fVar 5) fNil))) (fCB oInt (fCons (fOp oNi (fVar 5) (fVar 3)) fNil)))))) (fgName 3))) ds [some .row, some (.d (.int n)), some (.d (.int t)), some (.d (li l)), x4, x5] (some x) =
      some (.nx [some .row, some (.d (.int n)), some (.d (.int t)), some (.d (li l')), y4, y5] (some x')) ∧ l'.Nodup ∧ (∀ y ∈ l', 0 ≤ y ∧ y < (n : Int)) ∧ 0 ≤ x'.i ∧ l'.length ≤ l.length + ds.length
  | [], l, x, x4, x5, hx, h1, h2, h3 => ⟨l, x, x4, x5, rfl, h1, h2, hx, Nat.le_refl _⟩
  | d :: ds, l, x, x4, x5, hx, h1, h2, h3 => by
    obtain ⟨k, x1, e1, hk, hx1⟩ := d_taken hx (m := n) (by omega)
    rw [List.length_cons] at h3
    have hfl : (flatD (.int k) && (l.map PyData.int).all flatD) = true := by
      rw [Bool.and_eq_true]; exact ⟨rfl, List.all_eq_true.mpr fun z hz => by obtain ⟨_, _, rfl⟩ := List.mem_map.mp hz; rfl⟩
    have hni : oNi (.int k) (li l) = some (.bool (!hasI k l)) := by
      show (if (flatD (.int k) && (l.map PyData.int).all flatD) = true then some (PyData.bool (!inD (.int k) (l.map .int))) else none) = _
      rw [if_pos hfl]
      have : inD (.int k) (l.map PyData.int) = hasI k l := by
        unfold inD hasI
        rw [List.any_map]
        induction l with
        | nil => rfl
        | cons a l ih =>
          rw [List.any_cons, List.contains_cons, ih (List.nodup_cons.mp h1).2 (fun y hy => h2 y (List.mem_cons_of_mem _ hy)) (by rw [List.length_cons] at h3; omega) (by rw [List.map_cons, List.all_cons, Bool.and_eq_true, Bool.and_eq_true] at hfl; rw [Bool.and_eq_true]; exact ⟨rfl, hfl.2.2⟩)]
          congr 1
          show (a == (k : Int)) = ((k : Int) == a)
          exact BEq.comm
      rw [this]
    by_cases hm : (k : Int) ∈ l
    · have hh : hasI k l = true := hasI_mem.mpr hm
      obtain ⟨l', x', y4, y5, g1, g2, g3, g4, g5⟩ := some_loop (t := t) hn ds l x1 (some (.d d)) (some (.d (.int k))) hx1 h1 h2 (by omega)
      refine ⟨l', x', y4, y5, ?_, g2, g3, g4, by rw [List.length_cons]; omega⟩
      have ec := oCat_e (x := l.map PyData.int) (y := []) (by rw [List.length_map]; simp; omega)
      rw [hh] at hni
      rw [forGo_cons]
      simp [e1, hni, few_e, oRep_e (x := [PyData.int k]) (k := 0) ⟨by decide, by decide, by show 1 ≤ 100; decide⟩, ec]
      exact g1
    · have hh : hasI k l = false := by
        cases q : hasI (k : Int) l with
        | false => rfl
        | true => exact absurd (hasI_mem.mp q) hm
      have h1' : (l ++ [(k : Int)]).Nodup := List.nodup_append.mpr ⟨h1, by simp, fun a ha b hb => by rw [List.mem_singleton] at hb; subst hb; exact fun e => hm (e ▸ ha)⟩
      obtain ⟨l', x', y4, y5, g1, g2, g3, g4, g5⟩ := some_loop (t := t) hn ds (l ++ [(k : Int)]) x1 (some (.d d)) (some (.d (.int k))) hx1 h1' (fun y hy => by
        rcases List.mem_append.mp hy with h | h
        · exact h2 y h
        · rw [List.mem_singleton] at h; omega) (by rw [List.length_append]; simp; omega)
      refine ⟨l', x', y4, y5, ?_, g2, g3, g4, by rw [List.length_append] at g5; simp at g5; rw [List.length_cons]; omega⟩
      have ec := oCat_e (x := l.map PyData.int) (y := [.int k]) (by rw [List.length_map]; simp; omega)
      rw [hh] at hni
      rw [forGo_cons]
      simp [e1, hni, few_e, oRep_e (x := [PyData.int k]) (k := 1) ⟨by decide, by decide, by show 1 ≤ 100; decide⟩, ec]
      simp only [li, List.map_append, List.map_cons, List.map_nil] at g1 ⊢
      exact g1
theorem d_some {x : Rw} (hx : 0 ≤ x.i) {n : Nat} {t : Int} (h : 1 ≤ n ∧ n ≤ 50 ∧ 0 ≤ t ∧ t ≤ 50) : ∃ (f : Nat → Bool) (x' : Rw), F__law_some x [.int n, .int t] = some (.ok (ti (sel n f)), x') ∧ 0 ≤ x'.i ∧ ((sel n f).length : Int) ≤ t := by
  obtain ⟨k, x1, e1, hk, hx1⟩ := d_taken hx (m := min (n : Int) t + 1) (by omega)
  obtain ⟨l', x', y4, y5, g1, g2, g3, g4, g5⟩ := some_loop (t := t) ⟨h.1, h.2.1⟩ (upto 0 k) [] x1 none none hx1 List.nodup_nil (fun y hy => nomatch hy) (by rw [upto_len]; simp; omega)
  have er := oRng1_e (j := k) (by omega)
  have e := sel_of (srt_lt g2) (n := n) fun y hy => g3 y ((srt_perm l').mem_iff.mp hy)
  refine ⟨fun k => hasI (k : Int) (srt l'), x', ?_, g4, ?_⟩
  · simp [F__law_some, f__law_some, few_e, oMin2, e1, er]
    rw [show ([] : List Dt) = ([] : List Int).map .int from rfl] 
    rw [g1]
    simp [oSorted, toInts_map]
    exact congrArg (List.map PyData.int) e
  · rw [← e, (srt_perm l').length_eq]
    rw [upto_len] at g5
    simp at g5
    omega

theorem d_flips {x : Rw} (hx : 0 ≤ x.i) {r c : Nat} (hB : Brd r c) : ∃ (f : Nat → Bool) (x' : Rw), F__law_flips x [bd r c] = some (.ok (ti (sel (2 * (r * c)) f)), x') ∧ 0 ≤ x'.i := by
  have h25 := rc25 hB
  have h4 : 4 ≤ r * c := Nat.mul_le_mul hB.1 hB.2.2.1
  obtain ⟨hr1, hr2, hc1, hc2⟩ := hB
  have hrc : (((r * c : Nat) : Int)) = (r : Int) * c := Int.natCast_mul r c
  obtain ⟨k1, x1, e1, hk1, hx1⟩ := d_taken hx (m := 3) (by omega)
  obtain ⟨T, hT, hTb⟩ : ∃ T : Int, atI [PyData.int 3, .int 6, .int (2 * ((r : Int) * c))] k1 = some (.int T) ∧ 0 ≤ T ∧ T ≤ 50 := by
    have : k1 = 0 ∨ k1 = 1 ∨ k1 = 2 := by omega
    rcases this with rfl | rfl | rfl
    · exact ⟨3, rfl, by omega, by omega⟩
    · exact ⟨6, rfl, by omega, by omega⟩
    · exact ⟨2 * ((r : Int) * c), rfl, by omega, by omega⟩
  obtain ⟨f0, x2, e2, hx2, _⟩ := d_some hx1 (n := 2 * (r * c)) (t := T) (by omega)
  rw [show ((2 * (r * c) : Nat) : Int) = 2 * ((r : Int) * c) by rw [Int.natCast_mul, hrc]; rfl] at e2
  have hl0 := sel_len (2 * (r * c)) f0
  have m1 : oIC cMul (fun i j => i * j) (.int (r : Int)) (.int c) = some (.int (r * c)) := oMul_i (by omega)
  -- what is counted at the end
  have tail : ∀ (l : List Int) (y4 y5 : Option Wv) (y : Rw), fRet (fCB oTup (fCons (fN (fLc (fRng1 (fCons (fOp oMul (ret (.int 2)) (fVar 2)) fNil)) (fgName 6) (fB (fOp oEq (fOp oMod (fCountL (fVar 3) (fCons (fVar 6) fNil)) (ret (.int 2))) (ret (.int 1)))) (fVar 6) [6])) fNil))
      [some .row, some (.d (bd r c)), some (.d (.int (r * c))), some (.d (li l)), y4, y5, none] (some y) = some (.rt (ti (sel (2 * (r * c)) fun k => cp k l)) (some y)) := fun l y4 y5 y => by
    have er := oRng1_e (j := 2 * ((r : Int) * c)) (by omega)
    have hn : (2 * ((r : Int) * c)).toNat = 2 * (r * c) := by rw [← hrc]; omega
    rw [hn] at er
    have el : lcGo (fgName 6) (fB (fOp oEq (fOp oMod (fCountL (fVar 3) (fCons (fVar 6) fNil)) (ret (.int 2))) (ret (.int 1)))) (fVar 6)
        [some .row, some (.d (bd r c)), some (.d (.int (r * c))), some (.d (li l)), y4, y5, none] (upto 0 (2 * (r * c))) (some y) = some ((sel (2 * (r * c)) fun k => cp k l).map .int, some y) := by
      rw [lcGo_to (fun d => match d with | .int i => cp i l | _ => false) (fun d => d), upto_filter _ (fun k => cp k l)]
      · intro k _; show cp (0 + (k : Int)) l = _; rw [Int.zero_add]
      · intro d hd
        obtain ⟨k, _, rfl⟩ := List.mem_map.mp hd
        refine ⟨_, rfl, ?_, fun _ => by simp⟩
        simp [fCountL, toInts_map, oMod_i, cp]
        omega
    have hle : (upto 0 (2 * (r * c))).length ≤ 50000 := by rw [upto_len]; omega
    simp [oMul_i, er, fLc, wipeS, el, hle]
  have ring : ∀ (l : List Int) (m : Nat) (g : Nat → Int), l.length ≤ 60 → m ≤ 5 → oCat (li l) (.list ((upto 0 m).map fun d => match d with | .int i => .int (g i.toNat) | d => d)) = some ((l ++ (List.range m).map g).map .int) := fun l m g hl hm => by
    have e : (upto 0 m).map (fun d => match d with | .int i => PyData.int (g i.toNat) | d => d) = ((List.range m).map g).map .int := by
      unfold upto
      rw [List.map_map, List.map_map]
      apply List.map_congr_left
      intro i _
      show PyData.int (g (0 + (i : Int)).toNat) = _
      rw [show (0 + (i : Int)).toNat = i by omega]; rfl
    have ec := oCat_e (x := l.map PyData.int) (y := ((List.range m).map g).map .int) (by simp; omega)
    rw [e, ec, List.map_append]
  -- a whole row of sites, perhaps
  obtain ⟨k2, x3, e3, hk2, hx3⟩ := d_taken hx2 (m := 4) (by omega)
  have step1 : ∃ (l : List Int) (y4 y5 : Option Wv) (y : Rw), fIfS (fB (fOp oEq (fCallR F__law_taken 0 (fCons (ret (.int 4)) fNil)) (ret (.int 0))))
      (fSeq (fAsg (fCallR F__law_taken 0 (fCons (fOp oIxT (fVar 1) (ret (.int 0))) fNil)) (fgName 4))
      (fAsg (fN (fOpN oCat (fVar 3) (fN (fLc (fRng1 (fCons (fOp oIxT (fVar 1) (ret (.int 1))) fNil)) (fgName 5) (ret true) (fOp oMul (ret (.int 2)) (fOp oAdd (fOp oMul (fVar 4) (fOp oIxT (fVar 1) (ret (.int 1)))) (fVar 5))) [5])))) (fgName 3))) fNext
      [some .row, some (.d (bd r c)), some (.d (.int (r * c))), some (.d (li (sel (2 * (r * c)) f0))), none, none, none] (some x2) = some (.nx [some .row, some (.d (bd r c)), some (.d (.int (r * c))), some (.d (li l)), y4, y5, none] (some y)) ∧ 0 ≤ y.i ∧ l.length ≤ 55 := by
    by_cases h : k2 = 0
    · subst h
      obtain ⟨k3, x4, e4, hk3, hx4⟩ := d_taken hx3 (m := r) (by omega)
      have er := oRng1_e (j := (c : Int)) (by omega)
      rw [Int.toNat_natCast] at er
      have el : lcGo (fgName 5) (ret true) (fOp oMul (ret (.int 2)) (fOp oAdd (fOp oMul (fVar 4) (fOp oIxT (fVar 1) (ret (.int 1)))) (fVar 5)))
          [some .row, some (.d (bd r c)), some (.d (.int (r * c))), some (.d (li (sel (2 * (r * c)) f0))), some (.d (.int k3)), none, none] (upto 0 c) (some x4) = some ((upto 0 c).map (fun d => match d with | .int i => .int ((fun i : Nat => 2 * ((k3 : Int) * c + i)) i.toNat) | d => d), some x4) := by
        rw [lcGo_map]
        intro d hd
        obtain ⟨k, hk, rfl⟩ := List.mem_map.mp hd
        refine ⟨_, rfl, ?_⟩
        simp [oMul_i (i := (k3 : Int)) (j := c) (by omega), oMul_i]
      have rg := ring (sel (2 * (r * c)) f0) c (fun i : Nat => 2 * ((k3 : Int) * c + i)) (by omega) hc2
      refine ⟨sel (2 * (r * c)) f0 ++ (List.range c).map (fun i : Nat => 2 * ((k3 : Int) * c + i)), some (.d (.int k3)), none, x4, ?_, hx4, by simp; omega⟩
      have hle : (upto 0 c).length ≤ 50000 := by rw [upto_len]; omega
      simp [e3, e4, fLc, wipeS, er, hle]
      rw [el]
      simp only [] at rg ⊢
      rw [lft_of rg]
    · refine ⟨sel (2 * (r * c)) f0, none, none, x3, ?_, hx3, by omega⟩
      have h' : ¬ (k2 : Int) = 0 := by omega
      simp [e3, h]
  obtain ⟨l1, y4, y5, x5, s1, hx5, hl1⟩ := step1
  obtain ⟨k4, x6, e6, hk4, hx6⟩ := d_taken hx5 (m := 4) (by omega)
  have step2 : ∃ (l : List Int) (z4 z5 : Option Wv) (y : Rw), fIfS (fB (fOp oEq (fCallR F__law_taken 0 (fCons (ret (.int 4)) fNil)) (ret (.int 0))))
      (fSeq (fAsg (fCallR F__law_taken 0 (fCons (fOp oIxT (fVar 1) (ret (.int 1))) fNil)) (fgName 4))
      (fAsg (fN (fOpN oCat (fVar 3) (fN (fLc (fRng1 (fCons (fOp oIxT (fVar 1) (ret (.int 0))) fNil)) (fgName 5) (ret true) (fOp oAdd (fOp oMul (ret (.int 2)) (fOp oAdd (fOp oMul (fVar 5) (fOp oIxT (fVar 1) (ret (.int 1)))) (fVar 4))) (ret (.int 1))) [5])))) (fgName 3))) fNext
      [some .row, some (.d (bd r c)), some (.d (.int (r * c))), some (.d (li l1)), y4, y5, none] (some x5) = some (.nx [some .row, some (.d (bd r c)), some (.d (.int (r * c))), some (.d (li l)), z4, z5, none] (some y)) ∧ 0 ≤ y.i := by
    by_cases h : k4 = 0
    · subst h
      obtain ⟨k3, x4, e4, hk3, hx4⟩ := d_taken hx6 (m := c) (by omega)
      have er := oRng1_e (j := (r : Int)) (by omega)
      rw [Int.toNat_natCast] at er
      have el : lcGo (fgName 5) (ret true) (fOp oAdd (fOp oMul (ret (.int 2)) (fOp oAdd (fOp oMul (fVar 5) (fOp oIxT (fVar 1) (ret (.int 1)))) (fVar 4))) (ret (.int 1)))
          [some .row, some (.d (bd r c)), some (.d (.int (r * c))), some (.d (li l1)), some (.d (.int k3)), none, none] (upto 0 r) (some x4) = some ((upto 0 r).map (fun d => match d with | .int i => .int ((fun i : Nat => 2 * ((i : Int) * c + k3) + 1) i.toNat) | d => d), some x4) := by
        rw [lcGo_map]
        intro d hd
        obtain ⟨k, hk, rfl⟩ := List.mem_map.mp hd
        refine ⟨_, rfl, ?_⟩
        simp [oMul_i (i := (k : Int)) (j := c) (by omega), oMul_i]
      have rg := ring l1 r (fun i : Nat => 2 * ((i : Int) * c + k3) + 1) (by omega) hr2
      refine ⟨l1 ++ (List.range r).map (fun i : Nat => 2 * ((i : Int) * c + k3) + 1), some (.d (.int k3)), y5, x4, ?_, hx4⟩
      have hle : (upto 0 r).length ≤ 50000 := by rw [upto_len]; omega
      simp [e6, e4, fLc, wipeS, er, hle]
      rw [el]
      simp only [] at rg ⊢
      rw [lft_of rg]
    · refine ⟨l1, y4, y5, x6, ?_, hx6⟩
      simp [e6, h]
  obtain ⟨l2, z4, z5, x7, s2, hx7⟩ := step2
  refine ⟨fun k => cp k l2, x7, ?_, hx7⟩
  have e0 : fSeq (fAsg (fOp oMul (fOp oIxT (fVar 1) (ret (.int 0))) (fOp oIxT (fVar 1) (ret (.int 1)))) (fgName 2)) (fAsg (fN (fCBN oListOf (fCons (fCallR F__law_some 0 (fCons (fOp oMul (ret (.int 2)) (fVar 2)) (fCons (fOp oIxL (fN (fLst (fCons (ret (.int 3)) (fCons (ret (.int 6)) (fCons (fOp oMul (ret (.int 2)) (fVar 2)) fNil))))) (fCallR F__law_taken 0 (fCons (ret (.int 3)) fNil))) fNil))) fNil))) (fgName 3))
      [some .row, some (.d (bd r c)), none, none, none, none, none] (some x) = some (.nx [some .row, some (.d (bd r c)), some (.d (.int (r * c))), some (.d (li (sel (2 * (r * c)) f0))), none, none, none] (some x2)) := by
    simp [m1, oMul_i, e1, hT, e2, few_e, oListOf]
  rw [fSeq_at] at e0
  simp only [F__law_flips, f__law_flips, runW_at]
  rw [if_pos (by rfl)]
  show outW (fSeq _ (fSeq _ (fSeq _ (fSeq _ _))) [some .row, some (.d (bd r c)), none, none, none, none, none] (some x)) = _
  rw [fSeq_assoc, fSeq_to (by rw [fSeq_at]; exact e0), fSeq_to s1, fSeq_to s2, tail]
  rfl
theorem d_taken_2 {x : Rw} (hx : 0 ≤ x.i) {m : Int} (h : 0 < m ∧ m < 1073741824) : ∃ (k : Nat) (x' : Rw), F__law_taken_2 x [.int m] = some (.ok (.int k), x') ∧ (k : Int) < m ∧ 0 ≤ x'.i := by
  obtain ⟨ns, i, s0, r⟩ := x
  simp only [] at hx
  have fin : ∀ y : Int, ∃ k : Nat, y % m = k ∧ (k : Int) < m := fun y => by
    have a := Int.emod_nonneg y (show m ≠ 0 by omega)
    have b := Int.emod_lt_of_pos y h.1
    exact ⟨(y % m).toNat, by omega, by omega⟩
  by_cases h1 : 0 < r
  · obtain ⟨k, e, hk⟩ := fin r
    refine ⟨k, ⟨ns, i, s0, r / m⟩, ?_, hk, hx⟩
    simp [F__law_taken_2, f__law_taken_2, fRowI, Rw.at_, Rw.put, fRowSet, h1, oMod_i h.1, oDiv_i h, e]
  · by_cases h2 : (ns.length : Int) < i + 1
    · obtain ⟨k, e, hk⟩ := fin ((s0 * 48271 + 11) % 2147483647 / 7)
      refine ⟨k, ⟨ns, i + 1, (s0 * 48271 + 11) % 2147483647, r⟩, ?_, hk, by show 0 ≤ i + 1; omega⟩
      simp [F__law_taken_2, f__law_taken_2, fRowI, Rw.at_, Rw.put, fRowSet, fRowLen, h1, h2, oMod_i h.1, oMod_i, oDiv_i, oMul_i, e]
    · obtain ⟨n, hn⟩ : ∃ n, ns[i.toNat]? = some n := ⟨ns[i.toNat]'(by omega), List.getElem?_eq_getElem _⟩
      have hat : atI ns i = some n := atI_in hx hn
      obtain ⟨k, e, hk⟩ := fin n
      have hp : oIC cPow (fun i j => i ^ j.toNat) (.int 10) (.int 18) = some (.int 1000000000000000000) := oPow_i (by decide)
      by_cases h3 : (1000000000000000000 : Int) ≤ n
      · refine ⟨k, ⟨ns, i + 1, (s0 * 48271 + n + 11) % 2147483647, n / m⟩, ?_, hk, by show 0 ≤ i + 1; omega⟩
        simp [F__law_taken_2, f__law_taken_2, fRowI, Rw.at_, Rw.put, fRowSet, fRowLen, fRowAt, h1, h2, hat, hp, h3, oMod_i h.1, oMod_i, oDiv_i h, oMul_i, e]
      · refine ⟨k, ⟨ns, i + 1, (s0 * 48271 + n + 11) % 2147483647, r⟩, ?_, hk, by show 0 ≤ i + 1; omega⟩
        simp [F__law_taken_2, f__law_taken_2, fRowI, Rw.at_, Rw.put, fRowSet, fRowLen, fRowAt, h1, h2, hat, hp, h3, oMod_i h.1, oMod_i, oMul_i, e]
theorem d_board_2 {x : Rw} (hx : 0 ≤ x.i) {m : Int} (h : 2 ≤ m ∧ m ≤ 5) : ∃ (r c : Nat) (x' : Rw), F__law_board_2 x [.int m] = some (.ok (bd r c), x') ∧ Brd r c ∧ (r : Int) ≤ m ∧ (c : Int) ≤ m ∧ 0 ≤ x'.i := by
  obtain ⟨k, x1, e1, hk, hx1⟩ := d_taken_2 hx (m := m - 1) (by omega)
  obtain ⟨j, x2, e2, hj, hx2⟩ := d_taken_2 hx1 (m := m - 1) (by omega)
  refine ⟨2 + k, 2 + j, x2, ?_, ⟨by omega, by omega, by omega, by omega⟩, by omega, by omega, hx2⟩
  simp [F__law_board_2, f__law_board_2, e1, e2]
theorem some_loop_2 {n : Nat} {t : Int} (hn : 1 ≤ n ∧ n ≤ 50) : ∀ (ds : List Dt) (l : List Int) (x : Rw) (x4 x5 : Option Wv), 0 ≤ x.i → l.Nodup → (∀ y ∈ l, 0 ≤ y ∧ y < (n : Int)) → l.length + ds.length ≤ 1000 →
    ∃ (l' : List Int) (x' : Rw) (y4 y5 : Option Wv), forGo (fgName 4) (fSeq (fAsg (fCallR F__law_taken_2 0 (fCons (fVar 1) fNil)) (fgName 5))
      (fAsg (fN (fOpN oCat (fVar 3) (fN (fOpN oRep (fN (fLst (fCons (fVar 5) fNil))) (fCB oInt (fCons (fOp oNi (fVar 5) (fVar 3)) fNil)))))) (fgName 3))) ds [some .row, some (.d (.int n)), some (.d (.int t)), some (.d (li l)), x4, x5] (some x) =
      some (.nx [some .row, some (.d (.int n)), some (.d (.int t)), some (.d (li l')), y4, y5] (some x')) ∧ l'.Nodup ∧ (∀ y ∈ l', 0 ≤ y ∧ y < (n : Int)) ∧ 0 ≤ x'.i ∧ l'.length ≤ l.length + ds.length
  | [], l, x, x4, x5, hx, h1, h2, h3 => ⟨l, x, x4, x5, rfl, h1, h2, hx, Nat.le_refl _⟩
  | d :: ds, l, x, x4, x5, hx, h1, h2, h3 => by
    obtain ⟨k, x1, e1, hk, hx1⟩ := d_taken_2 hx (m := n) (by omega)
    rw [List.length_cons] at h3
    have hfl : (flatD (.int k) && (l.map PyData.int).all flatD) = true := by
      rw [Bool.and_eq_true]; exact ⟨rfl, List.all_eq_true.mpr fun z hz => by obtain ⟨_, _, rfl⟩ := List.mem_map.mp hz; rfl⟩
    have hni : oNi (.int k) (li l) = some (.bool (!hasI k l)) := by
      show (if (flatD (.int k) && (l.map PyData.int).all flatD) = true then some (PyData.bool (!inD (.int k) (l.map .int))) else none) = _
      rw [if_pos hfl]
      have : inD (.int k) (l.map PyData.int) = hasI k l := by
        unfold inD hasI
        rw [List.any_map]
        induction l with
        | nil => rfl
        | cons a l ih =>
          rw [List.any_cons, List.contains_cons, ih (List.nodup_cons.mp h1).2 (fun y hy => h2 y (List.mem_cons_of_mem _ hy)) (by rw [List.length_cons] at h3; omega) (by rw [List.map_cons, List.all_cons, Bool.and_eq_true, Bool.and_eq_true] at hfl; rw [Bool.and_eq_true]; exact ⟨rfl, hfl.2.2⟩)]
          congr 1
          show (a == (k : Int)) = ((k : Int) == a)
          exact BEq.comm
      rw [this]
    by_cases hm : (k : Int) ∈ l
    · have hh : hasI k l = true := hasI_mem.mpr hm
      obtain ⟨l', x', y4, y5, g1, g2, g3, g4, g5⟩ := some_loop_2 (t := t) hn ds l x1 (some (.d d)) (some (.d (.int k))) hx1 h1 h2 (by omega)
      refine ⟨l', x', y4, y5, ?_, g2, g3, g4, by rw [List.length_cons]; omega⟩
      have ec := oCat_e (x := l.map PyData.int) (y := []) (by rw [List.length_map]; simp; omega)
      rw [hh] at hni
      rw [forGo_cons]
      simp [e1, hni, few_e, oRep_e (x := [PyData.int k]) (k := 0) ⟨by decide, by decide, by show 1 ≤ 100; decide⟩, ec]
      exact g1
    · have hh : hasI k l = false := by
        cases q : hasI (k : Int) l with
        | false => rfl
        | true => exact absurd (hasI_mem.mp q) hm
      have h1' : (l ++ [(k : Int)]).Nodup := List.nodup_append.mpr ⟨h1, by simp, fun a ha b hb => by rw [List.mem_singleton] at hb; subst hb; exact fun e => hm (e ▸ ha)⟩
      obtain ⟨l', x', y4, y5, g1, g2, g3, g4, g5⟩ := some_loop_2 (t := t) hn ds (l ++ [(k : Int)]) x1 (some (.d d)) (some (.d (.int k))) hx1 h1' (fun y hy => by
        rcases List.mem_append.mp hy with h | h
        · exact h2 y h
        · rw [List.mem_singleton] at h; omega) (by rw [List.length_append]; simp; omega)
      refine ⟨l', x', y4, y5, ?_, g2, g3, g4, by rw [List.length_append] at g5; simp at g5; rw [List.length_cons]; omega⟩
      have ec := oCat_e (x := l.map PyData.int) (y := [.int k]) (by rw [List.length_map]; simp; omega)
      rw [hh] at hni
      rw [forGo_cons]
      simp [e1, hni, few_e, oRep_e (x := [PyData.int k]) (k := 1) ⟨by decide, by decide, by show 1 ≤ 100; decide⟩, ec]
      simp only [li, List.map_append, List.map_cons, List.map_nil] at g1 ⊢
      exact g1
theorem d_some_2 {x : Rw} (hx : 0 ≤ x.i) {n : Nat} {t : Int} (h : 1 ≤ n ∧ n ≤ 50 ∧ 0 ≤ t ∧ t ≤ 50) : ∃ (f : Nat → Bool) (x' : Rw), F__law_some_2 x [.int n, .int t] = some (.ok (ti (sel n f)), x') ∧ 0 ≤ x'.i ∧ ((sel n f).length : Int) ≤ t := by
  obtain ⟨k, x1, e1, hk, hx1⟩ := d_taken_2 hx (m := min (n : Int) t + 1) (by omega)
  obtain ⟨l', x', y4, y5, g1, g2, g3, g4, g5⟩ := some_loop_2 (t := t) ⟨h.1, h.2.1⟩ (upto 0 k) [] x1 none none hx1 List.nodup_nil (fun y hy => nomatch hy) (by rw [upto_len]; simp; omega)
  have er := oRng1_e (j := k) (by omega)
  have e := sel_of (srt_lt g2) (n := n) fun y hy => g3 y ((srt_perm l').mem_iff.mp hy)
  refine ⟨fun k => hasI (k : Int) (srt l'), x', ?_, g4, ?_⟩
  · simp [F__law_some_2, f__law_some_2, few_e, oMin2, e1, er]
    rw [show ([] : List Dt) = ([] : List Int).map .int from rfl] 
    rw [g1]
    simp [oSorted, toInts_map]
    exact congrArg (List.map PyData.int) e
  · rw [← e, (srt_perm l').length_eq]
    rw [upto_len] at g5
    simp at g5
    omega

theorem d_flips_2 {x : Rw} (hx : 0 ≤ x.i) {r c : Nat} (hB : Brd r c) : ∃ (f : Nat → Bool) (x' : Rw), F__law_flips_2 x [bd r c] = some (.ok (ti (sel (2 * (r * c)) f)), x') ∧ 0 ≤ x'.i := by
  have h25 := rc25 hB
  have h4 : 4 ≤ r * c := Nat.mul_le_mul hB.1 hB.2.2.1
  obtain ⟨hr1, hr2, hc1, hc2⟩ := hB
  have hrc : (((r * c : Nat) : Int)) = (r : Int) * c := Int.natCast_mul r c
  obtain ⟨k1, x1, e1, hk1, hx1⟩ := d_taken_2 hx (m := 3) (by omega)
  obtain ⟨T, hT, hTb⟩ : ∃ T : Int, atI [PyData.int 3, .int 6, .int (2 * ((r : Int) * c))] k1 = some (.int T) ∧ 0 ≤ T ∧ T ≤ 50 := by
    have : k1 = 0 ∨ k1 = 1 ∨ k1 = 2 := by omega
    rcases this with rfl | rfl | rfl
    · exact ⟨3, rfl, by omega, by omega⟩
    · exact ⟨6, rfl, by omega, by omega⟩
    · exact ⟨2 * ((r : Int) * c), rfl, by omega, by omega⟩
  obtain ⟨f0, x2, e2, hx2, _⟩ := d_some_2 hx1 (n := 2 * (r * c)) (t := T) (by omega)
  rw [show ((2 * (r * c) : Nat) : Int) = 2 * ((r : Int) * c) by rw [Int.natCast_mul, hrc]; rfl] at e2
  have hl0 := sel_len (2 * (r * c)) f0
  have m1 : oIC cMul (fun i j => i * j) (.int (r : Int)) (.int c) = some (.int (r * c)) := oMul_i (by omega)
  -- what is counted at the end
  have tail : ∀ (l : List Int) (y4 y5 : Option Wv) (y : Rw), fRet (fCB oTup (fCons (fN (fLc (fRng1 (fCons (fOp oMul (ret (.int 2)) (fVar 2)) fNil)) (fgName 6) (fB (fOp oEq (fOp oMod (fCountL (fVar 3) (fCons (fVar 6) fNil)) (ret (.int 2))) (ret (.int 1)))) (fVar 6) [6])) fNil))
      [some .row, some (.d (bd r c)), some (.d (.int (r * c))), some (.d (li l)), y4, y5, none] (some y) = some (.rt (ti (sel (2 * (r * c)) fun k => cp k l)) (some y)) := fun l y4 y5 y => by
    have er := oRng1_e (j := 2 * ((r : Int) * c)) (by omega)
    have hn : (2 * ((r : Int) * c)).toNat = 2 * (r * c) := by rw [← hrc]; omega
    rw [hn] at er
    have el : lcGo (fgName 6) (fB (fOp oEq (fOp oMod (fCountL (fVar 3) (fCons (fVar 6) fNil)) (ret (.int 2))) (ret (.int 1)))) (fVar 6)
        [some .row, some (.d (bd r c)), some (.d (.int (r * c))), some (.d (li l)), y4, y5, none] (upto 0 (2 * (r * c))) (some y) = some ((sel (2 * (r * c)) fun k => cp k l).map .int, some y) := by
      rw [lcGo_to (fun d => match d with | .int i => cp i l | _ => false) (fun d => d), upto_filter _ (fun k => cp k l)]
      · intro k _; show cp (0 + (k : Int)) l = _; rw [Int.zero_add]
      · intro d hd
        obtain ⟨k, _, rfl⟩ := List.mem_map.mp hd
        refine ⟨_, rfl, ?_, fun _ => by simp⟩
        simp [fCountL, toInts_map, oMod_i, cp]
        omega
    have hle : (upto 0 (2 * (r * c))).length ≤ 50000 := by rw [upto_len]; omega
    simp [oMul_i, er, fLc, wipeS, el, hle]
  have ring : ∀ (l : List Int) (m : Nat) (g : Nat → Int), l.length ≤ 60 → m ≤ 5 → oCat (li l) (.list ((upto 0 m).map fun d => match d with | .int i => .int (g i.toNat) | d => d)) = some ((l ++ (List.range m).map g).map .int) := fun l m g hl hm => by
    have e : (upto 0 m).map (fun d => match d with | .int i => PyData.int (g i.toNat) | d => d) = ((List.range m).map g).map .int := by
      unfold upto
      rw [List.map_map, List.map_map]
      apply List.map_congr_left
      intro i _
      show PyData.int (g (0 + (i : Int)).toNat) = _
      rw [show (0 + (i : Int)).toNat = i by omega]; rfl
    have ec := oCat_e (x := l.map PyData.int) (y := ((List.range m).map g).map .int) (by simp; omega)
    rw [e, ec, List.map_append]
  -- a whole row of sites, perhaps
  obtain ⟨k2, x3, e3, hk2, hx3⟩ := d_taken_2 hx2 (m := 4) (by omega)
  have step1 : ∃ (l : List Int) (y4 y5 : Option Wv) (y : Rw), fIfS (fB (fOp oEq (fCallR F__law_taken_2 0 (fCons (ret (.int 4)) fNil)) (ret (.int 0))))
      (fSeq (fAsg (fCallR F__law_taken_2 0 (fCons (fOp oIxT (fVar 1) (ret (.int 0))) fNil)) (fgName 4))
      (fAsg (fN (fOpN oCat (fVar 3) (fN (fLc (fRng1 (fCons (fOp oIxT (fVar 1) (ret (.int 1))) fNil)) (fgName 5) (ret true) (fOp oMul (ret (.int 2)) (fOp oAdd (fOp oMul (fVar 4) (fOp oIxT (fVar 1) (ret (.int 1)))) (fVar 5))) [5])))) (fgName 3))) fNext
      [some .row, some (.d (bd r c)), some (.d (.int (r * c))), some (.d (li (sel (2 * (r * c)) f0))), none, none, none] (some x2) = some (.nx [some .row, some (.d (bd r c)), some (.d (.int (r * c))), some (.d (li l)), y4, y5, none] (some y)) ∧ 0 ≤ y.i ∧ l.length ≤ 55 := by
    by_cases h : k2 = 0
    · subst h
      obtain ⟨k3, x4, e4, hk3, hx4⟩ := d_taken_2 hx3 (m := r) (by omega)
      have er := oRng1_e (j := (c : Int)) (by omega)
      rw [Int.toNat_natCast] at er
      have el : lcGo (fgName 5) (ret true) (fOp oMul (ret (.int 2)) (fOp oAdd (fOp oMul (fVar 4) (fOp oIxT (fVar 1) (ret (.int 1)))) (fVar 5)))
          [some .row, some (.d (bd r c)), some (.d (.int (r * c))), some (.d (li (sel (2 * (r * c)) f0))), some (.d (.int k3)), none, none] (upto 0 c) (some x4) = some ((upto 0 c).map (fun d => match d with | .int i => .int ((fun i : Nat => 2 * ((k3 : Int) * c + i)) i.toNat) | d => d), some x4) := by
        rw [lcGo_map]
        intro d hd
        obtain ⟨k, hk, rfl⟩ := List.mem_map.mp hd
        refine ⟨_, rfl, ?_⟩
        simp [oMul_i (i := (k3 : Int)) (j := c) (by omega), oMul_i]
      have rg := ring (sel (2 * (r * c)) f0) c (fun i : Nat => 2 * ((k3 : Int) * c + i)) (by omega) hc2
      refine ⟨sel (2 * (r * c)) f0 ++ (List.range c).map (fun i : Nat => 2 * ((k3 : Int) * c + i)), some (.d (.int k3)), none, x4, ?_, hx4, by simp; omega⟩
      have hle : (upto 0 c).length ≤ 50000 := by rw [upto_len]; omega
      simp [e3, e4, fLc, wipeS, er, hle]
      rw [el]
      simp only [] at rg ⊢
      rw [lft_of rg]
    · refine ⟨sel (2 * (r * c)) f0, none, none, x3, ?_, hx3, by omega⟩
      have h' : ¬ (k2 : Int) = 0 := by omega
      simp [e3, h]
  obtain ⟨l1, y4, y5, x5, s1, hx5, hl1⟩ := step1
  obtain ⟨k4, x6, e6, hk4, hx6⟩ := d_taken_2 hx5 (m := 4) (by omega)
  have step2 : ∃ (l : List Int) (z4 z5 : Option Wv) (y : Rw), fIfS (fB (fOp oEq (fCallR F__law_taken_2 0 (fCons (ret (.int 4)) fNil)) (ret (.int 0))))
      (fSeq (fAsg (fCallR F__law_taken_2 0 (fCons (fOp oIxT (fVar 1) (ret (.int 1))) fNil)) (fgName 4))
      (fAsg (fN (fOpN oCat (fVar 3) (fN (fLc (fRng1 (fCons (fOp oIxT (fVar 1) (ret (.int 0))) fNil)) (fgName 5) (ret true) (fOp oAdd (fOp oMul (ret (.int 2)) (fOp oAdd (fOp oMul (fVar 5) (fOp oIxT (fVar 1) (ret (.int 1)))) (fVar 4))) (ret (.int 1))) [5])))) (fgName 3))) fNext
      [some .row, some (.d (bd r c)), some (.d (.int (r * c))), some (.d (li l1)), y4, y5, none] (some x5) = some (.nx [some .row, some (.d (bd r c)), some (.d (.int (r * c))), some (.d (li l)), z4, z5, none] (some y)) ∧ 0 ≤ y.i := by
    by_cases h : k4 = 0
    · subst h
      obtain ⟨k3, x4, e4, hk3, hx4⟩ := d_taken_2 hx6 (m := c) (by omega)
      have er := oRng1_e (j := (r : Int)) (by omega)
      rw [Int.toNat_natCast] at er
      have el : lcGo (fgName 5) (ret true) (fOp oAdd (fOp oMul (ret (.int 2)) (fOp oAdd (fOp oMul (fVar 5) (fOp oIxT (fVar 1) (ret (.int 1)))) (fVar 4))) (ret (.int 1)))
          [some .row, some (.d (bd r c)), some (.d (.int (r * c))), some (.d (li l1)), some (.d (.int k3)), none, none] (upto 0 r) (some x4) = some ((upto 0 r).map (fun d => match d with | .int i => .int ((fun i : Nat => 2 * ((i : Int) * c + k3) + 1) i.toNat) | d => d), some x4) := by
        rw [lcGo_map]
        intro d hd
        obtain ⟨k, hk, rfl⟩ := List.mem_map.mp hd
        refine ⟨_, rfl, ?_⟩
        simp [oMul_i (i := (k : Int)) (j := c) (by omega), oMul_i]
      have rg := ring l1 r (fun i : Nat => 2 * ((i : Int) * c + k3) + 1) (by omega) hr2
      refine ⟨l1 ++ (List.range r).map (fun i : Nat => 2 * ((i : Int) * c + k3) + 1), some (.d (.int k3)), y5, x4, ?_, hx4⟩
      have hle : (upto 0 r).length ≤ 50000 := by rw [upto_len]; omega
      simp [e6, e4, fLc, wipeS, er, hle]
      rw [el]
      simp only [] at rg ⊢
      rw [lft_of rg]
    · refine ⟨l1, y4, y5, x6, ?_, hx6⟩
      simp [e6, h]
  obtain ⟨l2, z4, z5, x7, s2, hx7⟩ := step2
  refine ⟨fun k => cp k l2, x7, ?_, hx7⟩
  have e0 : fSeq (fAsg (fOp oMul (fOp oIxT (fVar 1) (ret (.int 0))) (fOp oIxT (fVar 1) (ret (.int 1)))) (fgName 2)) (fAsg (fN (fCBN oListOf (fCons (fCallR F__law_some_2 0 (fCons (fOp oMul (ret (.int 2)) (fVar 2)) (fCons (fOp oIxL (fN (fLst (fCons (ret (.int 3)) (fCons (ret (.int 6)) (fCons (fOp oMul (ret (.int 2)) (fVar 2)) fNil))))) (fCallR F__law_taken_2 0 (fCons (ret (.int 3)) fNil))) fNil))) fNil))) (fgName 3))
      [some .row, some (.d (bd r c)), none, none, none, none, none] (some x) = some (.nx [some .row, some (.d (bd r c)), some (.d (.int (r * c))), some (.d (li (sel (2 * (r * c)) f0))), none, none, none] (some x2)) := by
    simp [m1, oMul_i, e1, hT, e2, few_e, oListOf]
  rw [fSeq_at] at e0
  simp only [F__law_flips_2, f__law_flips_2, runW_at]
  rw [if_pos (by rfl)]
  show outW (fSeq _ (fSeq _ (fSeq _ (fSeq _ _))) [some .row, some (.d (bd r c)), none, none, none, none, none] (some x)) = _
  rw [fSeq_assoc, fSeq_to (by rw [fSeq_at]; exact e0), fSeq_to s1, fSeq_to s2, tail]
  rfl
end Sb

/-! Seamboard: the laws' own counting. -/
namespace Sb
open PySem PySem.Spec PyProof.Rows L2
theorem two_pick (b : Bool) (x y : Dt) : oIxL (.list [x, y]) (.int (if b then 1 else 0)) = some (if b then y else x) := by cases b <;> rfl
theorem v_law_ends' {r c e : Nat} (hc1 : 2 ≤ c) (hc2 : c ≤ 5) : F__law_ends [bd r c, .int e] = some (.ok (.list [.int ((e : Int) / 2), .int (othI r c e)])) := by
  have b1 : -1000000000000 ≤ (c : Int) ∧ (c : Int) ≤ 1000000000000 := by omega
  have b2 : (0 : Int) < c ∧ (c : Int) < 1073741824 := by omega
  have m := oMul_i (i := (e : Int) / 2 / c) (j := c) (.inr b1)
  have m2 := oMul_i (i := (e : Int) / 2 / c + 1) (j := c) (.inr b1)
  have m3 := oMul_i (i := 0) (j := c) (.inr b1)
  have d := oDiv_i (i := (e : Int) / 2) b2
  have k := oMod_i (i := (e : Int) / 2) b2.1
  clear b1 b2 hc1 hc2
  generalize hz : othI (r : Int) (c : Int) (e : Int) = z
  unfold othI at hz
  by_cases h : (e : Int) % 2 = 0
  · rw [if_pos h] at hz
    by_cases hc : (e : Int) / 2 % c = (c : Int) - 1
    · rw [if_pos hc] at hz
      subst hz
      simp [F__law_ends, f__law_ends, oDiv_i, oMod_i, d, k, h, hc, few_e, m]
    · rw [if_neg hc] at hz
      subst hz
      simp [F__law_ends, f__law_ends, oDiv_i, oMod_i, d, k, h, hc, few_e, m]
  · rw [if_neg h] at hz
    by_cases hc : (e : Int) / 2 / c = (r : Int) - 1
    · rw [if_pos hc] at hz
      subst hz
      simp [F__law_ends, f__law_ends, oDiv_i, oMod_i, d, k, h, hc, few_e, m3]
    · rw [if_neg hc] at hz
      subst hz
      simp [F__law_ends, f__law_ends, oDiv_i, oMod_i, d, k, h, hc, few_e, m2]
theorem v_law_ends {r c e : Nat} (hB : Brd r c) (he : e < 2 * (r * c)) : F__law_ends [bd r c, .int e] = some (.ok (.list [.int ((e : Int) / 2), .int (endB r c e)])) := by
  rw [v_law_ends' hB.2.2.1 hB.2.2.2, oth_ok hB he]
theorem v_law_crosses {r c : Nat} (hB : Brd r c) (e : Int) : F__law_crosses [bd r c, .int e] = some (.ok (bd (bi (crA r c e)) (bi (crB r c e)))) := by
  obtain ⟨h1, h2, h3, h4⟩ := hB
  by_cases h : e % 2 = 0
  · simp [F__law_crosses, f__law_crosses, oDiv_i, oDiv_i (j := (c : Int)) (by omega), oMod_i, oMod_i (j := (c : Int)) (by omega), h, crA, crB, bi]
  · have h' : e % 2 = 1 := by omega
    simp [F__law_crosses, f__law_crosses, oDiv_i, oDiv_i (j := (c : Int)) (by omega), oMod_i, oMod_i (j := (c : Int)) (by omega), h', crA, crB, bi]
/-- what counts to the end: a comprehension over the numbers below n -/
theorem count_go {s : Ss} {ρ : Ro} {n i j : Nat} {l : List Int} (hi : ∀ d, (s.set j (some (.d d)))[i]? = some (some (.d (li l)))) (hj : j < s.length) :
    lcGo (fgName j) (fB (fOp oEq (fOp oMod (fCountL (fVar i) (fCons (fVar j) fNil)) (ret (.int 2))) (ret (.int 1)))) (fVar j) s (upto 0 n) ρ = some ((sel n fun k => cp k l).map .int, ρ) := by
  rw [lcGo_to (fun d => match d with | .int i => cp i l | _ => false) (fun d => d), upto_filter _ (fun k => cp k l)]
  · intro k _; show cp (0 + (k : Int)) l = _; rw [Int.zero_add]
  · intro d hd
    obtain ⟨k, _, rfl⟩ := List.mem_map.mp hd
    have hg : (s.set j (some (Wv.d (.int (0 + (k : Int))))))[j]? = some (some (.d (.int (0 + (k : Int))))) := List.getElem?_set_self hj
    have hi' := hi (.int (0 + (k : Int)))
    rw [Int.zero_add] at hg hi'
    refine ⟨s.set j (some (.d (.int (k : Int)))), by rw [Int.zero_add]; rfl, ?_, fun _ => by simp only [fVar_at, hg, Int.zero_add]⟩
    simp only [fB_e, fOp_e, bnd_at, fCountL, fVar_at, hi', hg, fCons_e, fNil_e, ret_at, toInts_map, lft_at, oMod_i (show (0 : Int) < 2 by decide), oEq_i, asB_b]
    have : ((List.count (k : Int) l : Nat) : Int) % 2 = 1 ↔ List.count (k : Int) l % 2 = 1 := by omega
    show some (Except.ok (decide _), ρ) = some (Except.ok (cp (0 + (k : Int)) l), ρ)
    rw [Int.zero_add]
    unfold cp
    rw [decide_eq_decide.mpr this]
theorem lit_loop {r c : Nat} (hB : Brd r c) (x1 : Dt) (f : Nat → Bool) : ∀ (l pre : List Int) (x3 : Option Wv), (∀ e ∈ l, 0 ≤ e ∧ e < ((2 * (r * c) : Nat) : Int)) → pre.length + 2 * l.length ≤ 1000 →
    ∃ y3, forGo (fgName 3) (fAsg (fN (fOpN oCat (fVar 2) (fCall F__law_ends (fCons (fVar 0) (fCons (fVar 3) fNil))))) (fgName 2)) (l.map .int) [some (.d (bd r c)), some (.d x1), some (.d (li pre)), x3, none] none =
      some (.nx [some (.d (bd r c)), some (.d x1), some (.d (li (pre ++ endsL r c l))), y3, none] none)
  | [], pre, x3, _, _ => ⟨x3, by unfold endsL; simp⟩
  | e :: l, pre, x3, h, hl => by
    rw [List.length_cons] at hl
    obtain ⟨a, b⟩ := h e List.mem_cons_self
    obtain ⟨k, rfl⟩ : ∃ k : Nat, e = k := ⟨e.toNat, by omega⟩
    obtain ⟨y3, hy⟩ := lit_loop hB x1 f l (pre ++ [(k : Int) / 2, endB r c k]) (some (.d (.int k))) (fun x hx => h x (List.mem_cons_of_mem _ hx)) (by simp; omega)
    refine ⟨y3, ?_⟩
    have ec := oCat_e (x := pre.map PyData.int) (y := [.int ((k : Int) / 2), .int (endB r c k)]) (by simp; omega)
    rw [List.map_cons, forGo_cons]
    simp [v_law_ends hB (show k < 2 * (r * c) by omega), ec]
    have e2 : endsL r c ((k : Int) :: l) = [(k : Int) / 2, endB r c k] ++ endsL r c l := by unfold endsL; rw [List.flatMap_cons]
    rw [e2, ← List.append_assoc]
    simp only [li, List.map_append, List.map_cons, List.map_nil] at hy ⊢
    exact hy
theorem v_law_lit {r c : Nat} (hB : Brd r c) (f : Nat → Bool) {x1 : Dt} (hx : seqD x1 = some ((sel (2 * (r * c)) f).map .int)) (ht : x1 = ti (sel (2 * (r * c)) f)) : F__law_lit [bd r c, x1] = some (.ok (ti (sel (r * c) (lit r c f)))) := by
  subst ht
  have h25 := rc25 hB
  have hl := sel_len (2 * (r * c)) f
  obtain ⟨y3, hy⟩ := lit_loop hB (ti (sel (2 * (r * c)) f)) f (sel (2 * (r * c)) f) [] none (fun e he => in_e f e he) (by simp; omega)
  rw [List.nil_append] at hy
  have m1 : oIC cMul (fun i j => i * j) (.int (r : Int)) (.int c) = some (.int (r * c)) := oMul_i (by have := hB.2.1; omega)
  have er := oRng1_e (j := (r : Int) * c) (by rw [← Int.natCast_mul]; omega)
  rw [show ((r : Int) * c).toNat = r * c by rw [← Int.natCast_mul]; rfl] at er
  have ec := count_go (s := [some (.d (bd r c)), some (.d (ti (sel (2 * (r * c)) f))), some (.d (li (endsL r c (sel (2 * (r * c)) f)))), y3, none]) (ρ := none) (n := r * c) (i := 2) (j := 4) (l := endsL r c (sel (2 * (r * c)) f)) (fun d => rfl) (by simp)
  rw [lit_cp] at ec
  have hle : (upto 0 (r * c)).length ≤ 50000 := by rw [upto_len]; omega
  simp [F__law_lit, f__law_lit, few_e]
  rw [show ([] : List Dt) = ([] : List Int).map .int from rfl, hy]
  simp [m1, er, fLc, wipeS, ec, hle]
theorem v_law_seams {r c : Nat} (hB : Brd r c) (f : Nat → Bool) : F__law_seams [bd r c, ti (sel (2 * (r * c)) f)] = some (.ok (bd (bi (sA r c f)) (bi (sB r c f)))) := by
  have h25 := rc25 hB
  have hl := sel_len (2 * (r * c)) f
  have e0 : ((sel (2 * (r * c)) f).map PyData.int).length ≤ 50000 := by rw [List.length_map]; omega
  have e1 : lcGo (fgName 3) (ret true) (fCall F__law_crosses (fCons (fVar 0) (fCons (fVar 3) fNil))) [some (.d (bd r c)), some (.d (ti (sel (2 * (r * c)) f))), none, none, none] ((sel (2 * (r * c)) f).map .int) none =
      some ((sel (2 * (r * c)) f).map (fun e => bd (bi (crA r c e)) (bi (crB r c e))), none) := by
    rw [lcGo_map (fun d => match d with | .int e => bd (bi (crA r c e)) (bi (crB r c e)) | _ => .none)]
    · rw [List.map_map]; rfl
    · intro d hd
      obtain ⟨e, _, rfl⟩ := List.mem_map.mp hd
      exact ⟨_, rfl, by simp [v_law_crosses hB]⟩
  have e2 : ∀ (k : Int) (g : Int → Bool), (∀ e : Int, atI [PyData.int (bi (crA r c e)), .int (bi (crB r c e))] k = some (.int (bi (g e)))) → lcGo (fgName 4) (ret true) (fOp oIxT (fVar 4) (ret (.int k))) [some (.d (bd r c)), some (.d (ti (sel (2 * (r * c)) f))), some (.d (.list ((sel (2 * (r * c)) f).map (fun e => bd (bi (crA r c e)) (bi (crB r c e)))))), none, none]
      ((sel (2 * (r * c)) f).map (fun e => bd (bi (crA r c e)) (bi (crB r c e)))) none = some (((sel (2 * (r * c)) f).map fun e => bi (g e)).map .int, none) := fun k g hk => by
    have : ∀ l : List Int, lcGo (fgName 4) (ret true) (fOp oIxT (fVar 4) (ret (.int k))) [some (.d (bd r c)), some (.d (ti (sel (2 * (r * c)) f))), some (.d (.list ((sel (2 * (r * c)) f).map (fun e => bd (bi (crA r c e)) (bi (crB r c e)))))), none, none] (l.map (fun e => bd (bi (crA r c e)) (bi (crB r c e)))) none = some ((l.map fun e => bi (g e)).map .int, none) := by
      intro l
      induction l with
      | nil => rfl
      | cons e l ih =>
        rw [List.map_cons]
        unfold lcGo
        simp [hk]
        rw [ih]
        simp
    exact this _
  have p1 := e2 0 (crA r c) (fun e => rfl)
  have p2 := e2 1 (crB r c) (fun e => rfl)
  have q : ∀ g : Int → Bool, (((sel (2 * (r * c)) f).map fun e => bi (g e)).sum) % 2 = bi (px (2 * (r * c)) fun e => f e && g (e : Int)) := fun g => by rw [sum_bi, bi_of, par_len]
  have t1 := toInts_map ((sel (2 * (r * c)) f).map fun e => bi (crA r c e))
  have t2 := toInts_map ((sel (2 * (r * c)) f).map fun e => bi (crB r c e))
  have s1 : fLc (fItT (fVar 1)) (fgName 3) (ret true) (fCall F__law_crosses (fCons (fVar 0) (fCons (fVar 3) fNil))) [3] [some (.d (bd r c)), some (.d (ti (sel (2 * (r * c)) f))), none, none, none] none = some (.ok ((sel (2 * (r * c)) f).map (fun e => bd (bi (crA r c e)) (bi (crB r c e)))), none) :=
    fLc_to (ρ1 := none) (ds := (sel (2 * (r * c)) f).map .int) (by simp) e0 e1
  have s2 : ∀ (k : Int) (l : List Int), lcGo (fgName 4) (ret true) (fOp oIxT (fVar 4) (ret (.int k))) [some (.d (bd r c)), some (.d (ti (sel (2 * (r * c)) f))), some (.d (.list ((sel (2 * (r * c)) f).map (fun e => bd (bi (crA r c e)) (bi (crB r c e)))))), none, none]
      ((sel (2 * (r * c)) f).map (fun e => bd (bi (crA r c e)) (bi (crB r c e)))) none = some (l.map .int, none) →
      fLc (fItL (fVar 2)) (fgName 4) (ret true) (fOp oIxT (fVar 4) (ret (.int k))) [4] [some (.d (bd r c)), some (.d (ti (sel (2 * (r * c)) f))), some (.d (.list ((sel (2 * (r * c)) f).map (fun e => bd (bi (crA r c e)) (bi (crB r c e)))))), none, none] none = some (.ok (l.map .int), none) := fun k l h =>
    fLc_to (ρ1 := none) (ds := (sel (2 * (r * c)) f).map (fun e => bd (bi (crA r c e)) (bi (crB r c e)))) (by simp) (by rw [List.length_map]; rw [List.length_map] at e0; exact e0) h
  have q1 := s2 0 _ p1
  have q2 := s2 1 _ p2
  have q3 := q (crA r c)
  have q4 := q (crB r c)
  clear p1 p2 e1 e2 s2 t1 t2 q
  generalize ((sel (2 * (r * c)) f).map fun e => bd (bi (crA (r : Int) (c : Int) e)) (bi (crB r c e))) = A at s1 q1 q2
  generalize ((sel (2 * (r * c)) f).map fun e => bi (crA (r : Int) (c : Int) e)) = L1 at q1 q3
  generalize ((sel (2 * (r * c)) f).map fun e => bi (crB (r : Int) (c : Int) e)) = L2 at q2 q4
  simp [F__law_seams, f__law_seams, s1, q1, q2, oSum, toInts_map, oMod_i, q3, q4]
  exact ⟨rfl, rfl⟩

/-- data that can be held against itself, n deep -/
def wfA : Nat → Dt → Bool
  | _, .none => true
  | _, .bool _ => true
  | _, .int _ => true
  | _, .str z => SeqAt.shaped (.str z)
  | n + 1, .list ds => decide (ds.length ≤ 50000) && ds.all (wfA n)
  | n + 1, .tuple ds => decide (ds.length ≤ 50000) && ds.all (wfA n)
  | _, _ => false
theorem kit_Tu : ∀ x : Dt, kitB (tyN x) "tuple" = some (kT x) := kit_T
theorem eqv_self {x : Dt} (h : SeqAt.shaped x = true) : PyData.eqv x x = true := SeqAt.eqv_refl _ (SeqAt.canLay_of_shaped h)
theorem alike_seq {n : Nat} {ds : List Dt} (x : Dt) (hx : x = .list ds ∨ x = .tuple ds) (hl : ds.length ≤ 50000) (ih : ∀ d ∈ ds, R__law_alike n [d, d] = some (.ok (.bool true))) : R__law_alike (n + 1) [x, x] = some (.ok (.bool true)) := by
  have er := oRng1_e (j := (ds.length : Int)) (by omega)
  rw [Int.toNat_natCast] at er
  have hle : (upto 0 ds.length).length ≤ 50000 := by rw [upto_len]; exact hl
  have key : ∀ (x2 : Option Wv), lcGo (fgName 2) (fNot (fB (fCall (R__law_alike n) (fCons (fOp oIxO (fVar 0) (fVar 2)) (fCons (fOp oIxO (fVar 1) (fVar 2)) fNil))))) (fVar 2) [some (.d x), some (.d x), x2] (upto 0 ds.length) none = some ([], none) := fun x2 => by
    rw [lcGo_to (fun _ => false) (fun d => d)]
    · rw [List.filter_eq_nil_iff.mpr fun _ _ => by decide]; rfl
    · intro d hd
      obtain ⟨k, hk, rfl⟩ := List.mem_map.mp hd
      rw [List.mem_range] at hk
      have hat : atI ds (k : Int) = some ds[k] := atI_in (by omega) (by rw [Int.toNat_natCast, List.getElem?_eq_getElem hk])
      have hx' : oIxO x (.int (k : Int)) = some ds[k] := by rcases hx with rfl | rfl <;> exact hat
      have := ih ds[k] (List.getElem_mem hk)
      refine ⟨_, rfl, ?_, fun h => nomatch h⟩
      simp [hx', this]
  have hT : kTL x = true := by rcases hx with rfl | rfl <;> rfl
  have hL : oLen [x] = some (.int ds.length) := by rcases hx with rfl | rfl <;> rfl
  have e1 : oNe (.bool (kT x)) (.bool (kT x)) = some (.bool false) := by rw [oNe_e rfl, eqv_self rfl]; rfl
  have e2 : oEq (.list []) (.list []) = some (.bool true) := rfl
  simp [R__law_alike, f__law_alike, hT, kitO, kit_T, e1, hL, er, fLc, wipeS, key, hle, few_e, e2]
theorem v_alike : ∀ (n : Nat) (d : Dt), wfA n d = true → R__law_alike (n + 1) [d, d] = some (.ok (.bool true))
  | n, .none, _ => by
    have e : oEq .none .none = some (.bool true) := rfl
    have e2 : oEq (.bool false) (.bool false) = some (.bool true) := rfl
    simp [R__law_alike, f__law_alike, kTL, kitO, kit_B, kB, e, e2]
  | n, .bool b, _ => by
    have e : oEq (.bool b) (.bool b) = some (.bool true) := by rw [oEq_e rfl, eqv_self rfl]
    have e2 : oEq (.bool true) (.bool true) = some (.bool true) := rfl
    simp [R__law_alike, f__law_alike, kTL, kitO, kit_B, kB, e, e2]
  | n, .int i, _ => by
    have e2 : oEq (.bool false) (.bool false) = some (.bool true) := rfl
    simp [R__law_alike, f__law_alike, kTL, kitO, kit_B, kB, e2]
  | n, .str z, h => by
    have hz : SeqAt.shaped (.str z) = true := by cases n <;> exact h
    have e : oEq (.str z) (.str z) = some (.bool true) := by rw [oEq_e (by rw [hz]; rfl), eqv_self hz]
    have e2 : oEq (.bool false) (.bool false) = some (.bool true) := rfl
    simp [R__law_alike, f__law_alike, kTL, kitO, kit_B, kB, e, e2]
  | n + 1, .list ds, h => by
    unfold wfA at h
    rw [Bool.and_eq_true, decide_eq_true_eq, List.all_eq_true] at h
    exact alike_seq _ (.inl rfl) h.1 fun d hd => v_alike n d (h.2 d hd)
  | n + 1, .tuple ds, h => by
    unfold wfA at h
    rw [Bool.and_eq_true, decide_eq_true_eq, List.all_eq_true] at h
    exact alike_seq _ (.inr rfl) h.1 fun d hd => v_alike n d (h.2 d hd)
  | 0, .list ds, h => by cases h
  | 0, .tuple ds, h => by cases h
  | 0, .dict _, h => by cases h
  | n + 1, .dict _, h => by cases h
theorem v_law_alike {d : Dt} (h : wfA 6 d = true) : F__law_alike [d, d] = some (.ok (.bool true)) := v_alike 6 d h
end Sb

/-! Seamboard: drawings written. -/
namespace Sb
open PySem PySem.Spec PyProof.Rows L2
def mk2 (b : Bool) (x y : Str) : Str := if b then y else x
/-! the drawing -/
def acr (r c : Nat) (f : Nat → Bool) (l : Nat) : Nat → Str
  | 0 => ""
  | j + 1 => (acr r c f l j ++ mk2 (lit r c f (l * c + j)) "o" "*") ++ mk2 (f (2 * (l * c + j))) "-" "="
def dwn (c : Nat) (f : Nat → Bool) (l : Nat) (j : Nat) : List Str := (List.range j).map fun i => mk2 (f (2 * (l * c + i) + 1)) "|" "#"
def drs (r c : Nat) (f : Nat → Bool) (l : Nat) : List Str := (List.range l).flatMap fun i => [acr r c f i c, Txt.join " " (dwn c f i c)]
def drw (r c : Nat) (f : Nat → Bool) : Str := Txt.join "\n" (drs r c f r)
theorem mk2_len (b : Bool) (x y : Str) (hx : x.length = 1) (hy : y.length = 1) : (mk2 b x y).length = 1 := by cases b <;> assumption
theorem acr_len (r c : Nat) (f : Nat → Bool) (l : Nat) : ∀ j, (acr r c f l j).length = 2 * j
  | 0 => rfl
  | j + 1 => by
    show ((acr r c f l j ++ mk2 _ "o" "*") ++ mk2 _ "-" "=").length = _
    rw [Str.length_append, Str.length_append, acr_len r c f l j, mk2_len _ _ _ rfl rfl, mk2_len _ _ _ rfl rfl]
    omega
theorem sum_le (B : Nat) : ∀ ys : List Str, (∀ y ∈ ys, y.length ≤ B) → (ys.map Str.length).sum ≤ ys.length * B
  | [], _ => Nat.zero_le _
  | y :: ys, h => by
    rw [List.map_cons, List.sum_cons, List.length_cons, Nat.succ_mul]
    have := sum_le B ys fun z hz => h z (List.mem_cons_of_mem _ hz)
    have := h y List.mem_cons_self
    omega
theorem dwn_ok (c : Nat) (f : Nat → Bool) (l j : Nat) : ∀ y ∈ dwn c f l j, y.length ≤ 1 := fun y hy => by
  obtain ⟨i, _, rfl⟩ := List.mem_map.mp hy
  exact Nat.le_of_eq (mk2_len _ _ _ rfl rfl)
theorem dwn_len (c : Nat) (f : Nat → Bool) (l j : Nat) : (dwn c f l j).length = j := by unfold dwn; rw [List.length_map, List.length_range]
theorem join_len (sep : Str) (ys : List Str) : (Txt.join sep ys).length ≤ (ys.map Str.length).sum + ys.length * sep.length := by
  show (Builtin.Str.glued sep ys).length ≤ _
  rw [StrLaws.glued_eq_join]
  exact StrLaws.join_length_le sep ys
theorem drs_ok {r c : Nat} (f : Nat → Bool) (l : Nat) (hc : c ≤ 5) : ∀ y ∈ drs r c f l, y.length ≤ 10 := fun y hy => by
  obtain ⟨i, _, hy⟩ := List.mem_flatMap.mp hy
  rcases List.mem_cons.mp hy with h | h
  · subst h; rw [acr_len]; omega
  · rw [List.mem_singleton] at h
    subst h
    have h1 := join_len " " (dwn c f i c)
    have h2 := sum_le 1 _ (dwn_ok c f i c)
    rw [dwn_len] at h1 h2
    have h3 : (" " : Str).length = 1 := rfl
    rw [h3] at h1
    omega
theorem drs_len (r c : Nat) (f : Nat → Bool) : ∀ l, (drs r c f l).length = 2 * l
  | 0 => rfl
  | l + 1 => by
    unfold drs
    rw [List.range_succ, List.flatMap_append, List.length_append]
    show (drs r c f l).length + 2 = _
    rw [drs_len r c f l]; omega
theorem drs_succ (r c : Nat) (f : Nat → Bool) (l : Nat) : drs r c f (l + 1) = drs r c f l ++ [acr r c f l c, Txt.join " " (dwn c f l c)] := by
  unfold drs
  rw [List.range_succ, List.flatMap_append]; rfl
/-- all its signs are such -/
def okS (z : Str) : Prop := ∀ x ∈ z.cps.toList, x < 0x110000
theorem okS_app {a b : Str} (ha : okS a) (hb : okS b) : okS (a ++ b) := fun x hx => by
  have e : (a ++ b).cps.toList = a.cps.toList ++ b.cps.toList := Array.toList_append
  rw [e] at hx
  rcases List.mem_append.mp hx with h | h
  · exact ha x h
  · exact hb x h
theorem okS_join {sep : Str} (hs : okS sep) : ∀ ys : List Str, (∀ y ∈ ys, okS y) → okS (Str.join sep ys)
  | [], _ => fun x hx => nomatch hx
  | [y], h => h y List.mem_cons_self
  | y :: z :: ys, h => okS_app (okS_app (h y List.mem_cons_self) hs) (okS_join hs (z :: ys) fun q hq => h q (List.mem_cons_of_mem _ hq))
theorem okS_Join {sep : Str} (hs : okS sep) (ys : List Str) (h : ∀ y ∈ ys, okS y) : okS (Txt.join sep ys) := by
  show okS (Builtin.Str.glued sep ys)
  rw [StrLaws.glued_eq_join]
  exact okS_join hs ys h
theorem okS_lit {z : Str} (h : (z.cps.toList.all fun x => decide (x < 0x110000)) = true) : okS z := fun x hx => of_decide_eq_true (List.all_eq_true.mp h x hx)
theorem okS_mk2 {b : Bool} {x y : Str} (hx : okS x) (hy : okS y) : okS (mk2 b x y) := by cases b <;> assumption
theorem okS_acr (r c : Nat) (f : Nat → Bool) (l : Nat) : ∀ j, okS (acr r c f l j)
  | 0 => fun x hx => nomatch hx
  | j + 1 => okS_app (okS_app (okS_acr r c f l j) (okS_mk2 (okS_lit rfl) (okS_lit rfl))) (okS_mk2 (okS_lit rfl) (okS_lit rfl))
theorem okS_drw (r c : Nat) (f : Nat → Bool) : okS (drw r c f) := okS_Join (okS_lit rfl) _ fun y hy => by
  obtain ⟨i, _, hy⟩ := List.mem_flatMap.mp hy
  rcases List.mem_cons.mp hy with h | h
  · subst h; exact okS_acr r c f i c
  · rw [List.mem_singleton] at h
    subst h
    exact okS_Join (okS_lit rfl) _ fun y hy => by
      obtain ⟨i, _, rfl⟩ := List.mem_map.mp hy
      exact okS_mk2 (okS_lit rfl) (okS_lit rfl)
theorem shaped_S {z : Str} (h : okS z) : SeqAt.shaped (.str z) = true := by
  show (z.cps.all (fun x => decide (x < 0x110000)) && decide (0 ≤ 64)) = true
  rw [← Array.all_toList, List.all_eq_true.mpr fun x hx => decide_eq_true (h x hx)]; rfl
/-- what a loop has left in a name -/
def was (g : Nat → Dt) : Nat → Option Wv
  | 0 => none
  | i + 1 => some (.d (g i))
theorem for_upto {b : MS} {n j : Nat} (S : Nat → Ss) (R : Nat → Ro) (h : ∀ i, i < n → b ((S i).set j (some (.d (.int i)))) (R i) = some (.nx (S (i + 1)) (R (i + 1))) ∨ b ((S i).set j (some (.d (.int i)))) (R i) = some (.ct (S (i + 1)) (R (i + 1)))) :
    forGo (fgName j) b (upto 0 n) (S 0) (R 0) = some (.nx (S n) (R n)) := by
  have := forGo_to (tg := fgName j) (b := b) (ds := upto 0 n) S R rfl rfl fun i d hd => by
    have hi := (List.getElem?_eq_some_iff.mp hd).1
    rw [upto_len] at hi
    rw [upto_get hi, Int.zero_add] at hd
    cases hd
    exact ⟨_, rfl, h i hi⟩
  rw [upto_len] at this
  exact this
theorem in_sel {n k : Nat} {f : Nat → Bool} (h : k < n) : oIn (.int k) (ti (sel n f)) = some (.bool (f k)) := by
  have hfl : ((sel n f).map PyData.int).all flatD = true := List.all_eq_true.mpr fun z hz => by obtain ⟨_, _, rfl⟩ := List.mem_map.mp hz; rfl
  show (if (flatD (.int k) && ((sel n f).map PyData.int).all flatD) = true then some (PyData.bool (inD (.int k) ((sel n f).map .int))) else none) = _
  rw [if_pos (by rw [hfl]; rfl), ← hasI_sel (f := f) h]
  have : ∀ l : List Int, inD (.int k) (l.map PyData.int) = hasI k l := fun l => by
    unfold inD hasI
    rw [List.any_map]
    induction l with
    | nil => rfl
    | cons a l ih =>
      rw [List.any_cons, List.contains_cons, ih]
      congr 1
      show (a == (k : Int)) = ((k : Int) == a)
      exact BEq.comm
  rw [this]
theorem sgn_o (b : Bool) : F_sign_of [.str "o*", .bool b] = some (.ok (.str (mk2 b "o" "*"))) := by cases b <;> rfl
theorem sgn_e (b : Bool) : F_sign_of [.str "-=", .bool b] = some (.ok (.str (mk2 b "-" "="))) := by cases b <;> rfl
theorem sgn_d (b : Bool) : F_sign_of [.str "|#", .bool b] = some (.ok (.str (mk2 b "|" "#"))) := by cases b <;> rfl
theorem join_snoc (ys : List Str) (y : Str) : Str.join "" (ys ++ [y]) = Str.join "" ys ++ y := by
  refine TL.ext_tl ?_
  have key : ∀ ys : List Str, TL.tl (Str.join "" ys) = ys.flatMap TL.tl := fun ys => by
    induction ys with
    | nil => rfl
    | cons a ys ih =>
      cases ys with
      | nil => show TL.tl a = _; simp
      | cons b ys =>
        show TL.tl (a ++ "" ++ Str.join "" (b :: ys)) = _
        rw [TL.tl_append, TL.tl_append, ih, List.flatMap_cons]
        show TL.tl a ++ [] ++ _ = _
        rw [List.append_nil, List.flatMap_cons, List.flatMap_cons]
  rw [key, TL.tl_append, key, List.flatMap_append, List.flatMap_cons, List.flatMap_nil, List.append_nil]
/-- the pairs of a row of sites -/
def prs (r c : Nat) (f : Nat → Bool) (l j : Nat) : List Str := (List.range j).map fun i => mk2 (lit r c f (l * c + i)) "o" "*" ++ mk2 (f (2 * (l * c + i))) "-" "="
theorem prs_join (r c : Nat) (f : Nat → Bool) (l : Nat) : ∀ j, Txt.join "" (prs r c f l j) = acr r c f l j
  | 0 => rfl
  | j + 1 => by
    have ih := prs_join r c f l j
    rw [TL.join_eq] at ih ⊢
    unfold prs at ih ⊢
    rw [List.range_succ, List.map_append, List.map_cons, List.map_nil, join_snoc, ih]
    exact TL.ext_tl (by rw [acr, TL.tl_append, TL.tl_append, TL.tl_append, TL.tl_append, List.append_assoc])
theorem prs_sum (r c : Nat) (f : Nat → Bool) (l j : Nat) : ((prs r c f l j).map Str.length).sum ≤ j * 2 := by
  have := sum_le 2 (prs r c f l j) fun y hy => by
    obtain ⟨i, _, rfl⟩ := List.mem_map.mp hy
    rw [Str.length_append, mk2_len _ _ _ rfl rfl, mk2_len _ _ _ rfl rfl]
    exact Nat.le_refl _
  unfold prs at this ⊢
  rw [List.length_map, List.length_range] at this
  exact this
def oLR (x y : Dt) : Option (List Dt) := match x, y with
  | .int m, .int n => if (0 ≤ m ∧ m ≤ 100000) ∧ 0 ≤ n ∧ n ≤ 100000 then some (rgD m n) else none
  | _, _ => none
@[simp] theorem fListRg2_e {s : Ss} {ρ : Ro} (a b : ME Dt) : fListRg2 a b s ρ = (bnd a fun x => bnd b fun y => lft (oLR x y)) s ρ := (rfl)
theorem oLR_e {i j : Int} (h : (0 ≤ i ∧ i ≤ 100000) ∧ 0 ≤ j ∧ j ≤ 100000) : oLR (.int i) (.int j) = some (rgD i j) := if_pos h
theorem row_sites_of {x : Int} {c l : Int} {L : List Dt} {bd : Dt} (e0 : oIxT bd (.int 1) = some (.int c)) (m1 : oIC cMul (fun i j => i * j) (.int (l : Int)) (.int c) = some (.int x)) (m2 : oIC cMul (fun i j => i * j) (.int ((l : Int) + 1)) (.int c) = some (.int (x+c)))
    (e : oLR (.int x) (.int (x + c)) = some L) : F_row_sites [bd, .int l] = some (.ok (.list L)) := by
  simp [F_row_sites, f_row_sites, m1, m2, e, e0]
theorem v_row_sites {r c : Nat} (hB : Brd r c) {l : Nat} (hl : l < r) : F_row_sites [bd r c, .int l] = some (.ok (.list (upto ((l : Int) * c) c))) := by
  obtain ⟨h1, h2, h3, h4⟩ := hB
  have h5 : l * c ≤ 25 := Nat.mul_le_mul (show l ≤ 5 by omega) h4
  have h6 : ((l * c : Nat) : Int) = (l : Int) * c := Int.natCast_mul l c
  have h7 : ((l : Int) + 1) * c = (l : Int) * c + c := by rw [Int.add_mul, Int.one_mul]
  have e2 : rgD ((l : Int) * c) ((l : Int) * c + (c : Int)) = upto ((l : Int) * c) c := by
    unfold rgD
    have : ((l : Int) * c + (c : Int) - (l : Int) * c).toNat = c := by omega
    exact congrArg _ this
  refine row_sites_of (x := (l : Int) * c) (atI_1 _ _ _) (oMul_i (by omega)) ((oMul_i (by omega)).trans (congrArg (fun z => some (PyData.int z)) h7)) ((oLR_e (by omega)).trans (congrArg some e2))
theorem upto_map (x : Int) (c : Nat) (g : Dt → Dt) (h : Nat → Dt) (e : ∀ i, i < c → g (.int (x + (i : Int))) = h i) : (upto x c).map g = (List.range c).map h := by
  unfold upto
  rw [List.map_map]
  exact List.map_congr_left fun i hi => e i (List.mem_range.mp hi)
theorem str_of (o : Option Dt) (z : Str) (h : o = some (.str z)) : o = some (.str z) := h
/-- the states of the loop of rows -/
def wSt (r c : Nat) (f : Nat → Bool) (l : Nat) : Ss := [some (.d (bd r c)), some (.d (ti (sel (2 * (r * c)) f))), some (.d (ti (sel (r * c) (lit r c f)))), some (.o (.l ((drs r c f l).map .str))), was (fun i => .int i) l, was (fun i => .list (upto ((i : Int) * c) c)) l, none]
theorem oJoin_l {a : Str} {ys : List Str} (h : (ys.map Str.length).sum + ys.length * a.length ≤ 16777216) : oJoin a (.list (ys.map PyData.str)) = some (.str (Txt.join a ys)) := by
  unfold oJoin
  simp only [seqD_l, toStrs_map]
  exact if_pos h
@[simp] theorem fM1_e {s : Ss} {ρ : Ro} (o : Str → Dt → Option Dt) (a b : ME Dt) : fM1 o a b s ρ = (bnd a fun x => match x with
  | .str z => bnd b fun y => lft (o z y)
  | _ => lft none) s ρ := (rfl)
theorem oCatS_e {a b : Str} (h : a.length + b.length ≤ 100000) : oCatS (.str a) (.str b) = some (.str (a ++ b)) := if_pos h
theorem site_in {r c l i : Nat} (hl : l < r) (hi : i < c) : l * c + i < r * c := by
  have := Nat.mul_le_mul_right c (show l + 1 ≤ r by omega)
  rw [Nat.succ_mul] at this
  omega
theorem row_across {r c : Nat} (hB : Brd r c) (f : Nat → Bool) {l : Nat} (hl : l < r) {S : Option Wv} {x4 : Option Wv} :
    lcGo (fgName 6) (ret true) (fOp oCatS (fCall F_sign_of (fCons (ret (.str "o*")) (fCons (fOp oIn (fVar 6) (fVar 2)) fNil))) (fCall F_sign_of (fCons (ret (.str "-=")) (fCons (fOp oIn (fOp oMul (ret (.int 2)) (fVar 6)) (fVar 1)) fNil))))
      [some (.d (bd r c)), some (.d (ti (sel (2 * (r * c)) f))), some (.d (ti (sel (r * c) (lit r c f)))), S, x4, some (.d (.list (upto ((l : Int) * c) c))), none] (upto ((l : Int) * c) c) none = some ((prs r c f l c).map .str, none) := by
  rw [lcGo_map (fun d => match d with | .int y => .str (mk2 (lit r c f y.toNat) "o" "*" ++ mk2 (f (2 * y.toNat)) "-" "=") | _ => .none)]
  · rw [upto_map _ _ _ (fun i => .str (mk2 (lit r c f (l * c + i)) "o" "*" ++ mk2 (f (2 * (l * c + i))) "-" "="))]
    · unfold prs; rw [List.map_map]; rfl
    · intro i _
      have : ((l : Int) * c + i).toNat = l * c + i := by rw [← Int.natCast_mul]; omega
      simp only [this]
  · intro d hd
    obtain ⟨i, hi, rfl⟩ := List.mem_map.mp hd
    rw [List.mem_range] at hi
    have hk := site_in hl hi
    have e : (l : Int) * c + i = ((l * c + i : Nat) : Int) := by rw [Int.natCast_add, Int.natCast_mul]
    rw [e]
    generalize l * c + i = k at hk ⊢
    have i1 := in_sel (f := lit r c f) hk
    have i2 : oIn (.int (2 * (k : Int))) (ti (sel (2 * (r * c)) f)) = some (.bool (f (2 * k))) := in_sel (k := 2 * k) (f := f) (by omega)
    have ec : oCatS (.str (mk2 (lit r c f k) "o" "*")) (.str (mk2 (f (2 * k)) "-" "=")) = _ := oCatS_e (by rw [mk2_len _ _ _ rfl rfl, mk2_len _ _ _ rfl rfl]; decide)
    refine ⟨_, rfl, ?_⟩
    simp [i1, i2, sgn_o, sgn_e, oMul_i, ec]
theorem row_down {r c : Nat} (hB : Brd r c) (f : Nat → Bool) {l : Nat} (hl : l < r) {S : Option Wv} {x4 : Option Wv} :
    lcGo (fgName 6) (ret true) (fCall F_sign_of (fCons (ret (.str "|#")) (fCons (fOp oIn (fOp oAdd (fOp oMul (ret (.int 2)) (fVar 6)) (ret (.int 1))) (fVar 1)) fNil)))
      [some (.d (bd r c)), some (.d (ti (sel (2 * (r * c)) f))), some (.d (ti (sel (r * c) (lit r c f)))), S, x4, some (.d (.list (upto ((l : Int) * c) c))), none] (upto ((l : Int) * c) c) none = some ((dwn c f l c).map .str, none) := by
  rw [lcGo_map (fun d => match d with | .int y => .str (mk2 (f (2 * y.toNat + 1)) "|" "#") | _ => .none)]
  · rw [upto_map _ _ _ (fun i => .str (mk2 (f (2 * (l * c + i) + 1)) "|" "#"))]
    · unfold dwn; rw [List.map_map]; rfl
    · intro i _
      have : ((l : Int) * c + i).toNat = l * c + i := by rw [← Int.natCast_mul]; omega
      simp only [this]
  · intro d hd
    obtain ⟨i, hi, rfl⟩ := List.mem_map.mp hd
    rw [List.mem_range] at hi
    have hk := site_in hl hi
    have e : (l : Int) * c + i = ((l * c + i : Nat) : Int) := by rw [Int.natCast_add, Int.natCast_mul]
    rw [e]
    generalize l * c + i = k at hk ⊢
    have i2 : oIn (.int (2 * (k : Int) + 1)) (ti (sel (2 * (r * c)) f)) = some (.bool (f (2 * k + 1))) := in_sel (k := 2 * k + 1) (f := f) (by omega)
    refine ⟨_, rfl, ?_⟩
    simp [i2, sgn_d, oMul_i]
theorem own_app {i : Nat} {s : Ss} {ρ ρ1 : Ro} {a : ME Dt} {xs : List Dt} {d : Dt} (h : s[i]? = some (some (.o (.l xs)))) (ha : a s ρ = some (.ok d, ρ1)) (hl : xs.length < 100000) : fApp i a s ρ = some (.nx (s.set i (some (.o (.l (xs ++ [d]))))) ρ1) := by
  unfold fApp
  simp only [h]
  rw [fOut_to ha]
  simp only [h]
  exact if_pos hl
/-- rows drawn, one by one -/
theorem v_written {r c : Nat} (hB : Brd r c) (f : Nat → Bool) : F_written [bd r c, ti (sel (2 * (r * c)) f)] = some (.ok (.str (drw r c f))) := by
  obtain ⟨r2, r5, c2, c5⟩ := id hB
  have er := oRng1_e (j := (r : Int)) (by omega)
  rw [Int.toNat_natCast] at er
  have loop := for_upto (n := r) (j := 4) (b := fSeq (fAsg (fCall F_row_sites (fCons (fVar 0) (fCons (fVar 4) fNil))) (fgName 5))
    (fSeq (fApp 3 (fM1 oJoin (ret (.str "")) (fN (fLc (fItL (fVar 5)) (fgName 6) (ret true) (fOp oCatS (fCall F_sign_of (fCons (ret (.str "o*")) (fCons (fOp oIn (fVar 6) (fVar 2)) fNil))) (fCall F_sign_of (fCons (ret (.str "-=")) (fCons (fOp oIn (fOp oMul (ret (.int 2)) (fVar 6)) (fVar 1)) fNil)))) [6]))))
      (fApp 3 (fM1 oJoin (ret (.str " ")) (fN (fLc (fItL (fVar 5)) (fgName 6) (ret true) (fCall F_sign_of (fCons (ret (.str "|#")) (fCons (fOp oIn (fOp oAdd (fOp oMul (ret (.int 2)) (fVar 6)) (ret (.int 1))) (fVar 1)) fNil))) [6])))))) (wSt r c f) (fun _ => none) fun l hl => .inl (by
    have hs := v_row_sites hB hl
    have hle : (upto ((l : Int) * c) c).length ≤ 50000 := by rw [upto_len]; omega
    have ea := fun S x4 => fLc_to (s := [some (.d (bd r c)), some (.d (ti (sel (2 * (r * c)) f))), some (.d (ti (sel (r * c) (lit r c f)))), S, x4, some (.d (.list (upto ((l : Int) * c) c))), none]) (vs := [6]) (i := fItL (fVar 5)) (ρ1 := none) (ρ := none) (by simp) hle (row_across hB f hl (S := S) (x4 := x4))
    have eb := fun S x4 => fLc_to (s := [some (.d (bd r c)), some (.d (ti (sel (2 * (r * c)) f))), some (.d (ti (sel (r * c) (lit r c f)))), S, x4, some (.d (.list (upto ((l : Int) * c) c))), none]) (vs := [6]) (i := fItL (fVar 5)) (ρ1 := none) (ρ := none) (by simp) hle (row_down hB f hl (S := S) (x4 := x4))
    have ja : oJoin "" (.list ((prs r c f l c).map .str)) = some (.str (acr r c f l c)) := by
      rw [oJoin_l, prs_join]
      have := prs_sum r c f l c
      show _ + _ * 0 ≤ _
      omega
    have jb : oJoin " " (.list ((dwn c f l c).map .str)) = some (.str (Txt.join " " (dwn c f l c))) := by
      have h1 := sum_le 1 _ (dwn_ok c f l c)
      rw [oJoin_l]
      rw [dwn_len] at h1 ⊢
      show _ + _ * 1 ≤ _
      omega
    have hd := drs_len r c f l
    have h1 : ((drs r c f l).map PyData.str).length < 100000 := by rw [List.length_map, hd]; omega
    have h2 : ((drs r c f l).map PyData.str ++ [PyData.str (acr r c f l c)]).length < 100000 := by rw [List.length_append, List.length_map, hd]; simp; omega
    unfold wSt
    rw [fSeq_to (s1 := [some (.d (bd r c)), some (.d (ti (sel (2 * (r * c)) f))), some (.d (ti (sel (r * c) (lit r c f)))), some (.o (.l ((drs r c f l).map .str))), some (.d (.int l)), some (.d (.list (upto ((l : Int) * c) c))), none]) (ρ1 := none) (by simp [hs])]
    rw [fSeq_to (own_app (ρ1 := none) (xs := (drs r c f l).map PyData.str) (d := .str (acr r c f l c)) rfl (by simp [ea, ja]) h1)]
    rw [own_app (ρ := none) (ρ1 := none) (xs := (drs r c f l).map PyData.str ++ [.str (acr r c f l c)]) (d := .str (Txt.join " " (dwn c f l c))) rfl (by simp [eb, jb]) h2]
    rw [drs_succ, List.map_append, List.append_assoc]
    rfl)
  have j : oJoin "\n" (.list ((drs r c f r).map .str)) = some (.str (drw r c f)) := by
    have h1 := sum_le 10 _ (drs_ok (r := r) f r c5)
    have h2 := drs_len r c f r
    rw [oJoin_l]
    · rfl
    · show _ + _ * 1 ≤ _
      omega
  have h0 : wSt r c f 0 = [some (.d (bd r c)), some (.d (ti (sel (2 * (r * c)) f))), some (.d (ti (sel (r * c) (lit r c f)))), some (.o (.l [])), none, none, none] := rfl
  rw [h0] at loop
  simp [F_written, f_written, v_checks hB, er, few_e]
  rw [loop]
  simp [wSt, j]
end Sb

/-! Seamboard: drawings read. -/
namespace Sb
open PySem PySem.Spec PyProof.Rows L2
/-! signs of the rows -/
def cd (b : Bool) (x y : Nat) : Nat := if b then y else x
theorem tl_mk2 {b : Bool} {x y : Str} {u v : Nat} (hx : TL.tl x = [u]) (hy : TL.tl y = [v]) : TL.tl (mk2 b x y) = [cd b u v] := by cases b <;> assumption
theorem acr_tl (r c : Nat) (f : Nat → Bool) (l j : Nat) : TL.tl (acr r c f l (j + 1)) = TL.tl (acr r c f l j) ++ [cd (lit r c f (l * c + j)) 111 42, cd (f (2 * (l * c + j))) 45 61] := by
  rw [acr, TL.tl_append, TL.tl_append, tl_mk2 (u := 111) (v := 42) rfl rfl, tl_mk2 (u := 45) (v := 61) rfl rfl, List.append_assoc]; rfl
theorem acr_tl_len (r c : Nat) (f : Nat → Bool) (l j : Nat) : (TL.tl (acr r c f l j)).length = 2 * j := by rw [← TL.len_tl, acr_len]
theorem acr_at (r c : Nat) (f : Nat → Bool) (l : Nat) : ∀ j i, i < j → (TL.tl (acr r c f l j))[2 * i]? = some (cd (lit r c f (l * c + i)) 111 42) ∧ (TL.tl (acr r c f l j))[2 * i + 1]? = some (cd (f (2 * (l * c + i))) 45 61)
  | 0, _, h => absurd h (by omega)
  | j + 1, i, h => by
    have hl := acr_tl_len r c f l j
    rw [acr_tl]
    by_cases h1 : i < j
    · rw [List.getElem?_append_left (by omega), List.getElem?_append_left (by omega)]
      exact acr_at r c f l j i h1
    · have : i = j := by omega
      subst this
      rw [List.getElem?_append_right (by omega), List.getElem?_append_right (by omega), hl, Nat.sub_self, show 2 * i + 1 - 2 * i = 1 by omega]
      exact ⟨rfl, rfl⟩
/-- the row of the edges down -/
def dnr (c : Nat) (f : Nat → Bool) (l j : Nat) : Str := Txt.join " " (dwn c f l j)
theorem Join_snoc (s y : Str) : ∀ ys : List Str, ys ≠ [] → TL.tl (Str.join s (ys ++ [y])) = TL.tl (Str.join s ys) ++ TL.tl s ++ TL.tl y
  | [], h => absurd rfl h
  | [a], _ => by
    show TL.tl (a ++ s ++ y) = TL.tl a ++ _ ++ _
    rw [TL.tl_append, TL.tl_append]
  | a :: b :: ys, _ => by
    have ih := Join_snoc s y (b :: ys) (by simp)
    show TL.tl (a ++ s ++ Str.join s (b :: ys ++ [y])) = TL.tl (a ++ s ++ Str.join s (b :: ys)) ++ _ ++ _
    rw [TL.tl_append, TL.tl_append, ih, TL.tl_append, TL.tl_append]
    simp only [List.append_assoc]
theorem dwn_succ (c : Nat) (f : Nat → Bool) (l j : Nat) : dwn c f l (j + 1) = dwn c f l j ++ [mk2 (f (2 * (l * c + j) + 1)) "|" "#"] := by
  unfold dwn
  rw [List.range_succ, List.map_append]; rfl
theorem dnr_one (c : Nat) (f : Nat → Bool) (l : Nat) : TL.tl (dnr c f l 1) = [cd (f (2 * (l * c + 0) + 1)) 124 35] := by
  unfold dnr
  rw [dwn_succ, TL.join_eq]
  exact tl_mk2 rfl rfl
theorem dnr_tl (c : Nat) (f : Nat → Bool) (l j : Nat) : TL.tl (dnr c f l (j + 2)) = TL.tl (dnr c f l (j + 1)) ++ [32, cd (f (2 * (l * c + (j + 1)) + 1)) 124 35] := by
  unfold dnr
  rw [dwn_succ c f l (j + 1), TL.join_eq, Join_snoc _ _ _ (by rw [dwn_succ]; simp), TL.join_eq, tl_mk2 (u := 124) (v := 35) rfl rfl, List.append_assoc]; rfl
theorem dnr_tl_len (c : Nat) (f : Nat → Bool) (l : Nat) : ∀ j, (TL.tl (dnr c f l (j + 1))).length = 2 * j + 1
  | 0 => by rw [dnr_one]; rfl
  | j + 1 => by rw [dnr_tl, List.length_append, dnr_tl_len c f l j]; show 2 * j + 1 + 2 = _; omega
theorem dnr_at (c : Nat) (f : Nat → Bool) (l : Nat) : ∀ j i, i ≤ j → (TL.tl (dnr c f l (j + 1)))[2 * i]? = some (cd (f (2 * (l * c + i) + 1)) 124 35) ∧ (i < j → (TL.tl (dnr c f l (j + 1)))[2 * i + 1]? = some 32)
  | 0, i, h => by
    have : i = 0 := by omega
    subst this
    rw [dnr_one]
    exact ⟨rfl, fun h => absurd h (by omega)⟩
  | j + 1, i, h => by
    have hl := dnr_tl_len c f l j
    rw [dnr_tl]
    by_cases h1 : i ≤ j
    · have ih := dnr_at c f l j i h1
      refine ⟨by rw [List.getElem?_append_left (by omega)]; exact ih.1, fun _ => ?_⟩
      by_cases h2 : i < j
      · rw [List.getElem?_append_left (by omega)]; exact ih.2 h2
      · have : i = j := by omega
        subst this
        rw [List.getElem?_append_right (by omega), hl, Nat.sub_self]; rfl
    · have : i = j + 1 := by omega
      subst this
      refine ⟨?_, fun h => absurd h (by omega)⟩
      rw [List.getElem?_append_right (by omega), hl, show 2 * (j + 1) - (2 * j + 1) = 1 by omega]; rfl
/-! a row is a row -/
theorem steps_even : ∀ n, n < 11 → ((Builtin.Str.strSliceIndices none none 2 n).all (fun i => decide (i % 2 = 0))) = true ∧ (Builtin.Str.strSliceIndices none none 2 n).length ≤ 10 := by decide
theorem steps_odd : ∀ n, n < 11 → ((Builtin.Str.strSliceIndices (some 1) none 2 n).all (fun i => decide (i % 2 = 1))) = true ∧ (Builtin.Str.strSliceIndices (some 1) none 2 n).length ≤ 10 := by decide
theorem step_mem {z : Str} {lo : Option Int} {x : Nat} (h : x ∈ TL.tl (stepS z lo none 2)) : ∃ i ∈ Builtin.Str.strSliceIndices lo none 2 z.length, (TL.tl z)[i]? = some x := by
  have : TL.tl (stepS z lo none 2) = (Builtin.Str.strSliceIndices lo none 2 z.length).filterMap (z.cps[·]?) := rfl
  rw [this] at h
  obtain ⟨i, hi, e⟩ := List.mem_filterMap.mp h
  exact ⟨i, hi, by rw [← e]; exact Array.getElem?_toList⟩
theorem step_len (z : Str) (lo : Option Int) (h : (Builtin.Str.strSliceIndices lo none 2 z.length).length ≤ 10) : (stepS z lo none 2).length ≤ 10 := by
  rw [TL.len_tl]
  exact Nat.le_trans (List.length_filterMap_le _ _) h
theorem all_signs {s : Ss} {ρ : Ro} {i j : Nat} {z S : Str} (hi : ∀ d, (s.set j (some (.d d)))[i]? = some (some (.d (.str S)))) (hj : j < s.length) (h : ∀ x ∈ TL.tl z, x ∈ TL.tl S) :
    lcGo (fgName j) (ret true) (fOp oInC (fVar j) (fVar i)) s (z.cps.toList.map fun c => .str (sg c)) ρ = some (List.replicate (TL.tl z).length (.bool true), ρ) := by
  rw [lcGo_map (fun _ => .bool true)]
  · rw [List.map_map]
    refine congrArg (fun z => some (z, ρ)) ?_
    show z.cps.toList.map (fun _ => PyData.bool true) = _
    rw [List.map_const']
  · intro d hd
    obtain ⟨x, hx, rfl⟩ := List.mem_map.mp hd
    have hg : (s.set j (some (Wv.d (.str (sg x)))))[j]? = some (some (.d (.str (sg x)))) := List.getElem?_set_self hj
    have ec : oInC (.str (sg x)) (.str S) = some (.bool (decide (x ∈ S.cps.toList))) := rfl
    refine ⟨_, rfl, ?_⟩
    simp [hg, hi, ec, h x hx]
@[simp] theorem fItS_e {s : Ss} {ρ : Ro} (x : ME Dt) : fItS x s ρ = (bnd x fun u => lft (match u with
  | .str z => some (z.cps.toList.map fun c => PyData.str (sg c))
  | _ => none)) s ρ := (rfl)
@[simp] theorem fNo_at {s : Ss} {ρ : Ro} : fNo s ρ = some (.ok none, ρ) := (rfl)
@[simp] theorem fSo_e {s : Ss} {ρ : Ro} (x : ME Dt) : fSo x s ρ = (bnd x fun u => lft (match u with
  | .int i => some (some i)
  | _ => none)) s ρ := (rfl)
def oSl3 (z : Str) (lo hi : Option Int) (k : Int) : Option Dt := if 1 < k ∧ (stepS z lo hi k).length ≤ 100000 then some (.str (stepS z lo hi k)) else none
theorem fSlS3_to {s : Ss} {ρ : Ro} {a : ME Dt} {l h k : ME (Option Int)} {z : Str} {lo : Option Int} (ha : a s ρ = some (.ok (.str z), ρ)) (hl : l s ρ = some (.ok lo, ρ)) (hh : h s ρ = some (.ok none, ρ)) (hk : k s ρ = some (.ok (some 2), ρ)) (e : (stepS z lo none 2).length ≤ 10) :
    fSlS3 a l h k s ρ = some (.ok (.str (stepS z lo none 2)), ρ) := by
  unfold fSlS3
  rw [bnd_to ha, bnd_to hl, bnd_to hh, bnd_to hk]
  simp only []
  rw [if_pos ⟨by decide, by omega⟩]
  rfl
theorem oLenS_e {z : Str} (h : z.length ≤ 100000) : oLenS [.str z] = some (.int z.length) := if_pos h
theorem oAll_rep (n : Nat) : oAll [.list (List.replicate n (.bool true))] = some (.bool true) := by
  rw [show List.replicate n (PyData.bool true) = (List.replicate n true).map .bool by rw [List.map_replicate]]
  unfold oAll
  simp only [toBools_map]
  simp
/-- a row that is one -/
theorem v_is_row {z : Str} {k c : Nat} {b : Bool} {A B : Str} (hc : c ≤ 5) (hb : decide ((k : Int) % 2 = 1) = b) (hA : A = if b then "|#" else "o*") (hB : B = if b then " " else "-=") (hl : (z.length : Int) = 2 * c - (k : Int) % 2)
    (h : ∀ i x, (TL.tl z)[i]? = some x → x ∈ TL.tl (if i % 2 = 0 then A else B)) : F_is_row [.str z, .int k, .int c] = some (.ok (.bool true)) := by
  have hn : z.length < 11 := by omega
  obtain ⟨p1, p2⟩ := steps_even _ hn
  obtain ⟨q1, q2⟩ := steps_odd _ hn
  have e1 := step_len z none p2
  have e2 := step_len z (some 1) q2
  have m1 : ∀ x ∈ TL.tl (stepS z none none 2), x ∈ TL.tl A := fun x hx => by
    obtain ⟨i, hi, e⟩ := step_mem hx
    have := h i x e
    rw [if_pos (of_decide_eq_true (List.all_eq_true.mp p1 i hi))] at this
    exact this
  have m2 : ∀ x ∈ TL.tl (stepS z (some 1) none 2), x ∈ TL.tl B := fun x hx => by
    obtain ⟨i, hi, e⟩ := step_mem hx
    have := h i x e
    rw [if_neg (by have := of_decide_eq_true (List.all_eq_true.mp q1 i hi); omega)] at this
    exact this
  have ol := oLenS_e (z := z) (by omega)
  have hne : oNe (.int (z.length : Int)) (.int (2 * (c : Int) - (k : Int) % 2)) = some (.bool false) := by rw [oNe_i, hl]; simp
  have mm : oIC cMul (fun i j => i * j) (.int 2) (.int (c : Int)) = some (.int (2 * c)) := oMul_i (by omega)
  have st : ∀ x6, [some (Wv.d (.str z)), some (.d (.int k)), some (.d (.int c)), some (.d (.bool b)), some (.d (.str A)), some (.d (.str B)), x6] = ([some (.d (.str z)), some (.d (.int k)), some (.d (.int c)), some (.d (.bool b)), some (.d (.str A)), some (.d (.str B)), x6] : Ss) := fun _ => rfl
  have l1 := all_signs (s := [some (Wv.d (.str z)), some (.d (.int k)), some (.d (.int c)), some (.d (.bool b)), some (.d (.str A)), some (.d (.str B)), none]) (ρ := none) (i := 4) (j := 6) (fun _ => rfl) (by simp) m1
  have l2 := all_signs (s := [some (Wv.d (.str z)), some (.d (.int k)), some (.d (.int c)), some (.d (.bool b)), some (.d (.str A)), some (.d (.str B)), none]) (ρ := none) (i := 5) (j := 6) (fun _ => rfl) (by simp) m2
  have c1 : fLc (fItS (fSlS3 (fVar 0) fNo fNo (fSo (ret (.int 2))))) (fgName 6) (ret true) (fOp oInC (fVar 6) (fVar 4)) [6] [some (Wv.d (.str z)), some (.d (.int k)), some (.d (.int c)), some (.d (.bool b)), some (.d (.str A)), some (.d (.str B)), none] none = some (.ok (List.replicate (TL.tl (stepS z none none 2)).length (.bool true)), none) := by
    refine fLc_to (ρ1 := none) (ds := (stepS z none none 2).cps.toList.map fun c => .str (sg c)) ?_ (by rw [List.length_map, ← TL.len_tl]; omega) l1
    rw [fItS_e, bnd_to (fSlS3_to (z := z) (lo := none) (by simp) (by simp) (by simp) (by simp) e1)]
    rfl
  have c2 : fLc (fItS (fSlS3 (fVar 0) (fSo (ret (.int 1))) fNo (fSo (ret (.int 2))))) (fgName 6) (ret true) (fOp oInC (fVar 6) (fVar 5)) [6] [some (Wv.d (.str z)), some (.d (.int k)), some (.d (.int c)), some (.d (.bool b)), some (.d (.str A)), some (.d (.str B)), none] none = some (.ok (List.replicate (TL.tl (stepS z (some 1) none 2)).length (.bool true)), none) := by
    refine fLc_to (ρ1 := none) (ds := (stepS z (some 1) none 2).cps.toList.map fun c => .str (sg c)) ?_ (by rw [List.length_map, ← TL.len_tl]; omega) l2
    rw [fItS_e, bnd_to (fSlS3_to (z := z) (lo := some 1) (by simp) (by simp) (by simp) (by simp) e2)]
    rfl
  have a1 := oAll_rep (TL.tl (stepS z none none 2)).length
  have a2 := oAll_rep (TL.tl (stepS z (some 1) none 2)).length
  clear l1 l2 e1 e2 p1 p2 q1 q2 hne
  generalize (TL.tl (stepS z none none 2)).length = n1 at c1 a1
  generalize (TL.tl (stepS z (some 1) none 2)).length = n2 at c2 a2
  cases b with
  | false =>
    have hk : (k : Int) % 2 = 0 := by have := of_decide_eq_false hb; omega
    rw [if_neg (by decide)] at hA hB
    subst hA hB
    rw [hk, Int.sub_zero] at hl
    simp [F_is_row, f_is_row, oMod_i, hk, ol, hl, mm, c1, c2, a1, a2]
  | true =>
    have hk : (k : Int) % 2 = 1 := of_decide_eq_true hb
    rw [if_pos rfl] at hA hB
    subst hA hB
    rw [hk] at hl
    simp [F_is_row, f_is_row, oMod_i, hk, ol, hl, mm, c1, c2, a1, a2]
/-! the rows of a drawing -/
theorem drs_at (r c : Nat) (f : Nat → Bool) : ∀ l i, i < l → (drs r c f l)[2 * i]? = some (acr r c f i c) ∧ (drs r c f l)[2 * i + 1]? = some (dnr c f i c)
  | 0, _, h => absurd h (by omega)
  | l + 1, i, h => by
    have hl := drs_len r c f l
    rw [drs_succ]
    by_cases h1 : i < l
    · rw [List.getElem?_append_left (by omega), List.getElem?_append_left (by omega)]
      exact drs_at r c f l i h1
    · have : i = l := by omega
      subst this
      rw [List.getElem?_append_right (by omega), List.getElem?_append_right (by omega), hl, Nat.sub_self, show 2 * i + 1 - 2 * i = 1 by omega]
      exact ⟨rfl, rfl⟩
/-- the rows as data -/
def rws (r c : Nat) (f : Nat → Bool) : Dt := .list ((drs r c f r).map .str)
theorem rws_at {r c : Nat} (f : Nat → Bool) {i : Nat} (h : i < r) : oIxL (rws r c f) (.int (2 * (i : Int))) = some (.str (acr r c f i c)) ∧ oIxL (rws r c f) (.int (2 * (i : Int) + 1)) = some (.str (dnr c f i c)) := by
  obtain ⟨a, b⟩ := drs_at r c f r i h
  constructor
  · refine atI_in (by omega) ?_
    rw [List.getElem?_map, show (2 * (i : Int)).toNat = 2 * i by omega, a]; rfl
  · refine atI_in (by omega) ?_
    rw [List.getElem?_map, show (2 * (i : Int) + 1).toNat = 2 * i + 1 by omega, b]; rfl
theorem dnr_len {c : Nat} (hc : 1 ≤ c) (f : Nat → Bool) (l : Nat) : (dnr c f l c).length = 2 * c - 1 := by
  obtain ⟨j, rfl⟩ : ∃ j, c = j + 1 := ⟨c - 1, by omega⟩
  rw [TL.len_tl]
  have := dnr_tl_len (j + 1) f l j
  omega
theorem row_a {r c : Nat} (hc : c ≤ 5) (f : Nat → Bool) (l : Nat) : F_is_row [.str (acr r c f l c), .int (2 * (l : Int)), .int c] = some (.ok (.bool true)) := by
  refine v_is_row (k := 2 * l) (b := false) (A := "o*") (B := "-=") hc (decide_eq_false (by omega)) rfl rfl (by rw [acr_len]; omega) fun i x hx => ?_
  have hl := acr_tl_len r c f l c
  have hi := (List.getElem?_eq_some_iff.mp hx).1
  obtain ⟨a, b⟩ := acr_at r c f l c (i / 2) (by omega)
  by_cases h : i % 2 = 0
  · rw [if_pos h]
    rw [show 2 * (i / 2) = i by omega, hx] at a
    cases a
    cases lit r c f (l * c + i / 2) <;> decide
  · rw [if_neg h]
    rw [show 2 * (i / 2) + 1 = i by omega, hx] at b
    cases b
    cases f (2 * (l * c + i / 2)) <;> decide
theorem row_d {c : Nat} (h1 : 1 ≤ c) (hc : c ≤ 5) (f : Nat → Bool) (l : Nat) : F_is_row [.str (dnr c f l c), .int (2 * (l : Int) + 1), .int c] = some (.ok (.bool true)) := by
  refine v_is_row (k := 2 * l + 1) (b := true) (A := "|#") (B := " ") hc (decide_eq_true (by omega)) rfl rfl (by rw [dnr_len h1]; omega) fun i x hx => ?_
  obtain ⟨j, rfl⟩ : ∃ j, c = j + 1 := ⟨c - 1, by omega⟩
  have hl := dnr_tl_len (j + 1) f l j
  have hi := (List.getElem?_eq_some_iff.mp hx).1
  obtain ⟨a, b⟩ := dnr_at (j + 1) f l j (i / 2) (by omega)
  by_cases h : i % 2 = 0
  · rw [if_pos h]
    rw [show 2 * (i / 2) = i by omega, hx] at a
    cases a
    cases f (2 * (l * (j + 1) + i / 2) + 1) <;> decide
  · rw [if_neg h]
    have b := b (by omega)
    rw [show 2 * (i / 2) + 1 = i by omega, hx] at b
    cases b
    decide
theorem for_pairs {b : MS} {ds : List Dt} {i j : Nat} (S : Nat → Ss) (R : Nat → Ro) (h : ∀ k d, ds[k]? = some d → b (((S k).set i (some (.d (.int k)))).set j (some (.d d))) (R k) = some (.nx (S (k + 1)) (R (k + 1)))) :
    forGo (fgTup 2 (fgCons (fgName i) (fgCons (fgName j) fgNil))) b (pairsFrom 0 ds) (S 0) (R 0) = some (.nx (S ds.length) (R ds.length)) := by
  have := forGo_to (tg := fgTup 2 (fgCons (fgName i) (fgCons (fgName j) fgNil))) (b := b) (ds := pairsFrom 0 ds) S R rfl rfl fun k d hd => by
    have hk := (List.getElem?_eq_some_iff.mp hd).1
    rw [pairs_len] at hk
    rw [pairs_get (k := 0) (List.getElem?_eq_getElem hk), Nat.zero_add] at hd
    cases hd
    exact ⟨_, rfl, .inl (h k _ (List.getElem?_eq_getElem hk))⟩
  rw [pairs_len] at this
  exact this
theorem v_require_rows {r c : Nat} (hB : Brd r c) (f : Nat → Bool) : F_require_rows [rws r c f] = some (.ok .none) := by
  obtain ⟨r2, r5, c2, c5⟩ := id hB
  have a0 := (rws_at (c := c) f (show 0 < r by omega)).1
  rw [show (2 * ((0 : Nat) : Int)) = 0 from rfl] at a0
  have l0 := oLenS_e (z := acr r c f 0 c) (by rw [acr_len]; omega)
  rw [acr_len] at l0
  have hd := drs_len r c f r
  have loop := for_pairs (i := 2) (j := 3) (ds := (drs r c f r).map .str) (b := fIfS (fOr (fB (fOp oEq (fVar 2) (fOp oMul (ret (.int 2)) (ret (.int 5))))) (fNot (fB (fCall F_is_row (fCons (fVar 3) (fCons (fVar 2) (fCons (fVar 1) fNil))))))) fNever fNext)
    (fun k => [some (.d (rws r c f)), some (.d (.int c)), was (fun i => .int i) k, was (fun i => match ((drs r c f r).map PyData.str)[i]? with
      | some d => d
      | none => .none) k]) (fun _ => none) fun k d hk => by
    have hlt := (List.getElem?_eq_some_iff.mp hk).1
    rw [List.length_map, hd] at hlt
    have hr : F_is_row [d, .int (k : Int), .int c] = some (.ok (.bool true)) := by
      obtain ⟨a, b⟩ := drs_at r c f r (k / 2) (by omega)
      rw [List.getElem?_map] at hk
      rcases Nat.mod_two_eq_zero_or_one k with h | h
      · rw [show 2 * (k / 2) = k by omega] at a
        rw [a] at hk
        cases hk
        have := row_a (r := r) c5 f (k / 2)
        rw [show 2 * ((k / 2 : Nat) : Int) = (k : Int) by omega] at this
        exact this
      · rw [show 2 * (k / 2) + 1 = k by omega] at b
        rw [b] at hk
        cases hk
        have := row_d (c := c) (by omega) c5 f (k / 2)
        rw [show 2 * ((k / 2 : Nat) : Int) + 1 = (k : Int) by omega] at this
        exact this
    have mm : oIC cMul (fun i j => i * j) (.int 2) (.int 5) = some (.int 10) := oMul_i (by decide)
    simp [hr, mm, show ¬ (k : Int) = 10 by omega, was, hk]
  have h0 : (2 * (c : Int)) / 2 = c := by omega
  have mm : oIC cMul (fun i j => i * j) (.int 2) (.int 2) = some (.int 4) := oMul_i (by decide)
  have hn : ((2 * r : Nat) : Int) = 2 * r := by omega
  have hm : (2 * (r : Int)) % 2 = 0 := by omega
  have q1 : decide ((2 : Int) ≤ c) = true := decide_eq_true (by omega)
  have q2 : decide ((c : Int) ≤ 5) = true := decide_eq_true (by omega)
  have q3 : ¬ (2 * (r : Int)) < 4 := by omega
  have h00 : (fun k => [some (Wv.d (rws r c f)), some (.d (.int c)), was (fun i => .int i) k, was (fun i => match ((drs r c f r).map PyData.str)[i]? with
      | some d => d
      | none => .none) k]) 0 = [some (.d (rws r c f)), some (.d (.int c)), none, none] := rfl
  simp only [h00] at loop
  generalize was _ _ = x2 at loop
  generalize was _ _ = x3 at loop
  simp [F_require_rows, f_require_rows, a0, l0, oDiv_i, h0, q1, q2]
  unfold rws at loop ⊢
  simp [loop, hd, oMod_i, hm, mm, q3]
end Sb

/-! Seamboard: drawings read again. -/
namespace Sb
open PySem PySem.Spec PyProof.Rows L2
theorem selDbl (f : Nat → Bool) (k : Nat) : sel (2 * (k + 1)) f = (sel (2 * k) f ++ if f (2 * k) then [((2 * k : Nat) : Int)] else []) ++ if f (2 * k + 1) then [((2 * k + 1 : Nat) : Int)] else [] := by
  unfold sel
  rw [show 2 * (k + 1) = 2 * k + 1 + 1 by omega, List.range_succ, List.range_succ, List.filter_append, List.filter_append, List.map_append, List.map_append]
  cases h1 : f (2 * k) <;> cases h2 : f (2 * k + 1) <;> simp [h1, h2]
theorem eqv_str (a b : Str) : PyData.eqv (.str a) (.str b) = decide (a = b) := by
  unfold PyData.eqv
  by_cases h : a = b
  · subst h; simp
  · simp [h]
theorem shaped_sg {x : Nat} (h : x < 0x110000) : SeqAt.shaped (.str (sg x)) = true := shaped_S fun y hy => by
  have : y ∈ [x] := hy
  rw [List.mem_singleton] at this
  omega
theorem eq_sg {x y : Nat} (hx : x < 0x110000) (hy : y < 0x110000) : oEq (.str (sg x)) (.str (sg y)) = some (.bool (decide (x = y))) := by
  rw [oEq_e (by rw [shaped_sg hx, shaped_sg hy]; rfl), eqv_str]
  congr 2
  rw [decide_eq_decide]
  refine ⟨fun h => ?_, fun h => by rw [h]⟩
  have : TL.tl (sg x) = TL.tl (sg y) := by rw [h]
  exact (List.cons.inj this).1
theorem eq_edge (b : Bool) : oEq (.str (sg (cd b 45 61))) (.str (sg 61)) = some (.bool b) := by cases b <;> exact eq_sg (by decide) (by decide)
theorem eq_down (b : Bool) : oEq (.str (sg (cd b 124 35))) (.str (sg 35)) = some (.bool b) := by cases b <;> exact eq_sg (by decide) (by decide)
theorem sign_edge : oIxS (.str "-=") (.int 1) = some (.str (sg 61)) := rfl
theorem sign_down : oIxS (.str "|#") (.int 1) = some (.str (sg 35)) := rfl
theorem oIxS_e {z : Str} {i : Int} {x : Nat} (hl : z.length ≤ 100000) (h0 : 0 ≤ i) (h : (TL.tl z)[i.toNat]? = some x) : oIxS (.str z) (.int i) = some (.str (sg x)) := by
  have : atI z.cps.toList i = some x := atI_in h0 h
  unfold oIxS
  simp only [this]
  exact if_pos hl
theorem oDivmod_e {i j : Int} (h : 0 < j ∧ j < 1073741824) : oDivmod [.int i, .int j] = some (.tuple [.int (i / j), .int (i % j)]) := if_pos h
/-- the states of the loop of the sites -/
def dSt (r c : Nat) (f : Nat → Bool) (k : Nat) : Ss := [some (.d (bd r c)), some (.d (rws r c f)), some (.o (.l ((sel (2 * k) f).map .int))), was (fun i => .int i) k, was (fun i => .int ((i : Int) / c)) k, was (fun i => .int ((i : Int) % c)) k]
theorem v_drawn_flips {r c : Nat} (hB : Brd r c) (f : Nat → Bool) : F_drawn_flips [bd r c, rws r c f] = some (.ok (ti (sel (2 * (r * c)) f))) := by
  obtain ⟨r2, r5, c2, c5⟩ := id hB
  have h25 := rc25 hB
  have er := oRng1_e (j := (r : Int) * c) (by rw [← Int.natCast_mul]; omega)
  rw [show ((r : Int) * c).toNat = r * c by rw [← Int.natCast_mul]; rfl] at er
  have loop := for_upto (n := r * c) (j := 3) (b := fSeq (fAsg (fCB oDivmod (fCons (fVar 3) (fCons (fOp oIxT (fVar 0) (ret (.int 1))) fNil))) (fgTup 2 (fgCons (fgName 4) (fgCons (fgName 5) fgNil))))
    (fSeq (fIfS (fB (fOp oEq (fOp oIxS (fOp oIxL (fVar 1) (fOp oMul (ret (.int 2)) (fVar 4))) (fOp oAdd (fOp oMul (ret (.int 2)) (fVar 5)) (ret (.int 1)))) (fOp oIxS (ret (.str "-=")) (ret (.int 1)))))
      (fApp 2 (fOp oMul (ret (.int 2)) (fVar 3))) fNext)
    (fIfS (fB (fOp oEq (fOp oIxS (fOp oIxL (fVar 1) (fOp oAdd (fOp oMul (ret (.int 2)) (fVar 4)) (ret (.int 1)))) (fOp oMul (ret (.int 2)) (fVar 5))) (fOp oIxS (ret (.str "|#")) (ret (.int 1)))))
      (fApp 2 (fOp oAdd (fOp oMul (ret (.int 2)) (fVar 3)) (ret (.int 1)))) fNext))) (dSt r c f) (fun _ => none) fun k hk => .inl (by
    have hq : k / c < r := Nat.div_lt_of_lt_mul (by rw [Nat.mul_comm]; exact hk)
    have hm : k % c < c := Nat.mod_lt _ (by omega)
    have hkk : k / c * c + k % c = k := by rw [Nat.mul_comm]; exact Nat.div_add_mod k c
    obtain ⟨a1, a2⟩ := rws_at (c := c) f hq
    have s1 := (acr_at r c f (k / c) c (k % c) hm).2
    have s2 : (TL.tl (dnr c f (k / c) c))[2 * (k % c)]? = some (cd (f (2 * (k / c * c + k % c) + 1)) 124 35) := by
      obtain ⟨j, rfl⟩ : ∃ j, c = j + 1 := ⟨c - 1, by omega⟩
      exact (dnr_at (j + 1) f _ j (k % (j + 1)) (by omega)).1
    rw [hkk] at s1 s2
    have x1 := oIxS_e (z := acr r c f (k / c) c) (i := 2 * ((k % c : Nat) : Int) + 1) (by rw [acr_len]; omega) (by omega) (by rw [show (2 * ((k % c : Nat) : Int) + 1).toNat = 2 * (k % c) + 1 by omega]; exact s1)
    have x2 := oIxS_e (z := dnr c f (k / c) c) (i := 2 * ((k % c : Nat) : Int)) (by rw [dnr_len (by omega)]; omega) (by omega) (by rw [show (2 * ((k % c : Nat) : Int)).toNat = 2 * (k % c) by omega]; exact s2)
    rw [Int.natCast_emod] at x1 x2
    rw [Int.natCast_ediv] at a1 a2
    have dm := oDivmod_e (i := (k : Int)) (j := c) (by omega)
    have m1 : oIC cMul (fun i j => i * j) (.int 2) (.int ((k : Int) / c)) = some (.int (2 * ((k : Int) / c))) := oMul_i (.inl (by decide))
    have m2 : oIC cMul (fun i j => i * j) (.int 2) (.int ((k : Int) % c)) = some (.int (2 * ((k : Int) % c))) := oMul_i (.inl (by decide))
    have m3 : oIC cMul (fun i j => i * j) (.int 2) (.int (k : Int)) = some (.int (2 * (k : Int))) := oMul_i (.inl (by decide))
    have hsl := sel_len (2 * k) f
    unfold dSt
    rw [selDbl f k]
    rw [show was (fun i => PyData.int ((i : Int) / c)) (k + 1) = some (.d (.int ((k : Int) / c))) from rfl, show was (fun i => PyData.int ((i : Int) % c)) (k + 1) = some (.d (.int ((k : Int) % c))) from rfl, show was (fun i => PyData.int (i : Int)) (k + 1) = some (.d (.int (k : Int))) from rfl]
    generalize was _ k = w3
    generalize was _ k = w4
    generalize was _ k = w5
    generalize (k : Int) / c = q at a1 a2 dm m1 ⊢
    generalize (k : Int) % c = m at x1 x2 dm m2 ⊢
    rw [fSeq_to (s1 := [some (.d (bd r c)), some (.d (rws r c f)), some (.o (.l ((sel (2 * k) f).map .int))), some (.d (.int k)), some (.d (.int q)), some (.d (.int m))]) (ρ1 := none) (by simp [dm])]
    rw [fSeq_to (s1 := [some (.d (bd r c)), some (.d (rws r c f)), some (.o (.l ((sel (2 * k) f ++ if f (2 * k) then [((2 * k : Nat) : Int)] else []).map .int))), some (.d (.int k)), some (.d (.int q)), some (.d (.int m))]) (ρ1 := none) ?_]
    · have hL : (sel (2 * k) f ++ if f (2 * k) then [((2 * k : Nat) : Int)] else []).length ≤ 1000 := by rw [List.length_append]; split <;> simp <;> omega
      generalize (sel (2 * k) f ++ if f (2 * k) then [((2 * k : Nat) : Int)] else []) = L at hL ⊢
      cases hf : f (2 * k + 1) with
      | false => simp [a2, x2, m1, m2, sign_down, eq_down, hf]
      | true =>
        rw [hf] at x2
        have ap := own_app (i := 2) (s := [some (.d (bd r c)), some (.d (rws r c f)), some (.o (.l (L.map .int))), some (.d (.int k)), some (.d (.int q)), some (.d (.int m))]) (ρ := none) (ρ1 := none) (a := fOp oAdd (fOp oMul (ret (.int 2)) (fVar 3)) (ret (.int 1))) (d := .int ((2 * k + 1 : Nat) : Int)) (xs := L.map .int) rfl (by simp [m3]) (by rw [List.length_map]; omega)
        simp [a2, x2, m1, m2, sign_down, eq_down, -List.map_append]
        rw [ap]
        simp
    · cases hf : f (2 * k) with
      | false => simp [a1, x1, m1, m2, sign_edge, eq_edge, hf]
      | true =>
        rw [hf] at x1
        have ap := own_app (i := 2) (s := [some (.d (bd r c)), some (.d (rws r c f)), some (.o (.l ((sel (2 * k) f).map .int))), some (.d (.int k)), some (.d (.int q)), some (.d (.int m))]) (ρ := none) (ρ1 := none) (a := fOp oMul (ret (.int 2)) (fVar 3)) (d := .int ((2 * k : Nat) : Int)) (xs := (sel (2 * k) f).map .int) rfl (by simp [m3]) (by rw [List.length_map]; omega)
        simp [a1, x1, m1, m2, sign_edge, eq_edge, -List.map_append]
        rw [ap]
        simp)
  have h0 : dSt r c f 0 = [some (.d (bd r c)), some (.d (rws r c f)), some (.o (.l [])), none, none, none] := rfl
  rw [h0] at loop
  unfold dSt at loop
  generalize was _ _ = x3 at loop
  generalize was _ _ = x4 at loop
  generalize was _ _ = x5 at loop
  simp [F_drawn_flips, f_drawn_flips, v_site_count hB, er, few_e]
  rw [loop]
  simp
def oSplit (z : Str) (y : Dt) : Option (List Dt) := match y with
  | .str t => if t.length ≠ 0 ∧ z.length ≤ 90000 then some ((Txt.split z t).map .str) else none
  | _ => none
@[simp] theorem fSplit_e {s : Ss} {ρ : Ro} (a b : ME Dt) : fSplit a b s ρ = (bnd a fun x => match x with
  | .str z => bnd b fun y => lft (oSplit z y)
  | _ => lft none) s ρ := (rfl)
def kS : Dt → Bool
  | .str _ => true
  | _ => false
theorem kit_S : ∀ x : Dt, kitB (tyN x) "str" = some (kS x)
  | .none => rfl
  | .bool _ => rfl
  | .int _ => rfl
  | .str _ => rfl
  | .list _ => rfl
  | .tuple _ => rfl
  | .dict _ => rfl
theorem drw_len {r c : Nat} (hB : Brd r c) (f : Nat → Bool) : (drw r c f).length ≤ 200 := by
  obtain ⟨r2, r5, c2, c5⟩ := id hB
  have h1 := sum_le 10 _ (drs_ok (r := r) f r c5)
  have h2 := join_len "\n" (drs r c f r)
  have h3 : ("\n" : Str).length = 1 := rfl
  rw [drs_len] at h1 h2
  rw [h3] at h2
  unfold drw
  omega
theorem drw_split {r c : Nat} (hB : Brd r c) (f : Nat → Bool) : Txt.split (drw r c f) "\n" = drs r c f r := by
  obtain ⟨r2, r5, c2, c5⟩ := id hB
  refine TL.split_join (s := 10) (S := []) rfl (by rw [← Array.all_toList]; rfl) (fun h => by have := drs_len r c f r; rw [h] at this; simp at this; omega) fun p hp => ?_
  obtain ⟨l, hl, hp⟩ := List.mem_flatMap.mp hp
  intro h10
  rcases List.mem_cons.mp hp with h | h
  · subst h
    obtain ⟨i, hi, e⟩ := List.getElem_of_mem h10
    rw [acr_tl_len] at hi
    have e' := List.getElem?_eq_getElem (by rw [acr_tl_len]; exact hi : i < (TL.tl (acr r c f l c)).length)
    rw [e] at e'
    obtain ⟨a, b⟩ := acr_at r c f l c (i / 2) (by omega)
    rcases Nat.mod_two_eq_zero_or_one i with h | h
    · rw [show 2 * (i / 2) = i by omega, e'] at a
      revert a
      cases lit r c f (l * c + i / 2) <;> decide
    · rw [show 2 * (i / 2) + 1 = i by omega, e'] at b
      revert b
      cases f (2 * (l * c + i / 2)) <;> decide
  · rw [List.mem_singleton] at h
    subst h
    obtain ⟨j, rfl⟩ : ∃ j, c = j + 1 := ⟨c - 1, by omega⟩
    have hl := dnr_tl_len (j + 1) f l j
    obtain ⟨i, hi, e⟩ := List.getElem_of_mem h10
    have hi' : i < (TL.tl (dnr (j + 1) f l (j + 1))).length := hi
    have e' : (TL.tl (dnr (j + 1) f l (j + 1)))[i]? = some 10 := by rw [List.getElem?_eq_getElem hi']; exact congrArg some e
    obtain ⟨a, b⟩ := dnr_at (j + 1) f l j (i / 2) (by omega)
    rcases Nat.mod_two_eq_zero_or_one i with h | h
    · rw [show 2 * (i / 2) = i by omega, e'] at a
      revert a
      cases f (2 * (l * (j + 1) + i / 2) + 1) <;> decide
    · have b := b (by omega)
      rw [show 2 * (i / 2) + 1 = i by omega, e'] at b
      revert b
      decide
theorem okS_drs {r c : Nat} (f : Nat → Bool) (l : Nat) : ∀ y ∈ drs r c f l, okS y := fun y hy => by
  obtain ⟨i, _, hy⟩ := List.mem_flatMap.mp hy
  rcases List.mem_cons.mp hy with h | h
  · subst h; exact okS_acr r c f i c
  · rw [List.mem_singleton] at h
    subst h
    exact okS_Join (okS_lit rfl) _ fun y hy => by
      obtain ⟨i, _, rfl⟩ := List.mem_map.mp hy
      exact okS_mk2 (okS_lit rfl) (okS_lit rfl)
theorem v_read {r c : Nat} (hB : Brd r c) (f : Nat → Bool) : F_read [.str (drw r c f)] = some (.ok (.tuple [bd r c, ti (sel (2 * (r * c)) f)])) := by
  obtain ⟨r2, r5, c2, c5⟩ := id hB
  have a0 := (rws_at (c := c) f (show 0 < r by omega)).1
  rw [show (2 * ((0 : Nat) : Int)) = 0 from rfl] at a0
  have l0 := oLenS_e (z := acr r c f 0 c) (by rw [acr_len]; omega)
  rw [acr_len] at l0
  have hd := drs_len r c f r
  have hw := drw_len hB f
  have h1 : (2 * (c : Int)) / 2 = c := by omega
  have h2 : (2 * (r : Int)) / 2 = r := by omega
  have loop := for_pairs (i := 4) (j := 5) (ds := (drs r c f r).map .str) (b := fIfS (fB (fOp oNe (fVar 5) (fOp oIxL (fVar 1) (fVar 4)))) fNever fNext)
    (fun k => [some (.d (.str (drw r c f))), some (.d (rws r c f)), some (.d (bd r c)), some (.d (ti (sel (2 * (r * c)) f))), was (fun i => .int i) k, was (fun i => match ((drs r c f r).map PyData.str)[i]? with
      | some d => d
      | none => .none) k]) (fun _ => none) fun k d hk => by
    obtain ⟨y, hy, rfl⟩ : ∃ y, (drs r c f r)[k]? = some y ∧ d = .str y := by
      rw [List.getElem?_map] at hk
      cases e : (drs r c f r)[k]? with
      | none => rw [e] at hk; cases hk
      | some y => rw [e] at hk; cases hk; exact ⟨y, rfl, rfl⟩
    have hs := shaped_S (okS_drs f r y (List.mem_of_getElem? hy))
    have e1 : oIxL (rws r c f) (.int (k : Int)) = some (.str y) := atI_in (by omega) (by rw [Int.toNat_natCast]; exact hk)
    have e2 : oNe (.str y) (.str y) = some (.bool false) := by rw [oNe_e (by rw [hs]; rfl), eqv_str]; simp
    simp [e1, e2, was, hy]
  have h00 : (fun k => [some (.d (.str (drw r c f))), some (.d (rws r c f)), some (.d (bd r c)), some (.d (ti (sel (2 * (r * c)) f))), was (fun i => .int i) k, was (fun i => match ((drs r c f r).map PyData.str)[i]? with
      | some d => d
      | none => .none) k]) 0 = [some (.d (.str (drw r c f))), some (.d (rws r c f)), some (.d (bd r c)), some (.d (ti (sel (2 * (r * c)) f))), none, none] := rfl
  simp only [h00] at loop
  generalize was _ _ = x4 at loop
  generalize was _ _ = x5 at loop
  have rr := v_require_rows hB f
  have df := v_drawn_flips hB f
  have hn : ("\n" : Str).length ≠ 0 := by decide
  have lw : oLen [rws r c f] = some (.int (2 * r)) := by
    show some (PyData.int ((List.map PyData.str (drs r c f r)).length : Nat)) = _
    rw [List.length_map, hd]; simp
  have hsp : oSplit (drw r c f) (.str "\n") = some ((drs r c f r).map PyData.str) := by
    show (if ("\n" : Str).length ≠ 0 ∧ (drw r c f).length ≤ 90000 then some ((Txt.split (drw r c f) "\n").map PyData.str) else none) = _
    rw [if_pos ⟨hn, by omega⟩, drw_split hB]
  have hw := v_written hB f
  unfold rws at *
  simp [F_read, f_read, kitO, kit_S, kS, hsp, rr, df, lw, l0, a0, h1, h2, oDiv_i, hw, loop]
end Sb

/-! Seamboard: what drawings count and how two differ. -/
namespace Sb
open PySem PySem.Spec PyProof.Rows L2
theorem shaped_strs : ∀ ys : List Str, (∀ y ∈ ys, okS y) → PyData.canLayAll0 (ys.map PyData.str) = true ∧ PyData.depthAll (ys.map PyData.str) = 0
  | [], _ => ⟨rfl, rfl⟩
  | y :: ys, h => by
    obtain ⟨a, b⟩ := shaped_strs ys fun z hz => h z (List.mem_cons_of_mem _ hz)
    have hy := shaped_S (h y List.mem_cons_self)
    rw [List.map_cons]
    refine ⟨?_, ?_⟩
    · show (PyData.canLay0 (.str y) && PyData.canLayAll0 (ys.map PyData.str)) = true
      rw [a, Bool.and_true]
      exact (Bool.and_eq_true_iff.mp hy).1
    · show max 0 (PyData.depthAll (ys.map PyData.str)) = 0
      rw [b]; rfl
theorem shaped_lst (ys : List Str) (h : ∀ y ∈ ys, okS y) : SeqAt.shaped (.list (ys.map .str)) = true := by
  obtain ⟨a, b⟩ := shaped_strs ys h
  show (PyData.canLayAll0 (ys.map PyData.str) && decide (PyData.depthAll (ys.map PyData.str) + 1 ≤ 64)) = true
  rw [a, b]; rfl
theorem shaped_pair (a b : List Int) : SeqAt.shaped (.tuple [ti a, ti b]) = true := by
  show ((PyData.canLayAll0 (a.map PyData.int) && (PyData.canLayAll0 (b.map PyData.int) && true)) && decide (max (PyData.depthAll (a.map PyData.int) + 1) (max (PyData.depthAll (b.map PyData.int) + 1) 0) + 1 ≤ 64)) = true
  rw [can_ints, can_ints, depth_ints, depth_ints]; rfl
theorem oNe_same {x : Dt} (h : SeqAt.shaped x = true) : oNe x x = some (.bool false) := by rw [oNe_e (by rw [h]; rfl), eqv_self h]; rfl
/-! sums -/
def sm : Nat → (Nat → Nat) → Nat
  | 0, _ => 0
  | n + 1, g => sm n g + g n
theorem sm_congr : ∀ {n : Nat} {g h : Nat → Nat}, (∀ k, k < n → g k = h k) → sm n g = sm n h
  | 0, _, _, _ => rfl
  | n + 1, g, h, e => by show sm n g + g n = sm n h + h n; rw [sm_congr fun k hk => e k (by omega), e n (by omega)]
theorem sm_add (a : Nat) (g : Nat → Nat) : ∀ b, sm (a + b) g = sm a g + sm b (fun i => g (a + i))
  | 0 => rfl
  | b + 1 => by show sm (a + b) g + g (a + b) = _ + (_ + g (a + b)); rw [sm_add a g b]; omega
theorem sm_mul (c : Nat) (g : Nat → Nat) : ∀ r, sm r (fun l => sm c (fun i => g (l * c + i))) = sm (r * c) g
  | 0 => by rw [Nat.zero_mul]; rfl
  | r + 1 => by
    show sm r _ + sm c _ = _
    rw [sm_mul c g r, Nat.succ_mul, sm_add]
theorem sm_two (g : Nat → Nat) : ∀ n, sm n (fun k => g (2 * k) + g (2 * k + 1)) = sm (2 * n) g
  | 0 => rfl
  | n + 1 => by
    show sm n _ + (g (2 * n) + g (2 * n + 1)) = _
    rw [sm_two g n, show 2 * (n + 1) = 2 * n + 1 + 1 by omega]
    show _ = sm (2 * n) g + g (2 * n) + g (2 * n + 1)
    omega
theorem sm_plus (g h : Nat → Nat) : ∀ n, sm n (fun k => g k + h k) = sm n g + sm n h
  | 0 => rfl
  | n + 1 => by show sm n _ + (g n + h n) = (sm n g + g n) + (sm n h + h n); rw [sm_plus g h n]; omega
def b2 (b : Bool) : Nat := if b then 1 else 0
theorem sel_sm (f : Nat → Bool) : ∀ n, (sel n f).length = sm n (fun k => b2 (f k))
  | 0 => rfl
  | n + 1 => by
    rw [sel_succ, List.length_append, sel_sm f n]
    show _ = sm n _ + b2 (f n)
    unfold b2
    cases f n <;> rfl
/-! a measure of a text -/
def Mw (w : Nat → Nat) (l : List Nat) : Nat := (l.map w).sum
theorem Mw_app (w : Nat → Nat) (a b : List Nat) : Mw w (a ++ b) = Mw w a + Mw w b := by unfold Mw; rw [List.map_append, List.sum_append]
theorem Mw_acr (w : Nat → Nat) (r c : Nat) (f : Nat → Bool) (l : Nat) : ∀ j, Mw w (TL.tl (acr r c f l j)) = sm j (fun i => w (cd (lit r c f (l * c + i)) 111 42) + w (cd (f (2 * (l * c + i))) 45 61))
  | 0 => rfl
  | j + 1 => by
    rw [acr_tl, Mw_app, Mw_acr w r c f l j]
    show _ + (w _ + (w _ + 0)) = sm j _ + (w _ + w _)
    rfl
theorem Mw_dnr (w : Nat → Nat) (h32 : w 32 = 0) (c : Nat) (f : Nat → Bool) (l : Nat) : ∀ j, Mw w (TL.tl (dnr c f l (j + 1))) = sm (j + 1) (fun i => w (cd (f (2 * (l * c + i) + 1)) 124 35))
  | 0 => by
    rw [dnr_one]
    show w _ + 0 = 0 + w _
    rw [Nat.add_zero, Nat.zero_add]
  | j + 1 => by
    rw [dnr_tl, Mw_app, Mw_dnr w h32 c f l j]
    show _ + (w 32 + (w _ + 0)) = sm (j + 1) _ + w _
    rw [h32, Nat.zero_add]; rfl
theorem drs_ne {r c : Nat} (f : Nat → Bool) {l : Nat} (h : 0 < l) : drs r c f l ≠ [] := fun e => by have := drs_len r c f l; rw [e] at this; simp at this; omega
/-- the drawing of so many rows -/
theorem drw_tl (r c : Nat) (f : Nat → Bool) (l : Nat) (h : 0 < l) : TL.tl (Txt.join "\n" (drs r c f (l + 1))) = TL.tl (Txt.join "\n" (drs r c f l)) ++ ([10] ++ (TL.tl (acr r c f l c) ++ ([10] ++ TL.tl (dnr c f l c)))) := by
  have e : drs r c f (l + 1) = (drs r c f l ++ [acr r c f l c]) ++ [dnr c f l c] := by rw [drs_succ, List.append_assoc]; rfl
  rw [e, TL.join_eq, Join_snoc _ _ _ (by simp), Join_snoc _ _ _ (drs_ne f h), TL.join_eq]
  simp only [List.append_assoc]
  rfl
theorem drw_tl1 (r c : Nat) (f : Nat → Bool) : TL.tl (Txt.join "\n" (drs r c f 1)) = TL.tl (acr r c f 0 c) ++ ([10] ++ TL.tl (dnr c f 0 c)) := by
  have e : drs r c f 1 = [acr r c f 0 c] ++ [dnr c f 0 c] := rfl
  rw [e, TL.join_eq, Join_snoc _ _ _ (by simp)]
  simp only [List.append_assoc]
  rfl
theorem Mw_drw (w : Nat → Nat) (h10 : w 10 = 0) (h32 : w 32 = 0) {c : Nat} (hc : 1 ≤ c) (r : Nat) (f : Nat → Bool) : ∀ l, Mw w (TL.tl (Txt.join "\n" (drs r c f (l + 1)))) = sm ((l + 1) * c) (fun k => w (cd (lit r c f k) 111 42) + w (cd (f (2 * k)) 45 61) + w (cd (f (2 * k + 1)) 124 35)) := fun l => by
  rw [← sm_mul]
  obtain ⟨j, rfl⟩ : ∃ j, c = j + 1 := ⟨c - 1, by omega⟩
  induction l with
  | zero =>
    rw [drw_tl1, Mw_app, Mw_app, Mw_acr, Mw_dnr w h32]
    show _ + ((w 10 + 0) + _) = 0 + sm _ _
    rw [sm_plus (fun i => w (cd (lit r (j + 1) f (0 * (j + 1) + i)) 111 42) + w (cd (f (2 * (0 * (j + 1) + i))) 45 61)) (fun i => w (cd (f (2 * (0 * (j + 1) + i) + 1)) 124 35))]
    rw [h10]; omega
  | succ l ih =>
    rw [drw_tl r _ f (l + 1) (by omega), Mw_app, ih, Mw_app, Mw_app, Mw_app, Mw_acr, Mw_dnr w h32]
    show _ + ((w 10 + 0) + (_ + ((w 10 + 0) + _))) = sm (l + 1) _ + sm _ _
    rw [sm_plus (fun i => w (cd (lit r (j + 1) f ((l + 1) * (j + 1) + i)) 111 42) + w (cd (f (2 * ((l + 1) * (j + 1) + i))) 45 61)) (fun i => w (cd (f (2 * ((l + 1) * (j + 1) + i) + 1)) 124 35))]
    rw [h10]; omega
theorem cnt_Mw (x : Nat) : ∀ l : List Nat, PyProof.Rows.cnt x l = (Mw (fun y => if y = x then 1 else 0) l : Nat)
  | [] => rfl
  | y :: l => by
    rw [PyProof.Rows.cnt_cons, cnt_Mw x l]
    show _ = (((if y = x then 1 else 0) + Mw _ l : Nat) : Int)
    split <;> simp
theorem drw_stars {r c : Nat} (hB : Brd r c) (f : Nat → Bool) : Txt.count (drw r c f) "*" = ((sel (r * c) (lit r c f)).length : Nat) := by
  obtain ⟨r2, r5, c2, c5⟩ := id hB
  obtain ⟨l, rfl⟩ : ∃ l, r = l + 1 := ⟨r - 1, by omega⟩
  rw [show (("*" : Str)) = ⟨#[42]⟩ from rfl, count_cnt, cnt_Mw, sel_sm]
  unfold drw
  rw [Mw_drw _ rfl rfl (by omega)]
  refine congrArg Nat.cast (sm_congr fun k _ => ?_)
  unfold b2
  cases lit (l + 1) c f k <;> cases f (2 * k) <;> cases f (2 * k + 1) <;> rfl
theorem drw_flips {r c : Nat} (hB : Brd r c) (f : Nat → Bool) : Txt.count (drw r c f) "=" + Txt.count (drw r c f) "#" = ((sel (2 * (r * c)) f).length : Nat) := by
  obtain ⟨r2, r5, c2, c5⟩ := id hB
  obtain ⟨l, rfl⟩ : ∃ l, r = l + 1 := ⟨r - 1, by omega⟩
  rw [show (("=" : Str)) = ⟨#[61]⟩ from rfl, show (("#" : Str)) = ⟨#[35]⟩ from rfl, count_cnt, count_cnt, cnt_Mw, cnt_Mw, sel_sm, ← sm_two]
  unfold drw
  rw [Mw_drw _ rfl rfl (by omega), Mw_drw _ rfl rfl (by omega), ← Int.natCast_add, ← sm_plus]
  refine congrArg Nat.cast (sm_congr fun k _ => ?_)
  unfold b2
  cases lit (l + 1) c f k <;> cases f (2 * k) <;> cases f (2 * k + 1) <;> rfl
end Sb

/-! Seamboard: how two drawings differ. -/
namespace Sb
open PySem PySem.Spec PyProof.Rows L2
def sgE : List Nat := [45, 61, 124, 35]
/-- two texts that differ at so many places, at signs of edges -/
structure Df (n : Nat) (a b : List Nat) : Prop where
  len : a.length = b.length
  num : ((List.range a.length).filter fun k => decide (a[k]? ≠ b[k]?)).length = n
  sgn : ∀ k, k < a.length → a[k]? ≠ b[k]? → ∃ x ∈ sgE, a[k]? = some x
theorem Df.same (a : List Nat) : Df 0 a a where
  len := rfl
  num := by
    rw [List.filter_eq_nil_iff.mpr]
    · rfl
    · intro k _; simp
  sgn := fun k _ h => absurd rfl h
theorem Df.one (b b' : Bool) {x y : Nat} (hxy : x ≠ y) (hx : x ∈ sgE) (hy : y ∈ sgE) : Df (b2 (b ^^ b')) [cd b x y] [cd b' x y] where
  len := rfl
  num := by cases b <;> cases b' <;> simp [cd, b2, List.range_succ, hxy, Ne.symm hxy]
  sgn := fun k hk h => by
    have : k = 0 := by simpa using hk
    subst this
    refine ⟨cd b x y, ?_, rfl⟩
    cases b
    · exact hx
    · exact hy
theorem Df.app {n m : Nat} {a b c d : List Nat} (h : Df n a b) (g : Df m c d) : Df (n + m) (a ++ c) (b ++ d) where
  len := by rw [List.length_append, List.length_append, h.len, g.len]
  num := by
    rw [List.length_append, List.range_add, List.filter_append, List.length_append, List.filter_map, List.length_map, ← h.num, ← g.num]
    refine congr (congrArg HAdd.hAdd ?_) ?_
    · refine congrArg List.length (List.filter_congr fun k hk => ?_)
      rw [List.mem_range] at hk
      rw [List.getElem?_append_left hk, List.getElem?_append_left (by rw [← h.len]; exact hk)]
    · refine congrArg List.length (List.filter_congr fun k hk => ?_)
      show decide ((a ++ c)[a.length + k]? ≠ (b ++ d)[a.length + k]?) = _
      rw [List.getElem?_append_right (by omega), List.getElem?_append_right (by rw [← h.len]; omega), ← h.len, Nat.add_sub_cancel_left]
  sgn := fun k hk he => by
    by_cases h1 : k < a.length
    · rw [List.getElem?_append_left h1, List.getElem?_append_left (by rw [← h.len]; exact h1)] at he
      rw [List.getElem?_append_left h1]
      exact h.sgn k h1 he
    · rw [List.getElem?_append_right (by omega), List.getElem?_append_right (by rw [← h.len]; omega), ← h.len] at he
      rw [List.getElem?_append_right (by omega)]
      exact g.sgn _ (by rw [List.length_append] at hk; omega) he
variable {r c : Nat} {f g : Nat → Bool}
theorem Df_acr (hl : ∀ k, k < r * c → lit r c f k = lit r c g k) {l : Nat} (hlr : l < r) : ∀ j, j ≤ c → Df (sm j fun i => b2 (f (2 * (l * c + i)) ^^ g (2 * (l * c + i)))) (TL.tl (acr r c f l j)) (TL.tl (acr r c g l j))
  | 0, _ => Df.same _
  | j + 1, h => by
    rw [acr_tl, acr_tl, hl _ (site_in hlr (by omega))]
    refine (Df_acr hl hlr j (by omega)).app ?_
    have := (Df.same [cd (lit r c g (l * c + j)) 111 42]).app (Df.one (f (2 * (l * c + j))) (g (2 * (l * c + j))) (x := 45) (y := 61) (by decide) (by decide) (by decide))
    rw [Nat.zero_add] at this
    exact this
theorem Df_dnr (l : Nat) : ∀ j, Df (sm (j + 1) fun i => b2 (f (2 * (l * c + i) + 1) ^^ g (2 * (l * c + i) + 1))) (TL.tl (dnr c f l (j + 1))) (TL.tl (dnr c g l (j + 1)))
  | 0 => by
    rw [dnr_one, dnr_one]
    have := Df.one (f (2 * (l * c + 0) + 1)) (g (2 * (l * c + 0) + 1)) (x := 124) (y := 35) (by decide) (by decide) (by decide)
    rw [← Nat.zero_add (b2 _)] at this
    exact this
  | j + 1 => by
    rw [dnr_tl, dnr_tl]
    refine (Df_dnr l j).app ?_
    have := (Df.same [32]).app (Df.one (f (2 * (l * c + (j + 1)) + 1)) (g (2 * (l * c + (j + 1)) + 1)) (x := 124) (y := 35) (by decide) (by decide) (by decide))
    rw [Nat.zero_add] at this
    exact this
theorem Df_drw (hc : 1 ≤ c) (hl : ∀ k, k < r * c → lit r c f k = lit r c g k) : ∀ l, l + 1 ≤ r → Df (sm (l + 1) fun i => sm c fun j => b2 (f (2 * (i * c + j)) ^^ g (2 * (i * c + j))) + b2 (f (2 * (i * c + j) + 1) ^^ g (2 * (i * c + j) + 1))) (TL.tl (Txt.join "\n" (drs r c f (l + 1)))) (TL.tl (Txt.join "\n" (drs r c g (l + 1)))) := fun l => by
  obtain ⟨j, rfl⟩ : ∃ j, c = j + 1 := ⟨c - 1, by omega⟩
  induction l with
  | zero =>
    intro h
    rw [drw_tl1, drw_tl1]
    have := (Df_acr hl (show 0 < r by omega) (j + 1) (Nat.le_refl _)).app ((Df.same [10]).app (Df_dnr (f := f) (g := g) (c := j + 1) 0 j))
    rw [Nat.zero_add, ← sm_plus, ← Nat.zero_add (sm (j + 1) _)] at this
    exact this
  | succ l ih =>
    intro h
    rw [drw_tl r _ f (l + 1) (by omega), drw_tl r _ g (l + 1) (by omega)]
    have := (ih (by omega)).app ((Df.same [10]).app ((Df_acr hl (show l + 1 < r by omega) (j + 1) (Nat.le_refl _)).app ((Df.same [10]).app (Df_dnr (f := f) (g := g) (c := j + 1) (l + 1) j))))
    rw [Nat.zero_add, Nat.zero_add, ← sm_plus] at this
    exact this
def chkFour : Bool := brds.all fun (r, c) => (List.range (r * c)).all fun p => decide (sm (2 * (r * c)) (fun e => b2 (fb r c p e)) = 4)
theorem chkFour_ok : chkFour = true := by decide +kernel
theorem four {r c p : Nat} (hB : Brd r c) (hp : p < r * c) : sm (2 * (r * c)) (fun e => b2 (fb r c p e)) = 4 := by
  have := List.all_eq_true.mp chkFour_ok (r, c) (brd_mem hB)
  exact of_decide_eq_true (List.all_eq_true.mp this p (List.mem_range.mpr hp))
/-- a face turned changes four signs of edges -/
theorem face_df {r c p : Nat} (hB : Brd r c) (hp : p < r * c) (f : Nat → Bool) : Df 4 (TL.tl (drw r c f)) (TL.tl (drw r c fun e => f e ^^ tr r c (fun x => decide (x = p)) e)) := by
  obtain ⟨r2, r5, c2, c5⟩ := id hB
  obtain ⟨l, hl⟩ : ∃ l, r = l + 1 := ⟨r - 1, by omega⟩
  have := Df_drw (c := c) (r := r) (f := f) (g := fun e => f e ^^ tr r c (fun x => decide (x = p)) e) (by omega) (fun k hk => by rw [lit_xor, lit_tr hB _ hk, Bool.xor_false]) l (by omega)
  rw [← hl] at this
  have e : (sm r fun i => sm c fun j => b2 (f (2 * (i * c + j)) ^^ (f (2 * (i * c + j)) ^^ tr r c (fun x => decide (x = p)) (2 * (i * c + j)))) + b2 (f (2 * (i * c + j) + 1) ^^ (f (2 * (i * c + j) + 1) ^^ tr r c (fun x => decide (x = p)) (2 * (i * c + j) + 1)))) = 4 := by
    simp only [xor_cancel, tr_one hp]
    rw [sm_mul c (fun k => b2 (fb r c p (2 * k)) + b2 (fb r c p (2 * k + 1))), sm_two (fun e => b2 (fb r c p e)), four hB hp]
  rw [e] at this
  exact this
end Sb

/-! Seamboard: the law's own rows. -/
namespace Sb
open PySem PySem.Spec PyProof.Rows L2
theorem for_ex {b : MS} {j : Nat} {n : Nat} (P : Nat → Ss → Ro → Prop) (h : ∀ i, i < n → ∀ s ρ, P i s ρ → ∃ s' ρ', (b (s.set j (some (.d (.int i)))) ρ = some (.nx s' ρ') ∨ b (s.set j (some (.d (.int i)))) ρ = some (.ct s' ρ')) ∧ P (i + 1) s' ρ') {s : Ss} {ρ : Ro} (h0 : P 0 s ρ) :
    ∃ s' ρ', forGo (fgName j) b (upto 0 n) s ρ = some (.nx s' ρ') ∧ P n s' ρ' := by
  have key : ∀ (m k : Nat) (s : Ss) (ρ : Ro), k + m = n → P k s ρ → ∃ s' ρ', forGo (fgName j) b (upto (k : Int) m) s ρ = some (.nx s' ρ') ∧ P n s' ρ' := by
    intro m
    induction m with
    | zero => intro k s ρ e p; exact ⟨s, ρ, rfl, by rw [← e]; exact p⟩
    | succ m ih =>
      intro k s ρ e p
      obtain ⟨s1, ρ1, h1, p1⟩ := h k (by omega) s ρ p
      obtain ⟨s2, ρ2, h2, p2⟩ := ih (k + 1) s1 ρ1 (by omega) p1
      refine ⟨s2, ρ2, ?_, p2⟩
      have e : upto (k : Int) (m + 1) = .int (k : Int) :: upto ((k + 1 : Nat) : Int) m := by
        unfold upto
        rw [List.range_succ_eq_map, List.map_cons, List.map_map]
        refine congr (congrArg List.cons ?_) ?_
        · simp
        · apply List.map_congr_left
          intro a _
          show PyData.int _ = PyData.int _
          refine congrArg PyData.int ?_
          rw [Int.natCast_succ, Int.natCast_succ]
          omega
      rw [e, forGo_cons]
      show (match b (s.set j (some (.d (.int k)))) ρ with
        | some (.nx s2 ρ2) => forGo (fgName j) b (upto ((k + 1 : Nat) : Int) m) s2 ρ2
        | some (.ct s2 ρ2) => forGo (fgName j) b (upto ((k + 1 : Nat) : Int) m) s2 ρ2
        | some (.bk s2 ρ2) => some (.nx s2 ρ2)
        | o => o) = _
      rcases h1 with h1 | h1 <;> (rw [h1]; exact h2)
  exact key n 0 s ρ (by omega) h0
@[simp] theorem fParND_e {s : Ss} {ρ : Ro} (i j : Nat) (g : ME (List Dt)) (a : ME Dt) : fParND i j g a s ρ = (fOut g fun ds => fOut a fun d s ρ => some (.nx ((s.set i (some (.o (.l ds)))).set j (some (.d d))) ρ)) s ρ := (rfl)
theorem ix_o (b : Bool) : oIxS (.str "o*") (.int (if b then 1 else 0)) = some (.str (mk2 b "o" "*")) := by cases b <;> rfl
theorem ix_e (b : Bool) : oIxS (.str "-=") (.int (if b then 1 else 0)) = some (.str (mk2 b "-" "=")) := by cases b <;> rfl
theorem ix_d (b : Bool) : oIxS (.str "|#") (.int (if b then 1 else 0)) = some (.str (mk2 b "|" "#")) := by cases b <;> rfl
def rSt (r c : Nat) (f : Nat → Bool) (l : Nat) : Ss := [some (.d (bd r c)), some (.d (ti (sel (2 * (r * c)) f))), some (.o (.l ((drs r c f l).map .str))), some (.d (ti (sel (r * c) (lit r c f)))), was (fun i => .int i) l, was (fun i => .list (upto ((i : Int) * c) c)) l, none]
theorem row_across2 {r c : Nat} (hB : Brd r c) (f : Nat → Bool) {l : Nat} (hl : l < r) {S : Option Wv} {x4 : Option Wv} :
    lcGo (fgName 6) (ret true) (fOp oCatS (fOp oIxS (ret (.str "o*")) (fCB oInt (fCons (fOp oIn (fVar 6) (fVar 3)) fNil))) (fOp oIxS (ret (.str "-=")) (fCB oInt (fCons (fOp oIn (fOp oMul (ret (.int 2)) (fVar 6)) (fVar 1)) fNil))))
      [some (.d (bd r c)), some (.d (ti (sel (2 * (r * c)) f))), S, some (.d (ti (sel (r * c) (lit r c f)))), x4, some (.d (.list (upto ((l : Int) * c) c))), none] (upto ((l : Int) * c) c) none = some ((prs r c f l c).map .str, none) := by
  rw [lcGo_map (fun d => match d with | .int y => .str (mk2 (lit r c f y.toNat) "o" "*" ++ mk2 (f (2 * y.toNat)) "-" "=") | _ => .none)]
  · rw [upto_map _ _ _ (fun i => .str (mk2 (lit r c f (l * c + i)) "o" "*" ++ mk2 (f (2 * (l * c + i))) "-" "="))]
    · unfold prs; rw [List.map_map]; rfl
    · intro i _
      have : ((l : Int) * c + i).toNat = l * c + i := by rw [← Int.natCast_mul]; omega
      simp only [this]
  · intro d hd
    obtain ⟨i, hi, rfl⟩ := List.mem_map.mp hd
    rw [List.mem_range] at hi
    have hk := site_in hl hi
    have e : (l : Int) * c + i = ((l * c + i : Nat) : Int) := by rw [Int.natCast_add, Int.natCast_mul]
    rw [e]
    generalize l * c + i = k at hk ⊢
    have i1 := in_sel (f := lit r c f) hk
    have i2 : oIn (.int (2 * (k : Int))) (ti (sel (2 * (r * c)) f)) = some (.bool (f (2 * k))) := in_sel (k := 2 * k) (f := f) (by omega)
    have ec : oCatS (.str (mk2 (lit r c f k) "o" "*")) (.str (mk2 (f (2 * k)) "-" "=")) = _ := oCatS_e (by rw [mk2_len _ _ _ rfl rfl, mk2_len _ _ _ rfl rfl]; decide)
    refine ⟨_, rfl, ?_⟩
    simp [i1, i2, ix_o, ix_e, oMul_i, ec]
theorem row_down2 {r c : Nat} (hB : Brd r c) (f : Nat → Bool) {l : Nat} (hl : l < r) {S : Option Wv} {x4 : Option Wv} :
    lcGo (fgName 6) (ret true) (fOp oIxS (ret (.str "|#")) (fCB oInt (fCons (fOp oIn (fOp oAdd (fOp oMul (ret (.int 2)) (fVar 6)) (ret (.int 1))) (fVar 1)) fNil)))
      [some (.d (bd r c)), some (.d (ti (sel (2 * (r * c)) f))), S, some (.d (ti (sel (r * c) (lit r c f)))), x4, some (.d (.list (upto ((l : Int) * c) c))), none] (upto ((l : Int) * c) c) none = some ((dwn c f l c).map .str, none) := by
  rw [lcGo_map (fun d => match d with | .int y => .str (mk2 (f (2 * y.toNat + 1)) "|" "#") | _ => .none)]
  · rw [upto_map _ _ _ (fun i => .str (mk2 (f (2 * (l * c + i) + 1)) "|" "#"))]
    · unfold dwn; rw [List.map_map]; rfl
    · intro i _
      have : ((l : Int) * c + i).toNat = l * c + i := by rw [← Int.natCast_mul]; omega
      simp only [this]
  · intro d hd
    obtain ⟨i, hi, rfl⟩ := List.mem_map.mp hd
    rw [List.mem_range] at hi
    have hk := site_in hl hi
    have e : (l : Int) * c + i = ((l * c + i : Nat) : Int) := by rw [Int.natCast_add, Int.natCast_mul]
    rw [e]
    generalize l * c + i = k at hk ⊢
    have i2 : oIn (.int (2 * (k : Int) + 1)) (ti (sel (2 * (r * c)) f)) = some (.bool (f (2 * k + 1))) := in_sel (k := 2 * k + 1) (f := f) (by omega)
    refine ⟨_, rfl, ?_⟩
    simp [i2, ix_d, oMul_i]
theorem v_law_rows {r c : Nat} (hB : Brd r c) (f : Nat → Bool) : F__law_rows [bd r c, ti (sel (2 * (r * c)) f)] = some (.ok (rws r c f)) := by
  obtain ⟨r2, r5, c2, c5⟩ := id hB
  have er := oRng1_e (j := (r : Int)) (by omega)
  rw [Int.toNat_natCast] at er
  have loop := for_upto (n := r) (j := 4) (b := fSeq (fAsg (fN (fListRg2 (fOp oMul (fVar 4) (fOp oIxT (fVar 0) (ret (.int 1)))) (fOp oAdd (fOp oMul (fVar 4) (fOp oIxT (fVar 0) (ret (.int 1)))) (fOp oIxT (fVar 0) (ret (.int 1)))))) (fgName 5))
  (fSeq (fApp 2 (fM1 oJoin (ret (.str "")) (fN (fLc (fItL (fVar 5)) (fgName 6) (ret true) (fOp oCatS (fOp oIxS (ret (.str "o*")) (fCB oInt (fCons (fOp oIn (fVar 6) (fVar 3)) fNil))) (fOp oIxS (ret (.str "-=")) (fCB oInt (fCons (fOp oIn (fOp oMul (ret (.int 2)) (fVar 6)) (fVar 1)) fNil)))) [6]))))
  (fApp 2 (fM1 oJoin (ret (.str " ")) (fN (fLc (fItL (fVar 5)) (fgName 6) (ret true) (fOp oIxS (ret (.str "|#")) (fCB oInt (fCons (fOp oIn (fOp oAdd (fOp oMul (ret (.int 2)) (fVar 6)) (ret (.int 1))) (fVar 1)) fNil))) [6])))))) (rSt r c f) (fun _ => none) fun l hl => .inl (by
    have hle : (upto ((l : Int) * c) c).length ≤ 50000 := by rw [upto_len]; omega
    have ea := fun S x4 => fLc_to (s := [some (.d (bd r c)), some (.d (ti (sel (2 * (r * c)) f))), S, some (.d (ti (sel (r * c) (lit r c f)))), x4, some (.d (.list (upto ((l : Int) * c) c))), none]) (vs := [6]) (i := fItL (fVar 5)) (ρ1 := none) (ρ := none) (by simp) hle (row_across2 hB f hl (S := S) (x4 := x4))
    have eb := fun S x4 => fLc_to (s := [some (.d (bd r c)), some (.d (ti (sel (2 * (r * c)) f))), S, some (.d (ti (sel (r * c) (lit r c f)))), x4, some (.d (.list (upto ((l : Int) * c) c))), none]) (vs := [6]) (i := fItL (fVar 5)) (ρ1 := none) (ρ := none) (by simp) hle (row_down2 hB f hl (S := S) (x4 := x4))
    have ja : oJoin "" (.list ((prs r c f l c).map .str)) = some (.str (acr r c f l c)) := by
      rw [oJoin_l, prs_join]
      have := prs_sum r c f l c
      show _ + _ * 0 ≤ _
      omega
    have jb : oJoin " " (.list ((dwn c f l c).map .str)) = some (.str (Txt.join " " (dwn c f l c))) := by
      have h1 := sum_le 1 _ (dwn_ok c f l c)
      rw [oJoin_l]
      rw [dwn_len] at h1 ⊢
      show _ + _ * 1 ≤ _
      omega
    have hd := drs_len r c f l
    have h1 : ((drs r c f l).map PyData.str).length < 100000 := by rw [List.length_map, hd]; omega
    have h2 : ((drs r c f l).map PyData.str ++ [PyData.str (acr r c f l c)]).length < 100000 := by rw [List.length_append, List.length_map, hd]; simp; omega
    have m1 : oIC cMul (fun i j => i * j) (.int (l : Int)) (.int c) = some (.int ((l : Int) * c)) := oMul_i (by omega)
    have h5 : l * c ≤ 25 := Nat.mul_le_mul (show l ≤ 5 by omega) c5
    have h6 : ((l * c : Nat) : Int) = (l : Int) * c := Int.natCast_mul l c
    have e2 : rgD ((l : Int) * c) ((l : Int) * c + (c : Int)) = upto ((l : Int) * c) c := by
      unfold rgD
      have : ((l : Int) * c + (c : Int) - (l : Int) * c).toNat = c := by omega
      exact congrArg _ this
    have e3 := (oLR_e (i := (l : Int) * c) (j := (l : Int) * c + c) (by omega)).trans (congrArg some e2)
    unfold rSt
    rw [fSeq_to (s1 := [some (.d (bd r c)), some (.d (ti (sel (2 * (r * c)) f))), some (.o (.l ((drs r c f l).map .str))), some (.d (ti (sel (r * c) (lit r c f)))), some (.d (.int l)), some (.d (.list (upto ((l : Int) * c) c))), none]) (ρ1 := none) (by
      clear ea eb e2 hle h6 h5
      generalize (l : Int) * c = x at m1 e3 ⊢
      simp [m1, e3])]
    rw [fSeq_to (own_app (ρ1 := none) (xs := (drs r c f l).map PyData.str) (d := .str (acr r c f l c)) rfl (by simp [ea, ja]) h1)]
    rw [own_app (ρ := none) (ρ1 := none) (xs := (drs r c f l).map PyData.str ++ [PyData.str (acr r c f l c)]) (d := .str (Txt.join " " (dwn c f l c))) rfl (by simp [eb, jb]) h2]
    rw [drs_succ, List.map_append, List.append_assoc]
    rfl)
  have h0 : rSt r c f 0 = [some (.d (bd r c)), some (.d (ti (sel (2 * (r * c)) f))), some (.o (.l [])), some (.d (ti (sel (r * c) (lit r c f)))), none, none, none] := rfl
  rw [h0] at loop
  simp [F__law_rows, f__law_rows, v_checks hB, er, few_e]
  rw [loop]
  simp [rSt, rws]
end Sb

/-! Seamboard: stories judged. -/
namespace Sb
open PySem PySem.Spec PyProof.Rows L2
abbrev Bt := (Nat → Bool) × (Nat → Bool)
/-- a beat as data; a story -/
def pr (r c : Nat) (b : Bt) : Dt := .tuple [ti (sel (2 * (r * c)) b.1), ti (sel (r * c) b.2)]
def sto (r c : Nat) (L : List Bt) : Dt := .list (L.map (pr r c))
def xf (a f : Nat → Bool) : Nat → Bool := fun e => a e ^^ f e
/-- what beats tell, behind the flips a -/
def tb (r c : Nat) : (Nat → Bool) → List Bt → List (Nat → Bool)
  | _, [] => []
  | a, b :: L => (fun k => lit r c (xf a b.1) k ^^ b.2 k) :: tb r c (xf a b.1) L
/-- told beats as data -/
def tld (r c : Nat) (ts : List (Nat → Bool)) : Dt := .tuple (ts.map fun g => ti (sel (r * c) g))
def al : (Nat → Bool) → List Bt → (Nat → Bool)
  | a, [] => a
  | a, b :: L => al (xf a b.1) L
theorem tb_len (r c : Nat) : ∀ (L : List Bt) (a : Nat → Bool), (tb r c a L).length = L.length
  | [], _ => rfl
  | b :: L, a => congrArg (· + 1) (tb_len r c L _)
variable {r c : Nat}
theorem v_is_lit (hB : Brd r c) (g : Nat → Bool) : F_is_lit [bd r c, ti (sel (r * c) g)] = some (.ok (.bool true)) := by
  simp [F_is_lit, f_is_lit, v_site_count hB, v_first_misplaced (rise_s g), isNo]
theorem v_is_pair (hB : Brd r c) (b : Bt) : F_is_pair [bd r c, pr r c b] = some (.ok (.bool true)) := by
  have h1 := v_first_misplaced (rise_e (r := r) (c := c) b.1)
  have h2 := v_is_lit hB b.2
  simp [F_is_pair, f_is_pair, pr, kitO, kit_T, kT, v_edge_count hB, h1, h2, isNo]
def kL : Dt → Bool
  | .list _ => true
  | _ => false
theorem kit_L : ∀ x : Dt, kitB (tyN x) "list" = some (kL x)
  | .none => rfl
  | .bool _ => rfl
  | .int _ => rfl
  | .str _ => rfl
  | .list _ => rfl
  | .tuple _ => rfl
  | .dict _ => rfl
theorem v_require_story (hB : Brd r c) (L : List Bt) : F_require_story [bd r c, sto r c L, .int L.length] = some (.ok .none) := by
  have loop := for_pairs (i := 3) (j := 4) (ds := L.map (pr r c)) (b := fIfS (fOr (fB (fOp oEq (fVar 3) (fVar 2))) (fNot (fB (fCall F_is_pair (fCons (fVar 0) (fCons (fVar 4) fNil)))))) (fRet (fVar 3)) fNext)
    (fun k => [some (.d (bd r c)), some (.d (sto r c L)), some (.d (.int L.length)), was (fun i => .int i) k, was (fun i => match (L.map (pr r c))[i]? with
      | some d => d
      | none => .none) k]) (fun _ => none) fun k d hk => by
    have hlt := (List.getElem?_eq_some_iff.mp hk).1
    rw [List.length_map] at hlt
    obtain ⟨b, hb, rfl⟩ : ∃ b, L[k]? = some b ∧ d = pr r c b := by
      rw [List.getElem?_map] at hk
      cases e : L[k]? with
      | none => rw [e] at hk; cases hk
      | some b => rw [e] at hk; cases hk; exact ⟨b, rfl, rfl⟩
    simp [v_is_pair hB b, show ¬ (k : Int) = L.length by omega, was, hb]
  have h00 : (fun k => [some (Wv.d (bd r c)), some (.d (sto r c L)), some (.d (.int L.length)), was (fun i => .int i) k, was (fun i => match (L.map (pr r c))[i]? with
      | some d => d
      | none => .none) k]) 0 = [some (.d (bd r c)), some (.d (sto r c L)), some (.d (.int L.length)), none, none] := rfl
  simp only [h00] at loop
  generalize was _ _ = x3 at loop
  generalize was _ _ = x4 at loop
  have fb : F_first_bad_pair [bd r c, sto r c L, .int L.length] = some (.ok .none) := by
    unfold sto at loop ⊢
    simp [F_first_bad_pair, f_first_bad_pair, kitO, kit_L, kL]
    rw [loop]
    simp
  simp [F_require_story, f_require_story, fb, isNo]
theorem atI_last {α : Type} {xs : List α} {x : α} : atI (xs ++ [x]) (-1) = some x := by
  have e : ixN (xs ++ [x]).length (-1) = some xs.length := by
    unfold ixN
    rw [if_neg (by decide), if_pos (by rw [List.length_append]; simp; omega)]
    congr 1
    rw [List.length_append]; simp
    omega
  unfold atI
  rw [e]
  simp
theorem oNeg_i (i : Int) : oNeg (.int i) = some (.int (-i)) := rfl
theorem v_require_told (hB : Brd r c) {gs : List (Nat → Bool)} {g : Nat → Bool} (hn : gs.length < 5) (he : (sel (r * c) g).length % 2 = 0) : F_require_told [bd r c, tld r c (gs ++ [g])] = some (.ok .none) := by
  have loop := for_pairs (i := 2) (j := 3) (ds := (gs ++ [g]).map fun g => ti (sel (r * c) g)) (b := fIfS (fOr (fB (fOp oEq (fVar 2) (ret (.int 5)))) (fNot (fB (fCall F_is_lit (fCons (fVar 0) (fCons (fVar 3) fNil)))))) (fRet (fVar 2)) fNext)
    (fun k => [some (.d (bd r c)), some (.d (tld r c (gs ++ [g]))), was (fun i => .int i) k, was (fun i => match ((gs ++ [g]).map fun g => ti (sel (r * c) g))[i]? with
      | some d => d
      | none => .none) k]) (fun _ => none) fun k d hk => by
    have hlt := (List.getElem?_eq_some_iff.mp hk).1
    rw [List.length_map, List.length_append] at hlt
    simp at hlt
    obtain ⟨b, hb, rfl⟩ : ∃ b, (gs ++ [g])[k]? = some b ∧ d = ti (sel (r * c) b) := by
      rw [List.getElem?_map] at hk
      cases e : (gs ++ [g])[k]? with
      | none => rw [e] at hk; cases hk
      | some b => rw [e] at hk; cases hk; exact ⟨b, rfl, rfl⟩
    simp [v_is_lit hB b, show ¬ (k : Int) = 5 by omega, was, hb, -List.map_append]
  have h00 : (fun k => [some (.d (bd r c)), some (.d (tld r c (gs ++ [g]))), was (fun i => .int i) k, was (fun i => match ((gs ++ [g]).map fun g => ti (sel (r * c) g))[i]? with
      | some d => d
      | none => .none) k]) 0 = [some (.d (bd r c)), some (.d (tld r c (gs ++ [g]))), none, none] := rfl
  simp only [h00] at loop
  generalize was _ _ = x3 at loop
  generalize was _ _ = x4 at loop
  have la : oIxT (tld r c (gs ++ [g])) (.int (-1)) = some (ti (sel (r * c) g)) := by
    show atI ((gs ++ [g]).map fun g => ti (sel (r * c) g)) (-1) = _
    rw [List.map_append]
    exact atI_last
  have ln : oLen [ti (sel (r * c) g)] = some (.int (sel (r * c) g).length) := by
    show some (PyData.int (((sel (r * c) g).map PyData.int).length : Nat)) = _
    rw [List.length_map]
  have hl : oLen [tld r c (gs ++ [g])] = some (.int (gs.length + 1)) := by
    show some (PyData.int ((((gs ++ [g]).map fun g => ti (sel (r * c) g)).length : Nat) : Int)) = _
    rw [List.length_map, List.length_append]; rfl
  have hm : ((sel (r * c) g).length : Int) % 2 = 0 := by omega
  have hne : ¬ ((gs.length : Int) + 1 = 0) := by omega
  have fb : F_first_bad_beat [bd r c, tld r c (gs ++ [g])] = some (.ok .none) := by
    generalize hT : tld r c (gs ++ [g]) = T at loop la hl ⊢
    have e : T = .tuple ((gs ++ [g]).map fun g => ti (sel (r * c) g)) := hT.symm
    generalize (gs ++ [g]).map (fun g => ti (sel (r * c) g)) = D at loop e
    subst e
    rw [oLen_t] at hl
    have hl' : ((D.length : Nat) : Int) = gs.length + 1 := by
      injection hl with h; injection h
    have hD : ¬ D = [] := by intro e; rw [e] at hl'; simp at hl'; omega
    simp [F_first_bad_beat, f_first_bad_beat, kitO, kit_T, kT, hl', hne, hD]
    rw [loop]
    rw [oIxT_e] at la
    simp [oNeg_i, la, ln, oMod_i, hm]
  simp [F_require_told, f_require_told, fb, isNo]
/-- whether the beats tell just so -/
def mt (r c : Nat) : (Nat → Bool) → List (Nat → Bool) → List Bt → Bool
  | a, h :: ts, b :: L => decide (sel (r * c) (fun k => lit r c (xf a b.1) k ^^ b.2 k) = sel (r * c) h) && mt r c (xf a b.1) ts L
  | _, _, _ => true
/-- what a story costs -/
def cst (r c : Nat) (x y : Int) : List Bt → Int
  | [] => 0
  | b :: L => (x * (sel (2 * (r * c)) b.1).length + y * (sel (r * c) b.2).length) + cst r c x y L
theorem ti_ne (a b : List Int) : oNe (ti a) (ti b) = some (.bool (!decide (a = b))) := by rw [oNe_e (by rw [shaped_ti, shaped_ti]; rfl), eqv_ti]
@[simp] theorem fZipTL_e {s : Ss} {ρ : Ro} (a b : ME Dt) : fZipTL a b s ρ = (bnd a fun x => bnd b fun y => lft (match x, y with
  | .tuple xs, .list ys => some (zipD xs ys)
  | _, _ => none)) s ρ := (rfl)
theorem odd_lies (hB : Brd r c) (a g : Nat → Bool) : F_odd_ones [.tuple ((sel (r * c) (lit r c a)).map .int ++ (sel (r * c) g).map .int), .int (r * c)] = some (.ok (ti (sel (r * c) fun k => lit r c a k ^^ g k))) := by
  have h25 := rc25 hB
  have := v_odd (l := sel (r * c) (lit r c a) ++ sel (r * c) g) (n := r * c) (by omega) (fun x hx => by
    rcases List.mem_append.mp hx with h | h
    · obtain ⟨k, rfl, hk, _⟩ := mem_sel.mp h; omega
    · obtain ⟨k, rfl, hk, _⟩ := mem_sel.mp h; omega) (x0 := .tuple ((sel (r * c) (lit r c a)).map .int ++ (sel (r * c) g).map .int)) (by rw [← List.map_append]; rfl)
  rw [Int.natCast_mul] at this
  rw [this]
  refine congrArg (fun l => some (Except.ok (ti l))) (sel_congr fun k hk => ?_)
  rw [cp_app, cp_sel _ hk, cp_sel _ hk]
def jTg : FG := fgTup 2 (fgCons (fgName 7) (fgCons (fgTup 2 (fgCons (fgName 8) (fgCons (fgName 9) fgNil))) fgNil))
def jBody : MS := fSeq (fAsg (fCall F_after (fCons (fVar 0) (fCons (fVar 6) (fCons (fVar 8) fNil)))) (fgName 6))
  (fSeq (fIfS (fB (fOp oNe (fCall F_odd_ones (fCons (fOp oCatT (fCall F_checks (fCons (fVar 0) (fCons (fVar 6) fNil))) (fVar 9)) (fCons (fCall F_site_count (fCons (fVar 0) fNil)) fNil))) (fVar 7)))
    (fRet (ret .none)) fNext)
  (fAug (fun i j => i + j) 5 (fOp oAdd (fOp oMul (fVar 3) (fCB oLen (fCons (fVar 8) fNil))) (fOp oMul (fVar 4) (fCB oLen (fCons (fVar 9) fNil))))))
@[simp] theorem fAug_at {s : Ss} {ρ : Ro} (f : Int → Int → Int) (i : Nat) (a : ME Dt) : fAug f i a s ρ = match s[i]? with
  | some (some (.d (.int n))) => fOut a (fun d s ρ => match d with
    | .int m => some (.nx (s.set i (some (.d (.int (f n m))))) ρ)
    | _ => none) s ρ
  | _ => none := (rfl)
theorem oLen_ti (l : List Int) : oLen [ti l] = some (.int l.length) := by
  show some (PyData.int ((l.map PyData.int).length : Nat)) = _
  rw [List.length_map]
theorem jud_loop (hB : Brd r c) (T S : Dt) {x y : Int} (hx : 1 ≤ x ∧ x ≤ 9) (hy : 1 ≤ y ∧ y ≤ 9) : ∀ (L : List Bt) (ts : List (Nat → Bool)) (a : Nat → Bool) (n : Int) (x7 x8 x9 : Option Wv), ts.length = L.length → ∃ y7 y8 y9,
    forGo jTg jBody (zipD (ts.map fun g => ti (sel (r * c) g)) (L.map (pr r c))) [some (.d (bd r c)), some (.d T), some (.d S), some (.d (.int x)), some (.d (.int y)), some (.d (.int n)), some (.d (ti (sel (2 * (r * c)) a))), x7, x8, x9] none =
    if mt r c a ts L = true then some (.nx [some (.d (bd r c)), some (.d T), some (.d S), some (.d (.int x)), some (.d (.int y)), some (.d (.int (n + cst r c x y L))), some (.d (ti (sel (2 * (r * c)) (al a L)))), y7, y8, y9] none) else some (.rt .none none)
  | [], [], a, n, x7, x8, x9, _ => ⟨x7, x8, x9, by
    have e : mt r c a [] [] = true := rfl
    have e2 : n + cst r c x y [] = n := Int.add_zero n
    rw [e, e2, if_pos rfl]
    rfl⟩
  | [], _ :: _, _, _, _, _, _, h => by simp at h
  | _ :: _, [], _, _, _, _, _, h => by simp at h
  | b :: L, g :: ts, a, n, x7, x8, x9, h => by
    obtain ⟨y7, y8, y9, ih⟩ := jud_loop hB T S hx hy L ts (xf a b.1) (n + (x * (sel (2 * (r * c)) b.1).length + y * (sel (r * c) b.2).length)) (some (.d (ti (sel (r * c) g)))) (some (.d (ti (sel (2 * (r * c)) b.1)))) (some (.d (ti (sel (r * c) b.2)))) (by simpa using h)
    refine ⟨y7, y8, y9, ?_⟩
    have h25 := rc25 hB
    have e1 := v_after hB a b.1
    have e2 := v_checks hB (xf a b.1)
    have e3 := odd_lies hB (xf a b.1) b.2
    have e4 := ti_ne (sel (r * c) fun k => lit r c (xf a b.1) k ^^ b.2 k) (sel (r * c) g)
    have l1 := sel_len (2 * (r * c)) b.1
    have l2 := sel_len (r * c) b.2
    have l3 := sel_len (r * c) (lit r c (xf a b.1))
    have e5 : oCatT (ti (sel (r * c) (lit r c (xf a b.1)))) (ti (sel (r * c) b.2)) = some (.tuple ((sel (r * c) (lit r c (xf a b.1))).map .int ++ (sel (r * c) b.2).map .int)) := oCatT_e (by rw [List.length_map, List.length_map]; omega)
    have m1 : oIC cMul (fun i j => i * j) (.int x) (.int (sel (2 * (r * c)) b.1).length) = some (.int (x * (sel (2 * (r * c)) b.1).length)) := oMul_i (by omega)
    have m2 : oIC cMul (fun i j => i * j) (.int y) (.int (sel (r * c) b.2).length) = some (.int (y * (sel (r * c) b.2).length)) := oMul_i (by omega)
    have hz : zipD ((g :: ts).map fun g => ti (sel (r * c) g)) ((b :: L).map (pr r c)) = .tuple [ti (sel (r * c) g), pr r c b] :: zipD (ts.map fun g => ti (sel (r * c) g)) (L.map (pr r c)) := rfl
    have hm : mt r c a (g :: ts) (b :: L) = (decide (sel (r * c) (fun k => lit r c (xf a b.1) k ^^ b.2 k) = sel (r * c) g) && mt r c (xf a b.1) ts L) := rfl
    have hc : n + cst r c x y (b :: L) = n + (x * (sel (2 * (r * c)) b.1).length + y * (sel (r * c) b.2).length) + cst r c x y L := by
      show n + ((x * (sel (2 * (r * c)) b.1).length + y * (sel (r * c) b.2).length) + cst r c x y L) = _
      omega
    have ha : al a (b :: L) = al (xf a b.1) L := rfl
    rw [hz, forGo_cons, hm, hc, ha]
    have body : jBody [some (.d (bd r c)), some (.d T), some (.d S), some (.d (.int x)), some (.d (.int y)), some (.d (.int n)), some (.d (ti (sel (2 * (r * c)) a))), some (.d (ti (sel (r * c) g))), some (.d (ti (sel (2 * (r * c)) b.1))), some (.d (ti (sel (r * c) b.2)))] none =
        if sel (r * c) (fun k => lit r c (xf a b.1) k ^^ b.2 k) = sel (r * c) g then some (.nx [some (.d (bd r c)), some (.d T), some (.d S), some (.d (.int x)), some (.d (.int y)), some (.d (.int (n + (x * (sel (2 * (r * c)) b.1).length + y * (sel (r * c) b.2).length)))), some (.d (ti (sel (2 * (r * c)) (xf a b.1)))), some (.d (ti (sel (r * c) g))), some (.d (ti (sel (2 * (r * c)) b.1))), some (.d (ti (sel (r * c) b.2)))] none) else some (.rt .none none) := by
      unfold jBody
      rw [fSeq_to (s1 := [some (.d (bd r c)), some (.d T), some (.d S), some (.d (.int x)), some (.d (.int y)), some (.d (.int n)), some (.d (ti (sel (2 * (r * c)) (xf a b.1)))), some (.d (ti (sel (r * c) g))), some (.d (ti (sel (2 * (r * c)) b.1))), some (.d (ti (sel (r * c) b.2)))]) (ρ1 := none) (by simp [e1]; rfl)]
      by_cases hq : sel (r * c) (fun k => lit r c (xf a b.1) k ^^ b.2 k) = sel (r * c) g
      · rw [if_pos hq]
        rw [decide_eq_true hq] at e4
        simp [e2, e5, v_site_count hB, e3, e4, oLen_ti, m1, m2]
      · rw [if_neg hq]
        rw [decide_eq_false hq] at e4
        simp [e2, e5, v_site_count hB, e3, e4]
    have tg : jTg (.tuple [ti (sel (r * c) g), pr r c b]) [some (.d (bd r c)), some (.d T), some (.d S), some (.d (.int x)), some (.d (.int y)), some (.d (.int n)), some (.d (ti (sel (2 * (r * c)) a))), x7, x8, x9] = some [some (.d (bd r c)), some (.d T), some (.d S), some (.d (.int x)), some (.d (.int y)), some (.d (.int n)), some (.d (ti (sel (2 * (r * c)) a))), some (.d (ti (sel (r * c) g))), some (.d (ti (sel (2 * (r * c)) b.1))), some (.d (ti (sel (r * c) b.2)))] := rfl
    rw [tg]
    simp only [body]
    by_cases hq : sel (r * c) (fun k => lit r c (xf a b.1) k ^^ b.2 k) = sel (r * c) g
    · rw [if_pos hq, decide_eq_true hq, Bool.true_and]
      exact ih
    · rw [if_neg hq, decide_eq_false hq, Bool.false_and]
      rfl
theorem v_require_count {x : Int} (hx : 1 ≤ x ∧ x ≤ 9) : F_require_count [.int x] = some (.ok .none) := by
  simp [F_require_count, f_require_count, v_is_whole, isI, hx.1, hx.2]
/-- a story judged -/
theorem v_judged (hB : Brd r c) {x y : Int} (hx : 1 ≤ x ∧ x ≤ 9) (hy : 1 ≤ y ∧ y ≤ 9) {gs : List (Nat → Bool)} {g : Nat → Bool} {L : List Bt} {b : Bt} (hl : gs.length = L.length) (hn : gs.length < 5) (he : (sel (r * c) g).length % 2 = 0) :
    F_judged [bd r c, tld r c (gs ++ [g]), sto r c (L ++ [b]), .int x, .int y] = some (.ok (if (mt r c (fun _ => false) (gs ++ [g]) (L ++ [b]) && decide (sel (r * c) b.2 = [])) = true then .tuple [.int (cst r c x y (L ++ [b])), bd (bi (sA r c (al (fun _ => false) (L ++ [b])))) (bi (sB r c (al (fun _ => false) (L ++ [b]))))] else .none)) := by
  have h1 := v_require_board hB
  have h2 := v_require_told hB hn he
  have h3 := v_require_story hB (L ++ [b])
  have h4 := v_require_count hx
  have h5 := v_require_count hy
  have z : ti (sel (2 * (r * c)) fun _ => false) = .tuple [] := by rw [sel_ff]; rfl
  obtain ⟨y7, y8, y9, loop⟩ := jud_loop hB (tld r c (gs ++ [g])) (sto r c (L ++ [b])) hx hy (L ++ [b]) (gs ++ [g]) (fun _ => false) 0 none none none (by simp [hl])
  rw [z, Int.zero_add] at loop
  have hle : oLen [tld r c (gs ++ [g])] = some (.int (L ++ [b]).length) := by
    show some (PyData.int ((((gs ++ [g]).map fun g => ti (sel (r * c) g)).length : Nat) : Int)) = _
    rw [List.length_map, List.length_append, List.length_append, hl]; rfl
  have la : oIxL (sto r c (L ++ [b])) (.int (-1)) = some (pr r c b) := by
    show atI ((L ++ [b]).map (pr r c)) (-1) = _
    rw [List.map_append]
    exact atI_last
  have lp : oIxT (pr r c b) (.int 1) = some (ti (sel (r * c) b.2)) := atI_1 _ _ _
  have ln : oNe (ti (sel (r * c) b.2)) (.tuple []) = some (.bool (!decide (sel (r * c) b.2 = []))) := ti_ne _ []
  have vs := v_seams hB (al (fun _ => false) (L ++ [b]))
  have hz : (fZipTL (fVar 1) (fVar 2)) [some (.d (bd r c)), some (.d (tld r c (gs ++ [g]))), some (.d (sto r c (L ++ [b]))), some (.d (.int x)), some (.d (.int y)), some (.d (.int 0)), some (.d (.tuple [])), none, none, none] none = some (.ok (zipD ((gs ++ [g]).map fun g => ti (sel (r * c) g)) ((L ++ [b]).map (pr r c))), none) := rfl
  generalize zipD ((gs ++ [g]).map fun g => ti (sel (r * c) g)) ((L ++ [b]).map (pr r c)) = Z at hz loop
  generalize tld r c (gs ++ [g]) = T at *
  generalize hS : sto r c (L ++ [b]) = S at *
  unfold jTg jBody at loop
  cases hm : mt r c (fun _ => false) (gs ++ [g]) (L ++ [b]) with
  | false =>
    rw [hm, if_neg (by decide)] at loop
    simp [F_judged, f_judged, h1, h2, h3, h4, h5, hle, hz, -fZipTL_e, -List.length_append]
    rw [loop]
    simp
  | true =>
    rw [hm, if_pos rfl] at loop
    by_cases hq : sel (r * c) b.2 = []
    · rw [decide_eq_true hq] at ln ⊢
      simp [F_judged, f_judged, h1, h2, h3, h4, h5, hle, hz, -fZipTL_e, -List.length_append]
      rw [loop]
      simp [oNeg_i, la, lp, ln, vs]
    · rw [decide_eq_false hq] at ln ⊢
      simp [F_judged, f_judged, h1, h2, h3, h4, h5, hle, hz, -fZipTL_e, -List.length_append]
      rw [loop]
      simp [oNeg_i, la, lp, ln]
end Sb

/-! Seamboard: what a story tells, by the law's own counting. -/
namespace Sb
open PySem PySem.Spec PyProof.Rows L2
variable {r c : Nat}
theorem cp_ends (f : Nat → Bool) {k : Nat} (hk : k < r * c) : cp (k : Int) (endsL r c (sel (2 * (r * c)) f)) = lit r c f k := by
  have h := lit_cp (r := r) (c := c) f
  have e1 := hasI_sel (f := fun k => cp (k : Int) (endsL r c (sel (2 * (r * c)) f))) hk
  rw [h, hasI_sel hk] at e1
  exact e1.symm
theorem told_ends (hB : Brd r c) (x1 : Dt) (x2 x4 x5 x7 x8 : Option Wv) : ∀ (l pre : List Int) (x6 : Option Wv), (∀ e ∈ l, 0 ≤ e ∧ e < ((2 * (r * c) : Nat) : Int)) → pre.length + 2 * l.length ≤ 10000 →
    ∃ y6, forGo (fgName 6) (fAsg (fN (fOpN oCat (fVar 3) (fCall F__law_ends (fCons (fVar 0) (fCons (fVar 6) fNil))))) (fgName 3)) (l.map .int) [some (.d (bd r c)), some (.d x1), x2, some (.d (li pre)), x4, x5, x6, x7, x8] none =
      some (.nx [some (.d (bd r c)), some (.d x1), x2, some (.d (li (pre ++ endsL r c l))), x4, x5, y6, x7, x8] none)
  | [], pre, x6, _, _ => ⟨x6, by unfold endsL; simp⟩
  | e :: l, pre, x6, h, hl => by
    rw [List.length_cons] at hl
    obtain ⟨a, b⟩ := h e List.mem_cons_self
    obtain ⟨k, rfl⟩ : ∃ k : Nat, e = k := ⟨e.toNat, by omega⟩
    obtain ⟨y6, hy⟩ := told_ends hB x1 x2 x4 x5 x7 x8 l (pre ++ [(k : Int) / 2, endB r c k]) (some (.d (.int k))) (fun x hx => h x (List.mem_cons_of_mem _ hx)) (by simp; omega)
    refine ⟨y6, ?_⟩
    have ec := oCat_e (x := pre.map PyData.int) (y := [.int ((k : Int) / 2), .int (endB r c k)]) (by simp; omega)
    rw [List.map_cons, forGo_cons]
    simp [v_law_ends hB (show k < 2 * (r * c) by omega), ec]
    have e2 : endsL r c ((k : Int) :: l) = [(k : Int) / 2, endB r c k] ++ endsL r c l := by unfold endsL; rw [List.flatMap_cons]
    rw [e2, ← List.append_assoc]
    simp only [li, List.map_append, List.map_cons, List.map_nil] at hy ⊢
    exact hy
theorem ne_bools (a b : Bool) : oNe (.bool a) (.bool b) = some (.bool (a ^^ b)) := by cases a <;> cases b <;> rfl
theorem told_go {s : Ss} {ρ : Ro} {n : Nat} {E : List Int} {g : Nat → Bool} (h3 : ∀ d, (s.set 8 (some (.d d)))[3]? = some (some (.d (li E)))) (h5 : ∀ d, (s.set 8 (some (.d d)))[5]? = some (some (.d (ti (sel n g))))) (h8 : 8 < s.length) :
    lcGo (fgName 8) (fB (fOp oNe (fOp oEq (fOp oMod (fCountL (fVar 3) (fCons (fVar 8) fNil)) (ret (.int 2))) (ret (.int 1))) (fOp oIn (fVar 8) (fVar 5)))) (fVar 8) s (upto 0 n) ρ = some ((sel n fun k => cp k E ^^ g k).map .int, ρ) := by
  rw [lcGo_to (fun d => match d with | .int i => cp i E ^^ g i.toNat | _ => false) (fun d => d), upto_filter _ (fun k => cp k E ^^ g k)]
  · intro k _; show (cp (0 + (k : Int)) E ^^ g (0 + (k : Int)).toNat) = _; rw [Int.zero_add, Int.toNat_natCast]
  · intro d hd
    obtain ⟨k, hk, rfl⟩ := List.mem_map.mp hd
    rw [List.mem_range] at hk
    have hg : (s.set 8 (some (Wv.d (.int (k : Int)))))[8]? = some (some (.d (.int (k : Int)))) := List.getElem?_set_self h8
    have i1 := in_sel (f := g) hk
    rw [Int.zero_add]
    refine ⟨s.set 8 (some (.d (.int (k : Int)))), rfl, ?_, fun _ => by simp only [fVar_at, hg]⟩
    simp only [fB_e, fOp_e, bnd_at, fCountL, fVar_at, h3, h5, hg, fCons_e, fNil_e, ret_at, toInts_map, lft_at, oMod_i (show (0 : Int) < 2 by decide), oEq_i, i1, ne_bools, asB_b]
    have : ((List.count (k : Int) E : Nat) : Int) % 2 = 1 ↔ List.count (k : Int) E % 2 = 1 := by omega
    show some (Except.ok (decide _ ^^ g k), ρ) = some (Except.ok (cp (k : Int) E ^^ g (k : Int).toNat), ρ)
    rw [Int.toNat_natCast]
    unfold cp
    rw [decide_eq_decide.mpr this]
def tBody : MS := (fSeq (fFor (fItT (fVar 4)) (fgName 6)
    (fAsg (fN (fOpN oCat (fVar 3) (fCall F__law_ends (fCons (fVar 0) (fCons (fVar 6) fNil))))) (fgName 3)))
  (fSeq (fAsg (fN (fLc (fRng1 (fCons (fOp oMul (fOp oIxT (fVar 0) (ret (.int 0))) (fOp oIxT (fVar 0) (ret (.int 1)))) fNil)) (fgName 8) (fB (fOp oNe (fOp oEq (fOp oMod (fCountL (fVar 3) (fCons (fVar 8) fNil)) (ret (.int 2))) (ret (.int 1))) (fOp oIn (fVar 8) (fVar 5)))) (fVar 8) [8])) (fgName 7))
  (fApp 2 (fCB oTup (fCons (fVar 7) fNil)))))
theorem told_loop (hB : Brd r c) (S : Dt) : ∀ (L : List Bt) (E : List Int) (a : Nat → Bool) (D : List Dt) (x4 x5 x6 x7 x8 : Option Wv), (∀ k, k < r * c → cp (k : Int) E = lit r c a k) → E.length + 100 * L.length ≤ 10000 → D.length + L.length ≤ 1000 →
    ∃ y3 y4 y5 y6 y7 y8, forGo (fgTup 2 (fgCons (fgName 4) (fgCons (fgName 5) fgNil))) tBody (L.map (pr r c)) [some (.d (bd r c)), some (.d S), some (.o (.l D)), some (.d (li E)), x4, x5, x6, x7, x8] none =
      some (.nx [some (.d (bd r c)), some (.d S), some (.o (.l (D ++ (tb r c a L).map fun g => ti (sel (r * c) g)))), y3, y4, y5, y6, y7, y8] none)
  | [], E, a, D, x4, x5, x6, x7, x8, _, _, _ => ⟨some (.d (li E)), x4, x5, x6, x7, x8, by simp [tb]⟩
  | b :: L, E, a, D, x4, x5, x6, x7, x8, hE, h1, h2 => by
    rw [List.length_cons] at h1 h2
    have h25 := rc25 hB
    have hl := sel_len (2 * (r * c)) b.1
    obtain ⟨y6, e1⟩ := told_ends hB S (some (.o (.l D))) (some (.d (ti (sel (2 * (r * c)) b.1)))) (some (.d (ti (sel (r * c) b.2)))) x7 x8 (sel (2 * (r * c)) b.1) E x6 (fun e he => in_e b.1 e he) (by omega)
    have hE' : ∀ k, k < r * c → cp (k : Int) (E ++ endsL r c (sel (2 * (r * c)) b.1)) = lit r c (xf a b.1) k := fun k hk => by
      rw [cp_app, hE k hk, cp_ends _ hk]
      exact (lit_xor r c a b.1 k).symm
    have m1 : oIC cMul (fun i j => i * j) (.int (r : Int)) (.int c) = some (.int (r * c)) := oMul_i (by have := hB.2.1; omega)
    have er := oRng1_e (j := (r : Int) * c) (by rw [← Int.natCast_mul]; omega)
    rw [show ((r : Int) * c).toNat = r * c by rw [← Int.natCast_mul]; rfl] at er
    have el := endsL_len r c (sel (2 * (r * c)) b.1)
    generalize hF : E ++ endsL r c (sel (2 * (r * c)) b.1) = F at e1 hE'
    have fl : F.length ≤ E.length + 100 := by rw [← hF, List.length_append, el]; omega
    have go := told_go (s := [some (.d (bd r c)), some (.d S), some (.o (.l D)), some (.d (li F)), some (.d (ti (sel (2 * (r * c)) b.1))), some (.d (ti (sel (r * c) b.2))), y6, x7, none]) (ρ := none) (n := r * c) (E := F) (g := b.2) (fun _ => rfl) (fun _ => rfl) (by simp)
    rw [show (sel (r * c) fun k => cp (k : Int) F ^^ b.2 k) = sel (r * c) fun k => lit r c (xf a b.1) k ^^ b.2 k from sel_congr fun k hk => by rw [hE' k hk]] at go
    have lc := fLc_to (s := [some (.d (bd r c)), some (.d S), some (.o (.l D)), some (.d (li F)), some (.d (ti (sel (2 * (r * c)) b.1))), some (.d (ti (sel (r * c) b.2))), y6, x7, x8]) (vs := [8]) (ρ := none) (ρ1 := none) (i := fRng1 (fCons (fOp oMul (fOp oIxT (fVar 0) (ret (.int 0))) (fOp oIxT (fVar 0) (ret (.int 1)))) fNil)) (by simp [m1, er]) (by rw [upto_len]; omega) go
    obtain ⟨z3, z4, z5, z6, z7, z8, ih⟩ := told_loop hB S L F (xf a b.1) (D ++ [ti (sel (r * c) fun k => lit r c (xf a b.1) k ^^ b.2 k)]) (some (.d (ti (sel (2 * (r * c)) b.1)))) (some (.d (ti (sel (r * c) b.2)))) y6 (some (.d (li (sel (r * c) fun k => lit r c (xf a b.1) k ^^ b.2 k)))) x8 hE' (by omega) (by rw [List.length_append]; simp; omega)
    refine ⟨z3, z4, z5, z6, z7, z8, ?_⟩
    have body : tBody [some (.d (bd r c)), some (.d S), some (.o (.l D)), some (.d (li E)), some (.d (ti (sel (2 * (r * c)) b.1))), some (.d (ti (sel (r * c) b.2))), x6, x7, x8] none = some (.nx [some (.d (bd r c)), some (.d S), some (.o (.l (D ++ [ti (sel (r * c) fun k => lit r c (xf a b.1) k ^^ b.2 k)]))), some (.d (li F)), some (.d (ti (sel (2 * (r * c)) b.1))), some (.d (ti (sel (r * c) b.2))), y6, some (.d (li (sel (r * c) fun k => lit r c (xf a b.1) k ^^ b.2 k))), x8] none) := by
      unfold tBody
      rw [fSeq_to (s1 := [some (.d (bd r c)), some (.d S), some (.o (.l D)), some (.d (li F)), some (.d (ti (sel (2 * (r * c)) b.1))), some (.d (ti (sel (r * c) b.2))), y6, x7, x8]) (ρ1 := none) (by simp; exact e1)]
      rw [fSeq_to (s1 := [some (.d (bd r c)), some (.d S), some (.o (.l D)), some (.d (li F)), some (.d (ti (sel (2 * (r * c)) b.1))), some (.d (ti (sel (r * c) b.2))), y6, some (.d (li (sel (r * c) fun k => lit r c (xf a b.1) k ^^ b.2 k))), x8]) (ρ1 := none) (by simp [lc])]
      rw [own_app (ρ1 := none) (xs := D) (d := ti (sel (r * c) fun k => lit r c (xf a b.1) k ^^ b.2 k)) rfl (by simp) (by omega)]
      rfl
    rw [List.map_cons, forGo_cons]
    show (match tBody [some (.d (bd r c)), some (.d S), some (.o (.l D)), some (.d (li E)), some (.d (ti (sel (2 * (r * c)) b.1))), some (.d (ti (sel (r * c) b.2))), x6, x7, x8] none with
      | some (.nx s2 ρ2) => forGo (fgTup 2 (fgCons (fgName 4) (fgCons (fgName 5) fgNil))) tBody (L.map (pr r c)) s2 ρ2
      | some (.ct s2 ρ2) => forGo (fgTup 2 (fgCons (fgName 4) (fgCons (fgName 5) fgNil))) tBody (L.map (pr r c)) s2 ρ2
      | some (.bk s2 ρ2) => some (.nx s2 ρ2)
      | o => o) = _
    rw [body]
    simp only []
    rw [ih]
    simp [tb]
theorem v_told_by (hB : Brd r c) {L : List Bt} (hl : L.length ≤ 10) : F__law_told_by [bd r c, sto r c L] = some (.ok (tld r c (tb r c (fun _ => false) L))) := by
  obtain ⟨y3, y4, y5, y6, y7, y8, loop⟩ := told_loop hB (sto r c L) L [] (fun _ => false) [] none none none none none (fun k hk => (lit_ff r c k).symm) (by simp; omega) (by simp; omega)
  rw [List.nil_append] at loop
  have hi : (fItL (fVar 1)) [some (.d (bd r c)), some (.d (sto r c L)), some (.o (.l [])), some (.d (li [])), none, none, none, none, none] none = some (.ok (L.map (pr r c)), none) := rfl
  unfold tBody at loop
  unfold tld
  generalize (tb r c (fun _ => false) L).map (fun g => ti (sel (r * c) g)) = T at *
  simp only [F__law_told_by, f__law_told_by, runF_at]
  simp [few_e]
  unfold sto at loop hi ⊢
  simp only [li, List.map_nil] at loop
  simp
  rw [loop]
  simp
end Sb

namespace Sb
open PySem PySem.Spec PyProof.Rows L2
def f_law : MS := (fSeq (fFor (fRng1 (fCons (ret (.int 5)) fNil)) (fgName 2)
    (fSeq (fAsg (fCallR F__law_board 1 (fCons (ret (.int 4)) fNil)) (fgName 3))
  (fSeq (fPar [4, 5] (fCons (fOp oMul (fOp oIxT (fVar 3) (ret (.int 0))) (fOp oIxT (fVar 3) (ret (.int 1)))) (fCons (fOp oAdd (ret (.int 1)) (fCallR F__law_taken 1 (fCons (ret (.int 5)) fNil))) fNil)))
  (fSeq (fOwn 6 (fLst fNil))
  (fSeq (fFor (fRng1 (fCons (fVar 5) fNil)) (fgName 7)
    (fSeq (fAsg (fIf (fB (fOp oLt (fVar 7) (fOp oSub (fVar 5) (ret (.int 1))))) (fCallR F__law_some 1 (fCons (fVar 4) (fCons (fOp oIxL (fN (fLst (fCons (ret (.int 3)) (fCons (fVar 4) fNil)))) (fCallR F__law_taken 1 (fCons (ret (.int 2)) fNil))) fNil))) (fTup fNil)) (fgName 8))
  (fApp 6 (fTup (fCons (fCallR F__law_some 1 (fCons (fOp oMul (ret (.int 2)) (fVar 4)) (fCons (ret (.int 3)) fNil))) (fCons (fVar 8) fNil))))))
  (fSeq (fFz 6 (fPar [9, 10] (fCons (fCall F__law_told_by (fCons (fVar 3) (fCons (fVar 6) fNil))) (fCons (fN (fLst (fCons (ret (.int 0)) (fCons (ret (.int 0)) fNil)))) fNil))))
  (fSeq (fFz 6 (fFor (fItL (fVar 6)) (fgTup 2 (fgCons (fgName 11) (fgCons (fgName 8) fgNil)))
    (fSeq (fAsg (fCall F__law_seams (fCons (fVar 3) (fCons (fVar 11) fNil))) (fgName 12))
  (fAsg (fN (fLst (fCons (fOp oMod (fOp oAdd (fOp oIxL (fVar 10) (ret (.int 0))) (fOp oIxT (fVar 12) (ret (.int 0)))) (ret (.int 2))) (fCons (fOp oMod (fOp oAdd (fOp oIxL (fVar 10) (ret (.int 1))) (fOp oIxT (fVar 12) (ret (.int 1)))) (ret (.int 2))) fNil)))) (fgName 10)))))
  (fSeq (fAsg (fTup (fCons (fOp oAdd (ret (.int 1)) (fCallR F__law_taken 1 (fCons (ret (.int 9)) fNil))) (fCons (fOp oAdd (ret (.int 1)) (fCallR F__law_taken 1 (fCons (ret (.int 9)) fNil))) fNil))) (fgTup 2 (fgCons (fgName 13) (fgCons (fgName 14) fgNil))))
  (fSeq (fFz 6 (fAsg (fCB oSum (fCons (fN (fLc (fItL (fVar 6)) (fgTup 2 (fgCons (fgName 11) (fgCons (fgName 8) fgNil))) (ret true) (fOp oAdd (fOp oMul (fVar 13) (fCB oLen (fCons (fVar 11) fNil))) (fOp oMul (fVar 14) (fCB oLen (fCons (fVar 8) fNil)))) [11, 8])) fNil)) (fgName 15)))
  (fSeq (fFz 6 (fIfS (fNot (fB (fCall F__law_alike (fCons (fCallN F_judged 3 2 (fun ds zs => ds ++ zs) (fCons (fVar 3) (fCons (fVar 9) (fCons (fVar 6) fNil))) (fCons (fVar 13) (fCons (fVar 14) fNil))) (fCons (fTup (fCons (fVar 15) (fCons (fCB oTup (fCons (fVar 10) fNil)) fNil))) fNil)))))
    (fRet (ret (.bool false))) fNext))
  (fSeq (fAsg (fCallR F__law_taken 1 (fCons (fVar 5) fNil)) (fgName 7))
  (fSeq (fAsg (fCallR F__law_some 1 (fCons (fVar 4) (fCons (ret (.int 4)) fNil))) (fgName 16))
  (fSeq (fAsg (fOp oCatT (fOp oCatT (fSlT (fVar 9) fNo (fSo (fVar 7))) (fTup (fCons (fVar 16) fNil))) (fSlT (fVar 9) (fSo (fOp oAdd (fVar 7) (ret (.int 1)))) fNo)) (fgName 17))
  (fSeq (fFz 6 (fIfS (fAnd (fB (fOp oNe (fVar 16) (fOp oIxT (fVar 9) (fVar 7)))) (fAnd (fB (fOp oEq (fOp oMod (fCB oLen (fCons (fOp oIxT (fVar 17) (fUn oNeg (ret (.int 1)))) fNil)) (ret (.int 2))) (ret (.int 0)))) (fB (fOp oNotN (fCall (fun ds => F_judged (ds ++ [(.int 1), (.int 1)])) (fCons (fVar 3) (fCons (fVar 17) (fCons (fVar 6) fNil)))) (ret .none)))))
    (fRet (ret (.bool false))) fNext))
  (fSeq (fFz 6 (fAsg (fN (fOpN oCat (fN (fSlL (fVar 6) fNo (fSo (fUn oNeg (ret (.int 1)))))) (fN (fLst (fCons (fTup (fCons (fOp oIxT (fOp oIxL (fVar 6) (fUn oNeg (ret (.int 1)))) (ret (.int 0))) (fCons (fTup (fCons (ret (.int 0)) (fCons (ret (.int 1)) fNil))) fNil))) fNil))))) (fgName 18)))
  (fIfS (fOr (fB (fOp oNotN (fCall (fun ds => F_judged (ds ++ [(.int 1), (.int 1)])) (fCons (fVar 3) (fCons (fCall F__law_told_by (fCons (fVar 3) (fCons (fVar 18) fNil))) (fCons (fVar 18) fNil)))) (ret .none))) (fB (fOp oNotN (fCall (fun ds => F_judged (ds ++ [(.int 1), (.int 1)])) (fCons (fVar 3) (fCons (fVar 9) (fCons (fVar 18) fNil)))) (ret .none))))
    (fRet (ret (.bool false))) fNext))))))))))))))))
  (fRet (ret (.bool true))))
/-- what there is at the law's start, behind its row -/
def lawS : Ss := none :: some .row :: List.replicate 17 none
end Sb

namespace Sb
open PySem PySem.Spec PyProof.Rows L2
variable {r c : Nat}
def t1 : MS := (fAsg (fCallR F__law_board 1 (fCons (ret (.int 4)) fNil)) (fgName 3))
def t2 : MS := (fPar [4, 5] (fCons (fOp oMul (fOp oIxT (fVar 3) (ret (.int 0))) (fOp oIxT (fVar 3) (ret (.int 1)))) (fCons (fOp oAdd (ret (.int 1)) (fCallR F__law_taken 1 (fCons (ret (.int 5)) fNil))) fNil)))
def t3 : MS := (fOwn 6 (fLst fNil))
def t4 : MS := (fFor (fRng1 (fCons (fVar 5) fNil)) (fgName 7) (fSeq (fAsg (fIf (fB (fOp oLt (fVar 7) (fOp oSub (fVar 5) (ret (.int 1))))) (fCallR F__law_some 1 (fCons (fVar 4) (fCons (fOp oIxL (fN (fLst (fCons (ret (.int 3)) (fCons (fVar 4) fNil)))) (fCallR F__law_taken 1 (fCons (ret (.int 2)) fNil))) fNil))) (fTup fNil)) (fgName 8)) (fApp 6 (fTup (fCons (fCallR F__law_some 1 (fCons (fOp oMul (ret (.int 2)) (fVar 4)) (fCons (ret (.int 3)) fNil))) (fCons (fVar 8) fNil))))))
def t5 : MS := (fFz 6 (fPar [9, 10] (fCons (fCall F__law_told_by (fCons (fVar 3) (fCons (fVar 6) fNil))) (fCons (fN (fLst (fCons (ret (.int 0)) (fCons (ret (.int 0)) fNil)))) fNil))))
def t6 : MS := (fFz 6 (fFor (fItL (fVar 6)) (fgTup 2 (fgCons (fgName 11) (fgCons (fgName 8) fgNil))) (fSeq (fAsg (fCall F__law_seams (fCons (fVar 3) (fCons (fVar 11) fNil))) (fgName 12)) (fAsg (fN (fLst (fCons (fOp oMod (fOp oAdd (fOp oIxL (fVar 10) (ret (.int 0))) (fOp oIxT (fVar 12) (ret (.int 0)))) (ret (.int 2))) (fCons (fOp oMod (fOp oAdd (fOp oIxL (fVar 10) (ret (.int 1))) (fOp oIxT (fVar 12) (ret (.int 1)))) (ret (.int 2))) fNil)))) (fgName 10)))))
def t7 : MS := (fAsg (fTup (fCons (fOp oAdd (ret (.int 1)) (fCallR F__law_taken 1 (fCons (ret (.int 9)) fNil))) (fCons (fOp oAdd (ret (.int 1)) (fCallR F__law_taken 1 (fCons (ret (.int 9)) fNil))) fNil))) (fgTup 2 (fgCons (fgName 13) (fgCons (fgName 14) fgNil))))
def t8 : MS := (fFz 6 (fAsg (fCB oSum (fCons (fN (fLc (fItL (fVar 6)) (fgTup 2 (fgCons (fgName 11) (fgCons (fgName 8) fgNil))) (ret true) (fOp oAdd (fOp oMul (fVar 13) (fCB oLen (fCons (fVar 11) fNil))) (fOp oMul (fVar 14) (fCB oLen (fCons (fVar 8) fNil)))) [11, 8])) fNil)) (fgName 15)))
def t9 : MS := (fFz 6 (fIfS (fNot (fB (fCall F__law_alike (fCons (fCallN F_judged 3 2 (fun ds zs => ds ++ zs) (fCons (fVar 3) (fCons (fVar 9) (fCons (fVar 6) fNil))) (fCons (fVar 13) (fCons (fVar 14) fNil))) (fCons (fTup (fCons (fVar 15) (fCons (fCB oTup (fCons (fVar 10) fNil)) fNil))) fNil))))) (fRet (ret (.bool false))) fNext))
def t10 : MS := (fAsg (fCallR F__law_taken 1 (fCons (fVar 5) fNil)) (fgName 7))
def t11 : MS := (fAsg (fCallR F__law_some 1 (fCons (fVar 4) (fCons (ret (.int 4)) fNil))) (fgName 16))
def t12 : MS := (fAsg (fOp oCatT (fOp oCatT (fSlT (fVar 9) fNo (fSo (fVar 7))) (fTup (fCons (fVar 16) fNil))) (fSlT (fVar 9) (fSo (fOp oAdd (fVar 7) (ret (.int 1)))) fNo)) (fgName 17))
def t13 : MS := (fFz 6 (fIfS (fAnd (fB (fOp oNe (fVar 16) (fOp oIxT (fVar 9) (fVar 7)))) (fAnd (fB (fOp oEq (fOp oMod (fCB oLen (fCons (fOp oIxT (fVar 17) (fUn oNeg (ret (.int 1)))) fNil)) (ret (.int 2))) (ret (.int 0)))) (fB (fOp oNotN (fCall (fun ds => F_judged (ds ++ [ (.int 1) , (.int 1) ])) (fCons (fVar 3) (fCons (fVar 17) (fCons (fVar 6) fNil)))) (ret .none))))) (fRet (ret (.bool false))) fNext))
def t14 : MS := (fFz 6 (fAsg (fN (fOpN oCat (fN (fSlL (fVar 6) fNo (fSo (fUn oNeg (ret (.int 1)))))) (fN (fLst (fCons (fTup (fCons (fOp oIxT (fOp oIxL (fVar 6) (fUn oNeg (ret (.int 1)))) (ret (.int 0))) (fCons (fTup (fCons (ret (.int 0)) (fCons (ret (.int 1)) fNil))) fNil))) fNil))))) (fgName 18)))
def t15 : MS := (fIfS (fOr (fB (fOp oNotN (fCall (fun ds => F_judged (ds ++ [ (.int 1) , (.int 1) ])) (fCons (fVar 3) (fCons (fCall F__law_told_by (fCons (fVar 3) (fCons (fVar 18) fNil))) (fCons (fVar 18) fNil)))) (ret .none))) (fB (fOp oNotN (fCall (fun ds => F_judged (ds ++ [ (.int 1) , (.int 1) ])) (fCons (fVar 3) (fCons (fVar 9) (fCons (fVar 18) fNil)))) (ret .none)))) (fRet (ret (.bool false))) fNext)
def turnB : MS := (fSeq t1 (fSeq t2 (fSeq t3 (fSeq t4 (fSeq t5 (fSeq t6 (fSeq t7 (fSeq t8 (fSeq t9 (fSeq t10 (fSeq t11 (fSeq t12 (fSeq t13 (fSeq t14 t15))))))))))))))
theorem law_cut : f_law = fSeq (fFor (fRng1 (fCons (ret (.int 5)) fNil)) (fgName 2) turnB) (fRet (ret (.bool true))) := rfl

theorem tb_app (L : List Bt) (b : Bt) : ∀ a, tb r c a (L ++ [b]) = tb r c a L ++ [fun k => lit r c (xf (al a L) b.1) k ^^ b.2 k] := by
  induction L with
  | nil => intro a; rfl
  | cons d L ih => intro a; show _ :: tb r c _ (L ++ [b]) = _; rw [ih]; rfl
theorem al_app (L : List Bt) (b : Bt) : ∀ a, al a (L ++ [b]) = xf (al a L) b.1 := by
  induction L with
  | nil => intro a; rfl
  | cons d L ih => intro a; exact ih _
theorem mt_self : ∀ (L : List Bt) (a : Nat → Bool), mt r c a (tb r c a L) L = true
  | [], _ => rfl
  | b :: L, a => by
    show (decide (_ = _) && mt r c _ (tb r c _ L) L) = true
    rw [decide_eq_true rfl, mt_self L]; rfl
theorem mt_get : ∀ (L : List Bt) (a : Nat → Bool) (ts : List (Nat → Bool)), mt r c a ts L = true → ts.length = L.length → ∀ (i : Nat) (g h : Nat → Bool), ts[i]? = some g → (tb r c a L)[i]? = some h → sel (r * c) g = sel (r * c) h
  | [], _, [], _, _, i, g, h, e, _ => by simp at e
  | [], _, _ :: _, _, e, _, _, _, _, _ => by simp at e
  | _ :: _, _, [], _, e, _, _, _, _, _ => by simp at e
  | b :: L, a, t :: ts, hm, hl, i, g, h, e1, e2 => by
    have hm' : (decide (sel (r * c) (fun k => lit r c (xf a b.1) k ^^ b.2 k) = sel (r * c) t) && mt r c (xf a b.1) ts L) = true := hm
    rw [Bool.and_eq_true, decide_eq_true_eq] at hm'
    cases i with
    | zero =>
      simp at e1
      have e2' : some (fun k => lit r c (xf a b.1) k ^^ b.2 k) = some h := e2
      cases e2'
      rw [← e1]
      exact hm'.1.symm
    | succ i => exact mt_get L _ ts hm'.2 (by simpa using hl) i g h (by simpa using e1) e2
theorem len_even {g : Nat → Bool} {n : Nat} (h : px n g = false) : (sel n g).length % 2 = 0 := by
  have := len_par n g
  rw [h] at this
  have e : ((((sel n g).length : Nat) : Int)) % 2 = 0 := this
  omega
def g01 : Nat → Bool := fun k => decide (k < 2)
theorem sel01 : ∀ m, sel (m + 2) g01 = [0, 1]
  | 0 => rfl
  | m + 1 => by
    rw [sel_succ, sel01 m, if_neg (by unfold g01; simp)]; rfl
theorem sel01' (hB : Brd r c) : sel (r * c) g01 = [0, 1] := by
  have h4 : 4 ≤ r * c := Nat.mul_le_mul hB.1 hB.2.2.1
  obtain ⟨m, hm⟩ : ∃ m, r * c = m + 2 := ⟨r * c - 2, by omega⟩
  rw [hm, sel01]
theorem px01 (hB : Brd r c) : px (r * c) g01 = false := by
  have := len_par (r * c) g01
  rw [sel01' hB] at this
  cases h : px (r * c) g01 with
  | false => rfl
  | true => rw [h] at this; cases this
/-- the seams of a story by its beats -/
theorem side_step (a b : Bool) : (bi a + bi b) % 2 = bi (a ^^ b) := bi_add a b
theorem sides_loop (hB : Brd r c) (x2 x4 x5 x7 x9 x13 x14 x15 x16 x17 x18 : Option Wv) (S : Dt) (ρ : Ro) : ∀ (L : List Bt) (a : Nat → Bool) (x8 x11 x12 : Option Wv), ∃ y8 y11 y12,
    forGo (fgTup 2 (fgCons (fgName 11) (fgCons (fgName 8) fgNil))) (fSeq (fAsg (fCall F__law_seams (fCons (fVar 3) (fCons (fVar 11) fNil))) (fgName 12)) (fAsg (fN (fLst (fCons (fOp oMod (fOp oAdd (fOp oIxL (fVar 10) (ret (.int 0))) (fOp oIxT (fVar 12) (ret (.int 0)))) (ret (.int 2))) (fCons (fOp oMod (fOp oAdd (fOp oIxL (fVar 10) (ret (.int 1))) (fOp oIxT (fVar 12) (ret (.int 1)))) (ret (.int 2))) fNil)))) (fgName 10))) (L.map (pr r c))
      [none, some .row, x2, some (.d (bd r c)), x4, x5, some (.d S), x7, x8, x9, some (.d (li [bi (sA r c a), bi (sB r c a)])), x11, x12, x13, x14, x15, x16, x17, x18] ρ =
    some (.nx [none, some .row, x2, some (.d (bd r c)), x4, x5, some (.d S), x7, y8, x9, some (.d (li [bi (sA r c (al a L)), bi (sB r c (al a L))])), y11, y12, x13, x14, x15, x16, x17, x18] ρ)
  | [], a, x8, x11, x12 => ⟨x8, x11, x12, rfl⟩
  | b :: L, a, x8, x11, x12 => by
    obtain ⟨y8, y11, y12, ih⟩ := sides_loop hB x2 x4 x5 x7 x9 x13 x14 x15 x16 x17 x18 S ρ L (xf a b.1) (some (.d (ti (sel (r * c) b.2)))) (some (.d (ti (sel (2 * (r * c)) b.1)))) (some (.d (bd (bi (sA r c b.1)) (bi (sB r c b.1)))))
    refine ⟨y8, y11, y12, ?_⟩
    have e1 := v_law_seams hB b.1
    have a1 : sA r c (xf a b.1) = (sA r c a ^^ sA r c b.1) := sA_xor r c a b.1
    have a2 : sB r c (xf a b.1) = (sB r c a ^^ sB r c b.1) := sB_xor r c a b.1
    have i1 := bi_add (sA r c a) (sA r c b.1)
    have i2 := bi_add (sB r c a) (sB r c b.1)
    rw [a1, a2, ← i1, ← i2] at ih
    rw [List.map_cons, forGo_cons]
    have tg : (fgTup 2 (fgCons (fgName 11) (fgCons (fgName 8) fgNil))) (pr r c b) [none, some .row, x2, some (.d (bd r c)), x4, x5, some (.d S), x7, x8, x9, some (.d (li [bi (sA r c a), bi (sB r c a)])), x11, x12, x13, x14, x15, x16, x17, x18] = some [none, some .row, x2, some (.d (bd r c)), x4, x5, some (.d S), x7, some (.d (ti (sel (r * c) b.2))), x9, some (.d (li [bi (sA r c a), bi (sB r c a)])), some (.d (ti (sel (2 * (r * c)) b.1))), x12, x13, x14, x15, x16, x17, x18] := rfl
    rw [tg]
    simp [e1, few_e, oMod_i]
    simp only [li, List.map_cons, List.map_nil] at ih
    exact ih
theorem whole_go (x y : Int) (hx : 1 ≤ x ∧ x ≤ 9) (hy : 1 ≤ y ∧ y ≤ 9) (hB : Brd r c) (x2 x3 x4 x5 x6 x7 x8 x9 x10 x11 x12 x15 x16 x17 x18 : Option Wv) (ρ : Ro) : ∀ L : List Bt, ∃ l : List Int, l.sum = cst r c x y L ∧
    lcGo (fgTup 2 (fgCons (fgName 11) (fgCons (fgName 8) fgNil))) (ret true) (fOp oAdd (fOp oMul (fVar 13) (fCB oLen (fCons (fVar 11) fNil))) (fOp oMul (fVar 14) (fCB oLen (fCons (fVar 8) fNil))))
      [none, some .row, x2, x3, x4, x5, x6, x7, x8, x9, x10, x11, x12, some (.d (.int x)), some (.d (.int y)), x15, x16, x17, x18] (L.map (pr r c)) ρ = some (l.map .int, ρ)
  | [] => ⟨[], rfl, rfl⟩
  | b :: L => by
    obtain ⟨l, h1, h2⟩ := whole_go x y hx hy hB x2 x3 x4 x5 x6 x7 x8 x9 x10 x11 x12 x15 x16 x17 x18 ρ L
    have l1 := sel_len (2 * (r * c)) b.1
    have l2 := sel_len (r * c) b.2
    have h25 := rc25 hB
    have m1 : oIC cMul (fun i j => i * j) (.int x) (.int (sel (2 * (r * c)) b.1).length) = some (.int (x * (sel (2 * (r * c)) b.1).length)) := oMul_i (by omega)
    have m2 : oIC cMul (fun i j => i * j) (.int y) (.int (sel (r * c) b.2).length) = some (.int (y * (sel (r * c) b.2).length)) := oMul_i (by omega)
    refine ⟨(x * (sel (2 * (r * c)) b.1).length + y * (sel (r * c) b.2).length) :: l, by rw [List.sum_cons, h1]; rfl, ?_⟩
    rw [List.map_cons]
    unfold lcGo
    have tg : (fgTup 2 (fgCons (fgName 11) (fgCons (fgName 8) fgNil))) (pr r c b) [none, some .row, x2, x3, x4, x5, x6, x7, x8, x9, x10, x11, x12, some (.d (.int x)), some (.d (.int y)), x15, x16, x17, x18] = some [none, some .row, x2, x3, x4, x5, x6, x7, some (.d (ti (sel (r * c) b.2))), x9, x10, some (.d (ti (sel (2 * (r * c)) b.1))), x12, some (.d (.int x)), some (.d (.int y)), x15, x16, x17, x18] := rfl
    rw [tg]
    simp [oLen_ti, m1, m2, h2]
theorem story_loop (hB : Brd r c) {n : Nat} (hn : 1 ≤ n ∧ n ≤ 5) {x : Rw} (hx : 0 ≤ x.i) (x2 x7 x8 x9 x10 x11 x12 x13 x14 x15 x16 x17 x18 : Option Wv) : ∃ s' ρ', t4 [none, some .row, x2, some (.d (bd r c)), some (.d (.int (r * c))), some (.d (.int n)), some (.o (.l [])), x7, x8, x9, x10, x11, x12, x13, x14, x15, x16, x17, x18] (some x) = some (.nx s' ρ') ∧
    ∃ (L : List Bt) (b : Bt) (y7 y8 : Option Wv) (x' : Rw), L.length + 1 = n ∧ b.2 = (fun _ => false) ∧ s' = [none, some .row, x2, some (.d (bd r c)), some (.d (.int (r * c))), some (.d (.int n)), some (.o (.l ((L ++ [b]).map (pr r c)))), y7, y8, x9, x10, x11, x12, x13, x14, x15, x16, x17, x18] ∧ ρ' = some x' ∧ 0 ≤ x'.i := by
  have h25 := rc25 hB
  have h4 : 4 ≤ r * c := Nat.mul_le_mul hB.1 hB.2.2.1
  have er := oRng1_e (j := (n : Int)) (by omega)
  rw [Int.toNat_natCast] at er
  have hrc : (((r * c : Nat) : Int)) = (r : Int) * c := Int.natCast_mul r c
  obtain ⟨s', ρ', e, L, y7, y8, hL, hlast, hs, x', hρ, hx'⟩ := for_ex (j := 7) (n := n) (b := (fSeq (fAsg (fIf (fB (fOp oLt (fVar 7) (fOp oSub (fVar 5) (ret (.int 1))))) (fCallR F__law_some 1 (fCons (fVar 4) (fCons (fOp oIxL (fN (fLst (fCons (ret (.int 3)) (fCons (fVar 4) fNil)))) (fCallR F__law_taken 1 (fCons (ret (.int 2)) fNil))) fNil))) (fTup fNil)) (fgName 8)) (fApp 6 (fTup (fCons (fCallR F__law_some 1 (fCons (fOp oMul (ret (.int 2)) (fVar 4)) (fCons (ret (.int 3)) fNil))) (fCons (fVar 8) fNil))))))
    (s := [none, some .row, x2, some (.d (bd r c)), some (.d (.int (r * c))), some (.d (.int n)), some (.o (.l [])), x7, x8, x9, x10, x11, x12, x13, x14, x15, x16, x17, x18]) (ρ := some x)
    (fun i s ρ => ∃ (L : List Bt) (y7 y8 : Option Wv), L.length = i ∧ (i = n → ∃ L' b, L = L' ++ [b] ∧ b.2 = (fun _ => false)) ∧ s = [none, some .row, x2, some (.d (bd r c)), some (.d (.int (r * c))), some (.d (.int n)), some (.o (.l (L.map (pr r c)))), y7, y8, x9, x10, x11, x12, x13, x14, x15, x16, x17, x18] ∧ ∃ x' : Rw, ρ = some x' ∧ 0 ≤ x'.i)
    (fun i hi s ρ ⟨L, y7, y8, hL, hlast, hs, x1, hρ, hx1⟩ => by
      subst hs hρ
      have m2 : oIC cMul (fun i j => i * j) (.int 2) (.int ((r : Int) * c)) = some (.int (2 * ((r : Int) * c))) := oMul_i (.inl (by decide))
      by_cases hlt : i + 1 < n
      · obtain ⟨k, x2', e1, hk, hx2⟩ := d_taken hx1 (m := 2) (by decide)
        obtain ⟨T, hT, hTb⟩ : ∃ T : Int, atI [PyData.int 3, .int ((r : Int) * c)] k = some (.int T) ∧ 0 ≤ T ∧ T ≤ 50 := by
          have : k = 0 ∨ k = 1 := by omega
          rcases this with rfl | rfl
          · exact ⟨3, rfl, by omega, by omega⟩
          · exact ⟨(r : Int) * c, rfl, by omega, by omega⟩
        obtain ⟨g, x3', e2, hx3, _⟩ := d_some hx2 (n := r * c) (t := T) (by omega)
        obtain ⟨f, x4', e3, hx4, _⟩ := d_some hx3 (n := 2 * (r * c)) (t := 3) (by omega)
        rw [hrc] at e2
        rw [show ((2 * (r * c) : Nat) : Int) = 2 * ((r : Int) * c) by rw [Int.natCast_mul, hrc]; rfl] at e3
        have hlt' : (i : Int) < n - 1 := by omega
        have ap := own_app (i := 6) (xs := L.map (pr r c)) (s := [none, some .row, x2, some (.d (bd r c)), some (.d (.int (r * c))), some (.d (.int n)), some (.o (.l (L.map (pr r c)))), some (.d (.int i)), some (.d (ti (sel (r * c) g))), x9, x10, x11, x12, x13, x14, x15, x16, x17, x18]) (ρ := some x3') (ρ1 := some x4') (a := fTup (fCons (fCallR F__law_some 1 (fCons (fOp oMul (ret (.int 2)) (fVar 4)) (fCons (ret (.int 3)) fNil))) (fCons (fVar 8) fNil))) (d := pr r c (f, g)) rfl (by simp [m2, e3]; rfl) (by rw [List.length_map]; omega)
        refine ⟨_, _, .inl (by simp [hlt', few_e, e1, hT, e2]; rw [ap]), L ++ [(f, g)], some (.d (.int i)), some (.d (ti (sel (r * c) g))), by rw [List.length_append, hL]; rfl, fun e => absurd e (by omega), by rw [List.map_append]; rfl, x4', rfl, hx4⟩
      · obtain ⟨f, x4', e3, hx4, _⟩ := d_some hx1 (n := 2 * (r * c)) (t := 3) (by omega)
        rw [show ((2 * (r * c) : Nat) : Int) = 2 * ((r : Int) * c) by rw [Int.natCast_mul, hrc]; rfl] at e3
        have hlt' : ¬ (i : Int) < n - 1 := by omega
        have z : ti (sel (r * c) fun _ => false) = .tuple [] := by rw [sel_ff]; rfl
        have ap := own_app (i := 6) (xs := L.map (pr r c)) (s := [none, some .row, x2, some (.d (bd r c)), some (.d (.int (r * c))), some (.d (.int n)), some (.o (.l (L.map (pr r c)))), some (.d (.int i)), some (.d (.tuple [])), x9, x10, x11, x12, x13, x14, x15, x16, x17, x18]) (ρ := some x1) (ρ1 := some x4') (a := fTup (fCons (fCallR F__law_some 1 (fCons (fOp oMul (ret (.int 2)) (fVar 4)) (fCons (ret (.int 3)) fNil))) (fCons (fVar 8) fNil))) (d := pr r c (f, fun _ => false)) rfl (by simp [m2, e3, pr, z]) (by rw [List.length_map]; omega)
        refine ⟨_, _, .inl (by simp [hlt']; rw [ap]), L ++ [(f, fun _ => false)], some (.d (.int i)), some (.d (.tuple [])), by rw [List.length_append, hL]; rfl, fun _ => ⟨L, (f, fun _ => false), rfl, rfl⟩, by rw [List.map_append]; rfl, x4', rfl, hx4⟩) ⟨[], x7, x8, rfl, fun e => absurd e (by omega), rfl, x, rfl, hx⟩
  obtain ⟨L', b, rfl, hb⟩ := hlast rfl
  refine ⟨s', ρ', ?_, L', b, y7, y8, x', by rw [List.length_append] at hL; exact hL, hb, hs, hρ, hx'⟩
  unfold t4
  simp [er]
  exact e
theorem list_split {α : Type} : ∀ {l : List α}, l ≠ [] → ∃ l' x, l = l' ++ [x]
  | [], h => absurd rfl h
  | [x], _ => ⟨[], x, rfl⟩
  | x :: y :: l, _ => by
    obtain ⟨l', z, e⟩ := list_split (l := y :: l) (by simp)
    exact ⟨x :: l', z, by rw [e]; rfl⟩
/-- a beat told otherwise is found -/
theorem mt_off {L : List Bt} {a : Nat → Bool} {k : Nat} {h t : Nat → Bool} (ht : (tb r c a L)[k]? = some t) (hne : sel (r * c) h ≠ sel (r * c) t) : mt r c a ((tb r c a L).set k h) L = false := by
  cases e : mt r c a ((tb r c a L).set k h) L with
  | false => rfl
  | true =>
    have hk := (List.getElem?_eq_some_iff.mp ht).1
    exact absurd (mt_get L a _ e (by rw [List.length_set, tb_len]) k h t (List.getElem?_set_self hk) ht) hne
theorem cut_at {l : List Dt} {k : Nat} (h : Dt) (hk : k < l.length) : cutD l none (some (k : Int)) ++ [h] ++ cutD l (some ((k : Int) + 1)) none = l.set k h := by
  have e1 : HT.sIx l.length l.length (some (k : Int)) = k := by rw [HT.sIx_nat]; omega
  have e2 : HT.sIx l.length 0 (some ((k : Int) + 1)) = k + 1 := by
    rw [show ((k : Int) + 1) = ((k + 1 : Nat) : Int) by omega, HT.sIx_nat]; omega
  unfold cutD
  rw [HT.sIx_none, HT.sIx_none, e1, e2, List.drop_zero, Nat.sub_zero, List.take_of_length_le (l := l.drop (k + 1)) (by rw [List.length_drop]; omega), List.set_eq_take_append_cons_drop, if_pos hk, List.append_assoc]
  rfl
theorem cut_last {l : List Dt} {x : Dt} : cutD (l ++ [x]) none (some (-1)) = l := by
  have e1 : HT.sIx (l ++ [x]).length (l ++ [x]).length (some (-1)) = l.length := by
    show (if (-1 : Int) < 0 then ((-1 : Int) + (((l ++ [x]).length : Nat) : Int)).toNat else min (-1 : Int).toNat (l ++ [x]).length) = _
    rw [if_pos (by decide), List.length_append]
    simp
    omega
  unfold cutD
  rw [HT.sIx_none, e1, List.drop_zero, Nat.sub_zero]
  simp
@[simp] theorem fSlT_e {s : Ss} {ρ : Ro} (a : ME Dt) (l h : ME (Option Int)) : fSlT a l h s ρ = (bnd a fun x => bnd l fun lo => bnd h fun hi => lft (match x with
  | .tuple ds => some (.tuple (cutD ds lo hi))
  | _ => none)) s ρ := (rfl)
@[simp] theorem fCallN_e {s : Ss} {ρ : Ro} (F : Fn) (n m : Nat) (g : List Dt → List Dt → List Dt) (t tk : ME (List Dt)) : fCallN F n m g t tk s ρ = (bnd t fun ds => bnd tk fun zs s ρ => if ds.length = n ∧ zs.length = m then match F (g ds zs) with
  | none => none
  | some r => some (r, ρ)
  else none) s ρ := (rfl)
theorem wf_ints {n : Nat} (l : List Int) (hl : l.length ≤ 50000) : wfA (n + 1) (ti l) = true := by
  show (decide ((l.map PyData.int).length ≤ 50000) && (l.map PyData.int).all (wfA n)) = true
  rw [Bool.and_eq_true, decide_eq_true_eq, List.length_map, List.all_eq_true]
  exact ⟨hl, fun d hd => by obtain ⟨i, _, rfl⟩ := List.mem_map.mp hd; cases n <;> rfl⟩
theorem wf_pair {n : Nat} {x y : Dt} (hx : wfA n x = true) (hy : wfA n y = true) : wfA (n + 1) (.tuple [x, y]) = true := by
  show (decide ([x, y].length ≤ 50000) && [x, y].all (wfA n)) = true
  simp [hx, hy]
theorem tld_get {ts : List (Nat → Bool)} {k : Nat} {t : Nat → Bool} (h : ts[k]? = some t) : oIxT (tld r c ts) (.int (k : Int)) = some (ti (sel (r * c) t)) := atI_in (by omega) (by rw [Int.toNat_natCast, List.getElem?_map, h]; rfl)
/-- the steps, from the story on -/
theorem rest_ok (hB : Brd r c) {n : Nat} {L : List Bt} {b : Bt} (hL : L.length + 1 = n) (hn : n ≤ 5) (hb : b.2 = (fun _ => false)) {x : Rw} (hx : 0 ≤ x.i) (x2 x7 x8 x9 x10 x11 x12 x13 x14 x15 x16 x17 x18 : Option Wv) : ∃ s' ρ',
    (fSeq t5 (fSeq t6 (fSeq t7 (fSeq t8 (fSeq t9 (fSeq t10 (fSeq t11 (fSeq t12 (fSeq t13 (fSeq t14 t15)))))))))) [none, some .row, x2, some (.d (bd r c)), some (.d (.int (r * c))), some (.d (.int n)), some (.o (.l ((L ++ [b]).map (pr r c)))), x7, x8, x9, x10, x11, x12, x13, x14, x15, x16, x17, x18] (some x) = some (.nx s' ρ') ∧
    (∃ y2 y3 y4 y5 y6 y7 y8 y9 y10 y11 y12 y13 y14 y15 y16 y17 y18, s' = [none, some .row, y2, y3, y4, y5, y6, y7, y8, y9, y10, y11, y12, y13, y14, y15, y16, y17, y18]) ∧ ∃ x' : Rw, ρ' = some x' ∧ 0 ≤ x'.i := by
  have h25 := rc25 hB
  have h4 : 4 ≤ r * c := Nat.mul_le_mul hB.1 hB.2.2.1
  have hrc : (((r * c : Nat) : Int)) = (r : Int) * c := Int.natCast_mul r c
  have hlen : (L ++ [b]).length = n := by rw [List.length_append]; exact hL
  have vt := v_told_by hB (L := L ++ [b]) (by omega)
  obtain ⟨z8, z11, z12, sl⟩ := sides_loop hB x2 (some (.d (.int (r * c)))) (some (.d (.int n))) x7 (some (.d (tld r c (tb r c (fun _ => false) (L ++ [b]))))) x13 x14 x15 x16 x17 x18 (sto r c (L ++ [b])) (some x) (L ++ [b]) (fun _ => false) x8 x11 x12
  rw [sA_ff, sB_ff] at sl
  obtain ⟨d1, xa, e7, hd1, hxa⟩ := d_taken hx (m := 9) (by decide)
  obtain ⟨d2, xb, e8, hd2, hxb⟩ := d_taken hxa (m := 9) (by decide)
  have hX : 1 ≤ (1 + (d1 : Int)) ∧ (1 + (d1 : Int)) ≤ 9 := by omega
  have hY : 1 ≤ (1 + (d2 : Int)) ∧ (1 + (d2 : Int)) ≤ 9 := by omega
  obtain ⟨l, hl1, hl2⟩ := whole_go (1 + (d1 : Int)) (1 + (d2 : Int)) hX hY hB x2 (some (.d (bd r c))) (some (.d (.int (r * c)))) (some (.d (.int n))) (some (.d (sto r c (L ++ [b])))) x7 none (some (.d (tld r c (tb r c (fun _ => false) (L ++ [b]))))) (some (.d (li [bi (sA r c (al (fun _ => false) (L ++ [b]))), bi (sB r c (al (fun _ => false) (L ++ [b])))]))) none z12 x15 x16 x17 x18 (some xb) (L ++ [b])
  have s5 : t5 [none, some .row, x2, some (.d (bd r c)), some (.d (.int (r * c))), some (.d (.int n)), some (.o (.l ((L ++ [b]).map (pr r c)))), x7, x8, x9, x10, x11, x12, x13, x14, x15, x16, x17, x18] (some x) = some (.nx [none, some .row, x2, some (.d (bd r c)), some (.d (.int (r * c))), some (.d (.int n)), some (.d (sto r c (L ++ [b]))), x7, x8, some (.d (tld r c (tb r c (fun _ => false) (L ++ [b])))), some (.d (li [bi false, bi false])), x11, x12, x13, x14, x15, x16, x17, x18] (some x)) := by
    unfold t5
    unfold sto at vt ⊢
    generalize (L ++ [b]).map (pr r c) = D at vt ⊢
    simp [vt, few_e]
    rfl
  have s6 : t6 [none, some .row, x2, some (.d (bd r c)), some (.d (.int (r * c))), some (.d (.int n)), some (.d (sto r c (L ++ [b]))), x7, x8, some (.d (tld r c (tb r c (fun _ => false) (L ++ [b])))), some (.d (li [bi false, bi false])), x11, x12, x13, x14, x15, x16, x17, x18] (some x) = some (.nx [none, some .row, x2, some (.d (bd r c)), some (.d (.int (r * c))), some (.d (.int n)), some (.d (sto r c (L ++ [b]))), x7, z8, some (.d (tld r c (tb r c (fun _ => false) (L ++ [b])))), some (.d (li [bi (sA r c (al (fun _ => false) (L ++ [b]))), bi (sB r c (al (fun _ => false) (L ++ [b])))])), z11, z12, x13, x14, x15, x16, x17, x18] (some x)) := by
    unfold t6
    unfold sto at sl ⊢
    generalize (L ++ [b]).map (pr r c) = D at sl ⊢
    simp
    exact sl
  have s7 : t7 [none, some .row, x2, some (.d (bd r c)), some (.d (.int (r * c))), some (.d (.int n)), some (.d (sto r c (L ++ [b]))), x7, z8, some (.d (tld r c (tb r c (fun _ => false) (L ++ [b])))), some (.d (li [bi (sA r c (al (fun _ => false) (L ++ [b]))), bi (sB r c (al (fun _ => false) (L ++ [b])))])), z11, z12, x13, x14, x15, x16, x17, x18] (some x) = some (.nx [none, some .row, x2, some (.d (bd r c)), some (.d (.int (r * c))), some (.d (.int n)), some (.d (sto r c (L ++ [b]))), x7, z8, some (.d (tld r c (tb r c (fun _ => false) (L ++ [b])))), some (.d (li [bi (sA r c (al (fun _ => false) (L ++ [b]))), bi (sB r c (al (fun _ => false) (L ++ [b])))])), z11, z12, some (.d (.int (1 + (d1 : Int)))), some (.d (.int (1 + (d2 : Int)))), x15, x16, x17, x18] (some xb)) := by
    unfold t7
    simp [e7, e8]
  have s8 : t8 [none, some .row, x2, some (.d (bd r c)), some (.d (.int (r * c))), some (.d (.int n)), some (.d (sto r c (L ++ [b]))), x7, z8, some (.d (tld r c (tb r c (fun _ => false) (L ++ [b])))), some (.d (li [bi (sA r c (al (fun _ => false) (L ++ [b]))), bi (sB r c (al (fun _ => false) (L ++ [b])))])), z11, z12, some (.d (.int (1 + (d1 : Int)))), some (.d (.int (1 + (d2 : Int)))), x15, x16, x17, x18] (some xb) = some (.nx [none, some .row, x2, some (.d (bd r c)), some (.d (.int (r * c))), some (.d (.int n)), some (.d (sto r c (L ++ [b]))), x7, z8, some (.d (tld r c (tb r c (fun _ => false) (L ++ [b])))), some (.d (li [bi (sA r c (al (fun _ => false) (L ++ [b]))), bi (sB r c (al (fun _ => false) (L ++ [b])))])), z11, z12, some (.d (.int (1 + (d1 : Int)))), some (.d (.int (1 + (d2 : Int)))), some (.d (.int (cst r c (1 + (d1 : Int)) (1 + (d2 : Int)) (L ++ [b])))), x16, x17, x18] (some xb)) := by
    have lc := fLc_to (vs := [11, 8]) (i := fItL (fVar 6)) (s := [none, some .row, x2, some (.d (bd r c)), some (.d (.int (r * c))), some (.d (.int n)), some (.d (sto r c (L ++ [b]))), x7, z8, some (.d (tld r c (tb r c (fun _ => false) (L ++ [b])))), some (.d (li [bi (sA r c (al (fun _ => false) (L ++ [b]))), bi (sB r c (al (fun _ => false) (L ++ [b])))])), z11, z12, some (.d (.int (1 + (d1 : Int)))), some (.d (.int (1 + (d2 : Int)))), x15, x16, x17, x18]) (ρ := some xb) (ρ1 := some xb) (ds := (L ++ [b]).map (pr r c)) rfl (by rw [List.length_map]; omega) hl2
    unfold t8
    unfold sto at lc ⊢
    generalize (L ++ [b]).map (pr r c) = D at lc ⊢
    simp [lc, oSum, toInts_map, hl1]
  -- what the story tells at its end
  have tbe := tb_app (r := r) (c := c) L b (fun _ => false)
  have tle : (tb r c (fun _ => false) L).length = L.length := tb_len r c L _
  have tfull : (tb r c (fun _ => false) (L ++ [b])).length = n := by rw [tb_len]; exact hlen
  have ev : (sel (r * c) fun k => lit r c (xf (al (fun _ => false) L) b.1) k ^^ b.2 k).length % 2 = 0 := len_even (by rw [px_xor, lit_even hB, hb, px_ff]; rfl)
  have j9 : F_judged [bd r c, tld r c (tb r c (fun _ => false) (L ++ [b])), sto r c (L ++ [b]), .int (1 + (d1 : Int)), .int (1 + (d2 : Int))] = some (.ok (.tuple [.int (cst r c (1 + (d1 : Int)) (1 + (d2 : Int)) (L ++ [b])), bd (bi (sA r c (al (fun _ => false) (L ++ [b])))) (bi (sB r c (al (fun _ => false) (L ++ [b]))))])) := by
    have ms := mt_self (r := r) (c := c) (L ++ [b]) (fun _ => false)
    have j := v_judged hB hX hY (gs := tb r c (fun _ => false) L) (g := fun k => lit r c (xf (al (fun _ => false) L) b.1) k ^^ b.2 k) (L := L) (b := b) tle (by omega) ev
    rw [← tbe] at j
    rw [j, ms, hb, sel_ff]
    rfl
  have w9 : F__law_alike [.tuple [.int (cst r c (1 + (d1 : Int)) (1 + (d2 : Int)) (L ++ [b])), bd (bi (sA r c (al (fun _ => false) (L ++ [b])))) (bi (sB r c (al (fun _ => false) (L ++ [b]))))], .tuple [.int (cst r c (1 + (d1 : Int)) (1 + (d2 : Int)) (L ++ [b])), bd (bi (sA r c (al (fun _ => false) (L ++ [b])))) (bi (sB r c (al (fun _ => false) (L ++ [b]))))]] = some (.ok (.bool true)) := v_law_alike (wf_pair (n := 5) rfl (wf_ints (n := 4) [bi (sA r c (al (fun _ => false) (L ++ [b]))), bi (sB r c (al (fun _ => false) (L ++ [b])))] (by simp)))
  have s9 : t9 [none, some .row, x2, some (.d (bd r c)), some (.d (.int (r * c))), some (.d (.int n)), some (.d (sto r c (L ++ [b]))), x7, z8, some (.d (tld r c (tb r c (fun _ => false) (L ++ [b])))), some (.d (li [bi (sA r c (al (fun _ => false) (L ++ [b]))), bi (sB r c (al (fun _ => false) (L ++ [b])))])), z11, z12, some (.d (.int (1 + (d1 : Int)))), some (.d (.int (1 + (d2 : Int)))), some (.d (.int (cst r c (1 + (d1 : Int)) (1 + (d2 : Int)) (L ++ [b])))), x16, x17, x18] (some xb) = some (.nx [none, some .row, x2, some (.d (bd r c)), some (.d (.int (r * c))), some (.d (.int n)), some (.d (sto r c (L ++ [b]))), x7, z8, some (.d (tld r c (tb r c (fun _ => false) (L ++ [b])))), some (.d (li [bi (sA r c (al (fun _ => false) (L ++ [b]))), bi (sB r c (al (fun _ => false) (L ++ [b])))])), z11, z12, some (.d (.int (1 + (d1 : Int)))), some (.d (.int (1 + (d2 : Int)))), some (.d (.int (cst r c (1 + (d1 : Int)) (1 + (d2 : Int)) (L ++ [b])))), x16, x17, x18] (some xb)) := by
    unfold t9
    simp [j9, w9]
  obtain ⟨k, xc, e10, hk, hxc⟩ := d_taken hxb (m := n) (by omega)
  have s10 : t10 [none, some .row, x2, some (.d (bd r c)), some (.d (.int (r * c))), some (.d (.int n)), some (.d (sto r c (L ++ [b]))), x7, z8, some (.d (tld r c (tb r c (fun _ => false) (L ++ [b])))), some (.d (li [bi (sA r c (al (fun _ => false) (L ++ [b]))), bi (sB r c (al (fun _ => false) (L ++ [b])))])), z11, z12, some (.d (.int (1 + (d1 : Int)))), some (.d (.int (1 + (d2 : Int)))), some (.d (.int (cst r c (1 + (d1 : Int)) (1 + (d2 : Int)) (L ++ [b])))), x16, x17, x18] (some xb) = some (.nx [none, some .row, x2, some (.d (bd r c)), some (.d (.int (r * c))), some (.d (.int n)), some (.d (sto r c (L ++ [b]))), some (.d (.int k)), z8, some (.d (tld r c (tb r c (fun _ => false) (L ++ [b])))), some (.d (li [bi (sA r c (al (fun _ => false) (L ++ [b]))), bi (sB r c (al (fun _ => false) (L ++ [b])))])), z11, z12, some (.d (.int (1 + (d1 : Int)))), some (.d (.int (1 + (d2 : Int)))), some (.d (.int (cst r c (1 + (d1 : Int)) (1 + (d2 : Int)) (L ++ [b])))), x16, x17, x18] (some xc)) := by
    unfold t10
    simp [e10]
  obtain ⟨h, xd, e11, hxd, _⟩ := d_some hxc (n := r * c) (t := 4) (by omega)
  rw [hrc] at e11
  have s11 : t11 [none, some .row, x2, some (.d (bd r c)), some (.d (.int (r * c))), some (.d (.int n)), some (.d (sto r c (L ++ [b]))), some (.d (.int k)), z8, some (.d (tld r c (tb r c (fun _ => false) (L ++ [b])))), some (.d (li [bi (sA r c (al (fun _ => false) (L ++ [b]))), bi (sB r c (al (fun _ => false) (L ++ [b])))])), z11, z12, some (.d (.int (1 + (d1 : Int)))), some (.d (.int (1 + (d2 : Int)))), some (.d (.int (cst r c (1 + (d1 : Int)) (1 + (d2 : Int)) (L ++ [b])))), x16, x17, x18] (some xc) = some (.nx [none, some .row, x2, some (.d (bd r c)), some (.d (.int (r * c))), some (.d (.int n)), some (.d (sto r c (L ++ [b]))), some (.d (.int k)), z8, some (.d (tld r c (tb r c (fun _ => false) (L ++ [b])))), some (.d (li [bi (sA r c (al (fun _ => false) (L ++ [b]))), bi (sB r c (al (fun _ => false) (L ++ [b])))])), z11, z12, some (.d (.int (1 + (d1 : Int)))), some (.d (.int (1 + (d2 : Int)))), some (.d (.int (cst r c (1 + (d1 : Int)) (1 + (d2 : Int)) (L ++ [b])))), some (.d (ti (sel (r * c) h))), x17, x18] (some xd)) := by
    unfold t11
    simp [e11]
  have hk' : k < n := by omega
  have s12 : t12 [none, some .row, x2, some (.d (bd r c)), some (.d (.int (r * c))), some (.d (.int n)), some (.d (sto r c (L ++ [b]))), some (.d (.int k)), z8, some (.d (tld r c (tb r c (fun _ => false) (L ++ [b])))), some (.d (li [bi (sA r c (al (fun _ => false) (L ++ [b]))), bi (sB r c (al (fun _ => false) (L ++ [b])))])), z11, z12, some (.d (.int (1 + (d1 : Int)))), some (.d (.int (1 + (d2 : Int)))), some (.d (.int (cst r c (1 + (d1 : Int)) (1 + (d2 : Int)) (L ++ [b])))), some (.d (ti (sel (r * c) h))), x17, x18] (some xd) = some (.nx [none, some .row, x2, some (.d (bd r c)), some (.d (.int (r * c))), some (.d (.int n)), some (.d (sto r c (L ++ [b]))), some (.d (.int k)), z8, some (.d (tld r c (tb r c (fun _ => false) (L ++ [b])))), some (.d (li [bi (sA r c (al (fun _ => false) (L ++ [b]))), bi (sB r c (al (fun _ => false) (L ++ [b])))])), z11, z12, some (.d (.int (1 + (d1 : Int)))), some (.d (.int (1 + (d2 : Int)))), some (.d (.int (cst r c (1 + (d1 : Int)) (1 + (d2 : Int)) (L ++ [b])))), some (.d (ti (sel (r * c) h))), some (.d (tld r c ((tb r c (fun _ => false) (L ++ [b])).set k h))), x18] (some xd)) := by
    have cat := cut_at (l := (tb r c (fun _ => false) (L ++ [b])).map fun g => ti (sel (r * c) g)) (k := k) (ti (sel (r * c) h)) (by rw [List.length_map]; omega)
    rw [← List.map_set (f := fun g => ti (sel (r * c) g))] at cat
    have ln : ((tb r c (fun _ => false) (L ++ [b])).map fun g => ti (sel (r * c) g)).length = n := by rw [List.length_map]; exact tfull
    unfold t12 tld
    generalize ((tb r c (fun _ => false) (L ++ [b])).map fun g => ti (sel (r * c) g)) = D at cat ln ⊢
    have q1 : (cutD D none (some (k : Int))).length ≤ n := by unfold cutD; rw [List.length_take, List.length_drop, ln]; omega
    have q2 : (cutD D (some ((k : Int) + 1)) none).length ≤ n := by unfold cutD; rw [List.length_take, List.length_drop, ln]; omega
    have o1 := oCatT_e (x := cutD D none (some (k : Int))) (y := [ti (sel (r * c) h)]) (by simp; omega)
    have o2 := oCatT_e (x := cutD D none (some (k : Int)) ++ [ti (sel (r * c) h)]) (y := cutD D (some ((k : Int) + 1)) none) (by rw [List.length_append]; simp; omega)
    rw [cat] at o2
    simp [o1, o2, -List.append_assoc]
  obtain ⟨t, ht⟩ : ∃ t, (tb r c (fun _ => false) (L ++ [b]))[k]? = some t := ⟨(tb r c (fun _ => false) (L ++ [b]))[k]'(by omega), List.getElem?_eq_getElem _⟩
  have s13 : t13 [none, some .row, x2, some (.d (bd r c)), some (.d (.int (r * c))), some (.d (.int n)), some (.d (sto r c (L ++ [b]))), some (.d (.int k)), z8, some (.d (tld r c (tb r c (fun _ => false) (L ++ [b])))), some (.d (li [bi (sA r c (al (fun _ => false) (L ++ [b]))), bi (sB r c (al (fun _ => false) (L ++ [b])))])), z11, z12, some (.d (.int (1 + (d1 : Int)))), some (.d (.int (1 + (d2 : Int)))), some (.d (.int (cst r c (1 + (d1 : Int)) (1 + (d2 : Int)) (L ++ [b])))), some (.d (ti (sel (r * c) h))), some (.d (tld r c ((tb r c (fun _ => false) (L ++ [b])).set k h))), x18] (some xd) = some (.nx [none, some .row, x2, some (.d (bd r c)), some (.d (.int (r * c))), some (.d (.int n)), some (.d (sto r c (L ++ [b]))), some (.d (.int k)), z8, some (.d (tld r c (tb r c (fun _ => false) (L ++ [b])))), some (.d (li [bi (sA r c (al (fun _ => false) (L ++ [b]))), bi (sB r c (al (fun _ => false) (L ++ [b])))])), z11, z12, some (.d (.int (1 + (d1 : Int)))), some (.d (.int (1 + (d2 : Int)))), some (.d (.int (cst r c (1 + (d1 : Int)) (1 + (d2 : Int)) (L ++ [b])))), some (.d (ti (sel (r * c) h))), some (.d (tld r c ((tb r c (fun _ => false) (L ++ [b])).set k h))), x18] (some xd)) := by
    have gt := tld_get (r := r) (c := c) ht
    have ne := ti_ne (sel (r * c) h) (sel (r * c) t)
    obtain ⟨gs, g, hgs⟩ := list_split (l := (tb r c (fun _ => false) (L ++ [b])).set k h) (by intro e; have := congrArg List.length e; rw [List.length_set, tfull] at this; simp at this; omega)
    have gl : gs.length = L.length := by
      have := congrArg List.length hgs
      rw [List.length_set, tfull, List.length_append] at this
      simp at this
      omega
    have la : oIxT (tld r c ((tb r c (fun _ => false) (L ++ [b])).set k h)) (.int (-1)) = some (ti (sel (r * c) g)) := by
      rw [hgs]
      show atI ((gs ++ [g]).map fun g => ti (sel (r * c) g)) (-1) = _
      rw [List.map_append]
      exact atI_last
    unfold t13
    by_cases hq : sel (r * c) h = sel (r * c) t
    · rw [decide_eq_true hq] at ne
      simp [gt, ne]
    · rw [decide_eq_false hq] at ne
      by_cases hv : (sel (r * c) g).length % 2 = 0
      · have hv' : ((sel (r * c) g).length : Int) % 2 = 0 := by omega
        have mo := mt_off (L := L ++ [b]) (a := fun _ => false) ht hq
        have j := v_judged hB (x := 1) (y := 1) (by decide) (by decide) (gs := gs) (g := g) (L := L) (b := b) gl (by omega) hv
        rw [← hgs, mo] at j
        simp only [Bool.false_and] at j
        rw [if_neg (by decide)] at j
        simp [gt, ne, oNeg_i, la, oLen_ti, oMod_i, hv', j, isNo]
      · have hv' : ¬ ((sel (r * c) g).length : Int) % 2 = 0 := by omega
        simp [gt, ne, oNeg_i, la, oLen_ti, oMod_i, hv']
  have l01 : ti (sel (r * c) g01) = .tuple [.int 0, .int 1] := by rw [sel01' hB]; rfl
  have s14 : t14 [none, some .row, x2, some (.d (bd r c)), some (.d (.int (r * c))), some (.d (.int n)), some (.d (sto r c (L ++ [b]))), some (.d (.int k)), z8, some (.d (tld r c (tb r c (fun _ => false) (L ++ [b])))), some (.d (li [bi (sA r c (al (fun _ => false) (L ++ [b]))), bi (sB r c (al (fun _ => false) (L ++ [b])))])), z11, z12, some (.d (.int (1 + (d1 : Int)))), some (.d (.int (1 + (d2 : Int)))), some (.d (.int (cst r c (1 + (d1 : Int)) (1 + (d2 : Int)) (L ++ [b])))), some (.d (ti (sel (r * c) h))), some (.d (tld r c ((tb r c (fun _ => false) (L ++ [b])).set k h))), x18] (some xd) = some (.nx [none, some .row, x2, some (.d (bd r c)), some (.d (.int (r * c))), some (.d (.int n)), some (.d (sto r c (L ++ [b]))), some (.d (.int k)), z8, some (.d (tld r c (tb r c (fun _ => false) (L ++ [b])))), some (.d (li [bi (sA r c (al (fun _ => false) (L ++ [b]))), bi (sB r c (al (fun _ => false) (L ++ [b])))])), z11, z12, some (.d (.int (1 + (d1 : Int)))), some (.d (.int (1 + (d2 : Int)))), some (.d (.int (cst r c (1 + (d1 : Int)) (1 + (d2 : Int)) (L ++ [b])))), some (.d (ti (sel (r * c) h))), some (.d (tld r c ((tb r c (fun _ => false) (L ++ [b])).set k h))), some (.d (sto r c (L ++ [(b.1, g01)])))] (some xd)) := by
    have la : oIxL (sto r c (L ++ [b])) (.int (-1)) = some (pr r c b) := by
      show atI ((L ++ [b]).map (pr r c)) (-1) = _
      rw [List.map_append]
      exact atI_last
    have lp : oIxT (pr r c b) (.int 0) = some (ti (sel (2 * (r * c)) b.1)) := atI_0 _ _
    have cl : cutD ((L ++ [b]).map (pr r c)) none (some (-1)) = L.map (pr r c) := by rw [List.map_append]; exact cut_last
    have ec := oCat_e (x := L.map (pr r c)) (y := [.tuple [ti (sel (2 * (r * c)) b.1), .tuple [.int 0, .int 1]]]) (by rw [List.length_map]; simp; omega)
    have sl : fSlL (fVar 6) fNo (fSo (fUn oNeg (ret (.int 1)))) [none, some .row, x2, some (.d (bd r c)), some (.d (.int (r * c))), some (.d (.int n)), some (.d (sto r c (L ++ [b]))), some (.d (.int k)), z8, some (.d (tld r c (tb r c (fun _ => false) (L ++ [b])))), some (.d (li [bi (sA r c (al (fun _ => false) (L ++ [b]))), bi (sB r c (al (fun _ => false) (L ++ [b])))])), z11, z12, some (.d (.int (1 + (d1 : Int)))), some (.d (.int (1 + (d2 : Int)))), some (.d (.int (cst r c (1 + (d1 : Int)) (1 + (d2 : Int)) (L ++ [b])))), some (.d (ti (sel (r * c) h))), some (.d (tld r c ((tb r c (fun _ => false) (L ++ [b])).set k h))), x18] (some xd) = some (.ok (L.map (pr r c)), some xd) := by
      unfold fSlL
      unfold sto
      rw [← cl]
      generalize (L ++ [b]).map (pr r c) = D
      simp [oNeg_i]
    unfold t14
    simp only [fFz_at, fAsg_e, fOut_at, fN_e, bnd_at, fOpN_e, sl]
    simp [la, lp, oNeg_i, few_e, ec]
    show PyData.list _ = PyData.list _
    rw [List.map_append]
    show PyData.list (_ ++ [_]) = PyData.list (_ ++ [PyData.tuple [_, ti (sel (r * c) g01)]])
    rw [l01]
  have s15 : t15 [none, some .row, x2, some (.d (bd r c)), some (.d (.int (r * c))), some (.d (.int n)), some (.d (sto r c (L ++ [b]))), some (.d (.int k)), z8, some (.d (tld r c (tb r c (fun _ => false) (L ++ [b])))), some (.d (li [bi (sA r c (al (fun _ => false) (L ++ [b]))), bi (sB r c (al (fun _ => false) (L ++ [b])))])), z11, z12, some (.d (.int (1 + (d1 : Int)))), some (.d (.int (1 + (d2 : Int)))), some (.d (.int (cst r c (1 + (d1 : Int)) (1 + (d2 : Int)) (L ++ [b])))), some (.d (ti (sel (r * c) h))), some (.d (tld r c ((tb r c (fun _ => false) (L ++ [b])).set k h))), some (.d (sto r c (L ++ [(b.1, g01)])))] (some xd) = some (.nx [none, some .row, x2, some (.d (bd r c)), some (.d (.int (r * c))), some (.d (.int n)), some (.d (sto r c (L ++ [b]))), some (.d (.int k)), z8, some (.d (tld r c (tb r c (fun _ => false) (L ++ [b])))), some (.d (li [bi (sA r c (al (fun _ => false) (L ++ [b]))), bi (sB r c (al (fun _ => false) (L ++ [b])))])), z11, z12, some (.d (.int (1 + (d1 : Int)))), some (.d (.int (1 + (d2 : Int)))), some (.d (.int (cst r c (1 + (d1 : Int)) (1 + (d2 : Int)) (L ++ [b])))), some (.d (ti (sel (r * c) h))), some (.d (tld r c ((tb r c (fun _ => false) (L ++ [b])).set k h))), some (.d (sto r c (L ++ [(b.1, g01)])))] (some xd)) := by
    have vt2 := v_told_by hB (L := L ++ [(b.1, g01)]) (by rw [List.length_append]; simp; omega)
    have tb2 := tb_app (r := r) (c := c) L (b.1, g01) (fun _ => false)
    have ev2 : (sel (r * c) fun k => lit r c (xf (al (fun _ => false) L) b.1) k ^^ g01 k).length % 2 = 0 := len_even (by rw [px_xor, lit_even hB, px01 hB]; rfl)
    have ne : decide (sel (r * c) g01 = []) = false := by rw [sel01' hB]; rfl
    have j1 := v_judged hB (x := 1) (y := 1) (by decide) (by decide) (gs := tb r c (fun _ => false) L) (g := fun k => lit r c (xf (al (fun _ => false) L) b.1) k ^^ g01 k) (L := L) (b := (b.1, g01)) tle (by omega) ev2
    have j2 := v_judged hB (x := 1) (y := 1) (by decide) (by decide) (gs := tb r c (fun _ => false) L) (g := fun k => lit r c (xf (al (fun _ => false) L) b.1) k ^^ b.2 k) (L := L) (b := (b.1, g01)) tle (by omega) ev
    rw [← tb2] at j1
    rw [← tbe] at j2
    simp only [ne, Bool.and_false] at j1 j2
    rw [if_neg (by decide)] at j1 j2
    unfold t15
    simp [vt2, j1, j2, isNo]
  refine ⟨[none, some .row, x2, some (.d (bd r c)), some (.d (.int (r * c))), some (.d (.int n)), some (.d (sto r c (L ++ [b]))), some (.d (.int k)), z8, some (.d (tld r c (tb r c (fun _ => false) (L ++ [b])))), some (.d (li [bi (sA r c (al (fun _ => false) (L ++ [b]))), bi (sB r c (al (fun _ => false) (L ++ [b])))])), z11, z12, some (.d (.int (1 + (d1 : Int)))), some (.d (.int (1 + (d2 : Int)))), some (.d (.int (cst r c (1 + (d1 : Int)) (1 + (d2 : Int)) (L ++ [b])))), some (.d (ti (sel (r * c) h))), some (.d (tld r c ((tb r c (fun _ => false) (L ++ [b])).set k h))), some (.d (sto r c (L ++ [(b.1, g01)])))], some xd, ?_, ⟨_, _, _, _, _, _, _, _, _, _, _, _, _, _, _, _, _, rfl⟩, xd, rfl, hxd⟩
  rw [fSeq_to s5, fSeq_to s6, fSeq_to s7, fSeq_to s8, fSeq_to s9, fSeq_to s10, fSeq_to s11, fSeq_to s12, fSeq_to s13, fSeq_to s14]
  exact s15
theorem turn_ok {x : Rw} (hx : 0 ≤ x.i) (t : Nat) (x3 x4 x5 x6 x7 x8 x9 x10 x11 x12 x13 x14 x15 x16 x17 x18 : Option Wv) : ∃ s' ρ', turnB [none, some .row, some (.d (.int t)), x3, x4, x5, x6, x7, x8, x9, x10, x11, x12, x13, x14, x15, x16, x17, x18] (some x) = some (.nx s' ρ') ∧
    (∃ y2 y3 y4 y5 y6 y7 y8 y9 y10 y11 y12 y13 y14 y15 y16 y17 y18, s' = [none, some .row, y2, y3, y4, y5, y6, y7, y8, y9, y10, y11, y12, y13, y14, y15, y16, y17, y18]) ∧ ∃ x' : Rw, ρ' = some x' ∧ 0 ≤ x'.i := by
  obtain ⟨r, c, x1, e1, hB, -, -, hx1⟩ := d_board hx (m := 4) (by decide)
  obtain ⟨k, x2', e2, hk, hx2⟩ := d_taken hx1 (m := 5) (by decide)
  have m1 : oIC cMul (fun i j => i * j) (.int (r : Int)) (.int c) = some (.int (r * c)) := oMul_i (by have := hB.2.1; omega)
  obtain ⟨s4, ρ4, e4, L, b, y7, y8, x4', hL, hb, hs, hρ, hx4⟩ := story_loop hB (n := 1 + k) (by omega) hx2 (some (.d (.int t))) x7 x8 x9 x10 x11 x12 x13 x14 x15 x16 x17 x18
  subst hs hρ
  obtain ⟨s', ρ', e5, h5⟩ := rest_ok hB hL (by omega) hb hx4 (some (.d (.int t))) y7 y8 x9 x10 x11 x12 x13 x14 x15 x16 x17 x18
  refine ⟨s', ρ', ?_, h5⟩
  unfold turnB
  rw [fSeq_to (s1 := [none, some .row, some (.d (.int t)), some (.d (bd r c)), x4, x5, x6, x7, x8, x9, x10, x11, x12, x13, x14, x15, x16, x17, x18]) (ρ1 := some x1) (by unfold t1; simp [e1])]
  rw [fSeq_to (s1 := [none, some .row, some (.d (.int t)), some (.d (bd r c)), some (.d (.int (r * c))), some (.d (.int ((1 + k : Nat) : Int))), x6, x7, x8, x9, x10, x11, x12, x13, x14, x15, x16, x17, x18]) (ρ1 := some x2') (by unfold t2; simp [m1, e2])]
  rw [fSeq_to (s1 := [none, some .row, some (.d (.int t)), some (.d (bd r c)), some (.d (.int (r * c))), some (.d (.int ((1 + k : Nat) : Int))), some (.o (.l [])), x7, x8, x9, x10, x11, x12, x13, x14, x15, x16, x17, x18]) (ρ1 := some x2') (by unfold t3; simp [few_e])]
  rw [fSeq_to e4]
  exact e5
theorem law_true (ns : List Int) (h : ns.length ≤ 63) : ∃ r, f_law lawS (some ⟨ns, 0, 0, 0⟩) = some (.rt (.bool true) r) := by
  have er : oRng1 [.int 5] = some (upto 0 5) := oRng1_e (j := 5) (by decide)
  obtain ⟨s', ρ', e, _⟩ := for_ex (j := 2) (n := 5) (b := turnB) (s := lawS) (ρ := some ⟨ns, 0, 0, 0⟩) (fun _ s ρ => (∃ y2 y3 y4 y5 y6 y7 y8 y9 y10 y11 y12 y13 y14 y15 y16 y17 y18, s = [none, some .row, y2, y3, y4, y5, y6, y7, y8, y9, y10, y11, y12, y13, y14, y15, y16, y17, y18]) ∧ ∃ x : Rw, ρ = some x ∧ 0 ≤ x.i) (fun t ht s ρ ⟨⟨y2, y3, y4, y5, y6, y7, y8, y9, y10, y11, y12, y13, y14, y15, y16, y17, y18, hs⟩, x, hρ, hx⟩ => by
    subst hs hρ
    obtain ⟨s', ρ', e, h⟩ := turn_ok hx t y3 y4 y5 y6 y7 y8 y9 y10 y11 y12 y13 y14 y15 y16 y17 y18
    exact ⟨s', ρ', .inl e, h⟩) ⟨⟨_, _, _, _, _, _, _, _, _, _, _, _, _, _, _, _, _, rfl⟩, _, rfl, Int.le_refl 0⟩
  refine ⟨ρ', ?_⟩
  rw [law_cut]
  simp [er]
  rw [e]
end Sb

namespace Sb
open PySem PySem.Spec PyProof.Rows L2
def topS (i : Nat) : Stmt := PySem.Challenge.pw_seamboard_k08_stories_judged.main.body.getD i (.Pass ⟨0, 0, 0, 0⟩)
abbrev s__law_taken : Stmt := topS 40
abbrev N__law_taken : List Str := ["_law_row", "_law_many", "_law_found", "_law_cell"]
theorem sc__law_taken : FnScope N__law_taken ["_law_row", "_law_many"] (defScope s__law_taken) := ⟨rfl, rfl, rfl, by decide +kernel, rfl, by decide +kernel, by decide +kernel⟩
theorem bi__law_taken : BindsAt "_law_taken" s__law_taken ["_law_row", "_law_many"] := fun _ _ _ _ _ _ us hl => match us, hl with | [_, _], _ => rfl
set_option maxHeartbeats 2000000 in
theorem ok__law_taken {P : Program} {w : World} {K : PySem.W.Frag} {mg : Str → Option Value} {base : Heap} (A : FnAt K mg "_law_taken" s__law_taken) (b_len : mg "len" = none)  : Has P w K mg base "_law_taken" 1 ["_law_row", "_law_many"] (spW K mg F__law_taken) :=
  hasW (N := N__law_taken) A bi__law_taken sc__law_taken (by decide) fun cdv f A outer s H E hr => by
    have nd := sc__law_taken.nd
    refine ⟨_, (pss_cons (ps_if (pt_cmpR op_gt (pe_ix (ix_listK (K := K) (by rfl)) (pv 0) pe_int (fun _ _ => rfl)) pe_int (nomark _)) (pss_cons (ps_set (i := 2) nd rfl (by first | exact .inl rfl | exact .inr rfl) (pe_op op_mod (pe_ix (ix_listK (K := K) (by rfl)) (pv 0) pe_int (fun _ _ => rfl)) (pv 1)))
    (pss_cons (ps_asg (pe_op op_fdiv (pe_ix (ix_listK (K := K) (by rfl)) (pv 0) pe_int (fun _ _ => rfl)) (pv 1)) (pg_sub (pv 0) pe_int set_list))
    (pss_one (ps_ret (pv 2))))) pss_nil)
    (pss_cons (ps_asg (pe_op op_add (pe_ix (ix_listK (K := K) (by rfl)) (pv 0) pe_int (fun _ _ => rfl)) pe_int) (pg_sub (pv 0) pe_int set_list))
    (pss_cons (ps_if (pt_cmpR op_gt (pe_ix (ix_listK (K := K) (by rfl)) (pv 0) pe_int (fun _ _ => rfl)) (pe_callB (kc_len (K := K) (by rfl)) (by rfl) b_len (by decide +kernel) (pa_cons (pe_ix (ix_listK (K := K) (by rfl)) (pv 0) pe_int (fun _ _ => rfl)) pa_nil)) (nomark _)) (pss_cons (ps_asg (pe_op op_mod (pe_op op_add (pe_op op_mul (pe_ix (ix_listK (K := K) (by rfl)) (pv 0) pe_int (fun _ _ => rfl)) pe_int) pe_int) pe_int) (pg_sub (pv 0) pe_int set_list))
    (pss_one (ps_ret (pe_op op_mod (pe_op op_fdiv (pe_ix (ix_listK (K := K) (by rfl)) (pv 0) pe_int (fun _ _ => rfl)) pe_int) (pv 1))))) pss_nil)
    (pss_cons (ps_set (i := 3) nd rfl (by first | exact .inl rfl | exact .inr rfl) (pe_ix (ix_listK (K := K) (by rfl)) (pe_ix (ix_listK (K := K) (by rfl)) (pv 0) pe_int (fun _ _ => rfl)) (pe_op op_sub (pe_ix (ix_listK (K := K) (by rfl)) (pv 0) pe_int (fun _ _ => rfl)) pe_int) (fun _ _ => rfl)))
    (pss_cons (ps_asg (pe_op op_mod (pe_op op_add (pe_op op_add (pe_op op_mul (pe_ix (ix_listK (K := K) (by rfl)) (pv 0) pe_int (fun _ _ => rfl)) pe_int) (pv 3)) pe_int) pe_int) (pg_sub (pv 0) pe_int set_list))
    (pss_cons (ps_if (pt_cmpR op_ge (pv 3) (pe_op op_pow pe_int pe_int) (nomark _)) (pss_one (ps_asg (pe_op op_fdiv (pv 3) (pv 1)) (pg_sub (pv 0) pe_int set_list))) pss_nil)
    (pss_one (ps_ret (pe_op op_mod (pv 3) (pv 1)))))))))), ?_⟩
    exact (xs_seq (xs_if (xt_test (xe_op (rvo_B _) (xe_rowI 0 3) (xe_int _))) (xs_seq (xs_asg (xe_op rvo_mod (xe_rowI 0 3) (xe_var 1)) (xg_name 2))
  (xs_seq (xs_rowSet 0 3 (xe_op rvo_div (xe_rowI 0 3) (xe_var 1)))
  (xs_ret (xe_var 2)))) xs_next)
  (xs_seq (xs_rowSet 0 1 (xe_op (rvo_I _) (xe_rowI 0 1) (xe_int _)))
  (xs_seq (xs_if (xt_test (xe_op (rvo_B _) (xe_rowI 0 1) (xe_rowLen 0))) (xs_seq (xs_rowSet 0 2 (xe_op rvo_mod (xe_op (rvo_I _) (xe_op rvo_mul (xe_rowI 0 2) (xe_int _)) (xe_int _)) (xe_int _)))
  (xs_ret (xe_op rvo_mod (xe_op rvo_div (xe_rowI 0 2) (xe_int _)) (xe_var 1)))) xs_next)
  (xs_seq (xs_asg (xe_rowAt 0 (xe_op (rvo_I _) (xe_rowI 0 1) (xe_int _))) (xg_name 3))
  (xs_seq (xs_rowSet 0 2 (xe_op rvo_mod (xe_op (rvo_I _) (xe_op (rvo_I _) (xe_op rvo_mul (xe_rowI 0 2) (xe_int _)) (xe_var 3)) (xe_int _)) (xe_int _)))
  (xs_seq (xs_if (xt_test (xe_op (rvo_B _) (xe_var 3) (xe_op rvo_pow (xe_int _) (xe_int _)))) (xs_rowSet 0 3 (xe_op rvo_div (xe_var 3) (xe_var 1))) xs_next)
  (xs_ret (xe_op rvo_mod (xe_var 3) (xe_var 1)))))))))
abbrev s__law_board : Stmt := topS 42
abbrev N__law_board : List Str := ["_law_row", "_law_most"]
theorem sc__law_board : FnScope N__law_board ["_law_row", "_law_most"] (defScope s__law_board) := ⟨rfl, rfl, rfl, by decide +kernel, rfl, by decide +kernel, by decide +kernel⟩
theorem bi__law_board : BindsAt "_law_board" s__law_board ["_law_row", "_law_most"] := fun _ _ _ _ _ _ us hl => match us, hl with | [_, _], _ => rfl
set_option maxHeartbeats 2000000 in
theorem ok__law_board {P : Program} {w : World} {K : PySem.W.Frag} {mg : Str → Option Value} {base : Heap} (A : FnAt K mg "_law_board" s__law_board)   (h__law_taken : Has P w K mg base "_law_taken" 1 ["_law_row", "_law_many"] (spW K mg F__law_taken)) : Has P w K mg base "_law_board" 2 ["_law_row", "_law_most"] (spW K mg F__law_board) :=
  hasW (N := N__law_board) A bi__law_board sc__law_board (by decide) fun cdv f A outer s H E hr => by
    have nd := sc__law_board.nd
    refine ⟨_, (pss_one (ps_ret (pe_tup (pa_cons (pe_op op_add pe_int (ca h__law_taken hr (by rfl) (pa_cons (pv 0) (pa_cons (pe_op op_sub (pv 1) pe_int) pa_nil)))) (pa_cons (pe_op op_add pe_int (ca h__law_taken hr (by rfl) (pa_cons (pv 0) (pa_cons (pe_op op_sub (pv 1) pe_int) pa_nil)))) pa_nil))))), ?_⟩
    exact (xs_ret (xe_tup (xa_cons (xe_op (rvo_I _) (xe_int _) (xe_callR (xa_cons (xe_op (rvo_I _) (xe_var 1) (xe_int _)) xa_nil))) (xa_cons (xe_op (rvo_I _) (xe_int _) (xe_callR (xa_cons (xe_op (rvo_I _) (xe_var 1) (xe_int _)) xa_nil))) xa_nil))))
abbrev s__law_some : Stmt := topS 43
abbrev N__law_some : List Str := ["_law_row", "_law_many", "_law_most", "_law_found", "_law_k", "_law_one"]
theorem sc__law_some : FnScope N__law_some ["_law_row", "_law_many", "_law_most"] (defScope s__law_some) := ⟨rfl, rfl, rfl, by decide +kernel, rfl, by decide +kernel, by decide +kernel⟩
theorem bi__law_some : BindsAt "_law_some" s__law_some ["_law_row", "_law_many", "_law_most"] := fun _ _ _ _ _ _ us hl => match us, hl with | [_, _, _], _ => rfl
set_option maxHeartbeats 2000000 in
theorem ok__law_some {P : Program} {w : World} {K : PySem.W.Frag} {mg : Str → Option Value} {base : Heap} (A : FnAt K mg "_law_some" s__law_some) (b_range : mg "range" = none) (b_min : mg "min" = none) (b_int : mg "int" = none) (b_tuple : mg "tuple" = none) (b_sorted : mg "sorted" = none)  (h__law_taken : Has P w K mg base "_law_taken" 1 ["_law_row", "_law_many"] (spW K mg F__law_taken)) : Has P w K mg base "_law_some" 2 ["_law_row", "_law_many", "_law_most"] (spW K mg F__law_some) :=
  hasW (N := N__law_some) A bi__law_some sc__law_some (by decide) fun cdv f A outer s H E hr => by
    have nd := sc__law_some.nd
    refine ⟨_, (pss_cons (ps_set (i := 3) nd rfl (by first | exact .inl rfl | exact .inr rfl) (pe_lst pa_nil))
    (pss_cons (ps_for PassesOwn.never rfl (pi_range1 (by rfl) b_range (pa_cons (ca h__law_taken hr (by rfl) (pa_cons (pv 0) (pa_cons (pe_op op_add (pe_callB (call_min2 rfl) (by rfl) b_min (by decide +kernel) (pa_cons (pv 1) (pa_cons (pv 2) pa_nil))) pe_int) pa_nil))) pa_nil)) (pg_name (i := 4) nd rfl (by first | exact .inl rfl | exact .inr rfl)) (pss_cons (ps_set (i := 5) nd rfl (by first | exact .inl rfl | exact .inr rfl) (ca h__law_taken hr (by rfl) (pa_cons (pv 0) (pa_cons (pv 1) pa_nil))))
    (pss_one (ps_set (i := 3) nd rfl (by first | exact .inl rfl | exact .inr rfl) (pe_op op_cat (pv 3) (pe_op op_rep (pe_lst (pa_cons (pv 5) pa_nil)) (pe_callTy call_int1 (by rfl) b_int (by decide +kernel) (pa_cons (pe_cmpR (op_niK (K := K) (by rfl)) (pv 5) (pv 3) (by rfl)) pa_nil))))))))
    (pss_one (ps_ret (pe_callTy (kc_tup (K := K) (by rfl)) (by rfl) b_tuple (by decide +kernel) (pa_cons (pe_callB (kc_sorted (K := K) (by rfl)) (by rfl) b_sorted (by decide +kernel) (pa_cons (pv 3) pa_nil)) pa_nil)))))), ?_⟩
    exact (xs_seq (xs_asg (xe_n (xn_lst xa_nil)) (xg_name 3))
  (xs_seq (xs_for (xi_rng1 (xa_cons (xe_callR (xa_cons (xe_op (rvo_I _) (xe_cb rco_min2 (xa_cons (xe_var 1) (xa_cons (xe_var 2) xa_nil))) (xe_int _)) xa_nil)) xa_nil)) (xg_name 4) (xs_seq (xs_asg (xe_callR (xa_cons (xe_var 1) xa_nil)) (xg_name 5))
  (xs_asg (xe_n (xn_op rvn_cat (xe_var 3) (xe_n (xn_op rvn_rep (xe_n (xn_lst (xa_cons (xe_var 5) xa_nil))) (xe_cb rco_int (xa_cons (xe_op rvo_ni (xe_var 5) (xe_var 3)) xa_nil)))))) (xg_name 3))))
  (xs_ret (xe_cb rco_tup (xa_cons (xe_n (xn_cb rcn_sorted (xa_cons (xe_var 3) xa_nil))) xa_nil)))))
abbrev s__law_ends : Stmt := topS 45
abbrev N__law_ends : List Str := ["_law_board_here", "_law_edge", "_law_line", "_law_column"]
theorem sc__law_ends : FnScope N__law_ends ["_law_board_here", "_law_edge"] (defScope s__law_ends) := ⟨rfl, rfl, rfl, by decide +kernel, rfl, by decide +kernel, by decide +kernel⟩
theorem bi__law_ends : BindsAt "_law_ends" s__law_ends ["_law_board_here", "_law_edge"] := fun _ _ _ _ _ _ us hl => match us, hl with | [_, _], _ => rfl
set_option maxHeartbeats 2000000 in
theorem ok__law_ends {P : Program} {w : World} {K : PySem.W.Frag} {mg : Str → Option Value} {base : Heap} (A : FnAt K mg "_law_ends" s__law_ends) (b_int : mg "int" = none)  : Has P w K mg base "_law_ends" 1 ["_law_board_here", "_law_edge"] (spF K mg F__law_ends) :=
  hasF (N := N__law_ends) A bi__law_ends sc__law_ends fun cdv f A outer s H E hr => by
    have nd := sc__law_ends.nd
    refine ⟨_, (pss_cons (ps_par (i := 2) (j := 3) (by rfl) nd rfl rfl (by decide) rfl rfl (pa_cons (pe_op op_fdiv (pe_op op_fdiv (pv 1) pe_int) (pe_ix (ix_tupK (K := K) (by rfl)) (pv 0) pe_int (fun _ _ => rfl))) (pa_cons (pe_op op_mod (pe_op op_fdiv (pv 1) pe_int) (pe_ix (ix_tupK (K := K) (by rfl)) (pv 0) pe_int (fun _ _ => rfl))) pa_nil)) (by rfl))
    (pss_cons (ps_if (pt_cmpR (op_eqK (K := K) (by rfl) (by exact hr.units)) (pe_op op_mod (pv 1) pe_int) pe_int (nomark _)) (pss_one (ps_ret (pe_lst (pa_cons (pe_op op_fdiv (pv 1) pe_int) (pa_cons (pe_op op_add (pe_op op_mul (pv 2) (pe_ix (ix_tupK (K := K) (by rfl)) (pv 0) pe_int (fun _ _ => rfl))) (pe_ix (ix_listK (K := K) (by rfl)) (pe_lst (pa_cons (pe_op op_add (pv 3) pe_int) (pa_cons pe_int pa_nil))) (pe_callTy call_int1 (by rfl) b_int (by decide +kernel) (pa_cons (pe_cmpR (op_eqK (K := K) (by rfl) (by exact hr.units)) (pv 3) (pe_op op_sub (pe_ix (ix_tupK (K := K) (by rfl)) (pv 0) pe_int (fun _ _ => rfl)) pe_int) (nomark _)) pa_nil)) (fun _ _ => rfl))) pa_nil))))) pss_nil)
    (pss_one (ps_ret (pe_lst (pa_cons (pe_op op_fdiv (pv 1) pe_int) (pa_cons (pe_op op_add (pe_op op_mul (pe_ix (ix_listK (K := K) (by rfl)) (pe_lst (pa_cons (pe_op op_add (pv 2) pe_int) (pa_cons pe_int pa_nil))) (pe_callTy call_int1 (by rfl) b_int (by decide +kernel) (pa_cons (pe_cmpR (op_eqK (K := K) (by rfl) (by exact hr.units)) (pv 2) (pe_op op_sub (pe_ix (ix_tupK (K := K) (by rfl)) (pv 0) pe_int (fun _ _ => rfl)) pe_int) (nomark _)) pa_nil)) (fun _ _ => rfl)) (pe_ix (ix_tupK (K := K) (by rfl)) (pv 0) pe_int (fun _ _ => rfl))) (pv 3)) pa_nil))))))), ?_⟩
    exact (xs_seq (xs_par (xa_cons (xe_op rvo_div (xe_op rvo_div (xe_var 1) (xe_int _)) (xe_op rvo_ixT (xe_var 0) (xe_int _))) (xa_cons (xe_op rvo_mod (xe_op rvo_div (xe_var 1) (xe_int _)) (xe_op rvo_ixT (xe_var 0) (xe_int _))) xa_nil)))
  (xs_seq (xs_if (xt_test (xe_op rvo_eq (xe_op rvo_mod (xe_var 1) (xe_int _)) (xe_int _))) (xs_ret (xe_n (xn_lst (xa_cons (xe_op rvo_div (xe_var 1) (xe_int _)) (xa_cons (xe_op (rvo_I _) (xe_op rvo_mul (xe_var 2) (xe_op rvo_ixT (xe_var 0) (xe_int _))) (xe_op rvo_ixL (xe_n (xn_lst (xa_cons (xe_op (rvo_I _) (xe_var 3) (xe_int _)) (xa_cons (xe_int _) xa_nil)))) (xe_cb rco_int (xa_cons (xe_op rvo_eq (xe_var 3) (xe_op (rvo_I _) (xe_op rvo_ixT (xe_var 0) (xe_int _)) (xe_int _))) xa_nil)))) xa_nil))))) xs_next)
  (xs_ret (xe_n (xn_lst (xa_cons (xe_op rvo_div (xe_var 1) (xe_int _)) (xa_cons (xe_op (rvo_I _) (xe_op rvo_mul (xe_op rvo_ixL (xe_n (xn_lst (xa_cons (xe_op (rvo_I _) (xe_var 2) (xe_int _)) (xa_cons (xe_int _) xa_nil)))) (xe_cb rco_int (xa_cons (xe_op rvo_eq (xe_var 2) (xe_op (rvo_I _) (xe_op rvo_ixT (xe_var 0) (xe_int _)) (xe_int _))) xa_nil))) (xe_op rvo_ixT (xe_var 0) (xe_int _))) (xe_var 3)) xa_nil)))))))
abbrev s__law_told_by : Stmt := topS 49
abbrev N__law_told_by : List Str := ["_law_board_here", "_law_story", "_law_found", "_law_ends_here", "_law_flips_here", "_law_lies", "_law_edge", "_law_lit_here", "_law_site"]
theorem sc__law_told_by : FnScope N__law_told_by ["_law_board_here", "_law_story"] (defScope s__law_told_by) := ⟨rfl, rfl, rfl, by decide +kernel, rfl, by decide +kernel, by decide +kernel⟩
theorem bi__law_told_by : BindsAt "_law_told_by" s__law_told_by ["_law_board_here", "_law_story"] := fun _ _ _ _ _ _ us hl => match us, hl with | [_, _], _ => rfl
set_option maxHeartbeats 2000000 in
theorem ok__law_told_by {P : Program} {w : World} {K : PySem.W.Frag} {mg : Str → Option Value} {base : Heap} (A : FnAt K mg "_law_told_by" s__law_told_by) (b_range : mg "range" = none) (b_tuple : mg "tuple" = none)  (h__law_ends : Has P w K mg base "_law_ends" 1 ["_law_board_here", "_law_edge"] (spF K mg F__law_ends)) : Has P w K mg base "_law_told_by" 2 ["_law_board_here", "_law_story"] (spF K mg F__law_told_by) :=
  hasF (N := N__law_told_by) A bi__law_told_by sc__law_told_by fun cdv f A outer s H E hr => by
    have nd := sc__law_told_by.nd
    refine ⟨_, (pss_cons (ps_asg (pe_tup (pa_cons (pe_lst pa_nil) (pa_cons (pe_lst pa_nil) pa_nil))) (pg_tup (by rfl) (pgs_cons (pg_name (i := 2) nd rfl (by first | exact .inl rfl | exact .inr rfl)) (pgs_cons (pg_name (i := 3) nd rfl (by first | exact .inl rfl | exact .inr rfl)) pgs_nil))))
    (pss_cons (ps_for PassesOwn.never rfl (pi_listK (K := K) (by rfl) (pv 1)) (pg_tup (by rfl) (pgs_cons (pg_name (i := 4) nd rfl (by first | exact .inl rfl | exact .inr rfl)) (pgs_cons (pg_name (i := 5) nd rfl (by first | exact .inl rfl | exact .inr rfl)) pgs_nil))) (pss_cons (ps_for PassesOwn.never rfl (pi_tupK (K := K) (by rfl) (pv 4)) (pg_name (i := 6) nd rfl (by first | exact .inl rfl | exact .inr rfl)) (pss_one (ps_set (i := 3) nd rfl (by first | exact .inl rfl | exact .inr rfl) (pe_op op_cat (pv 3) (ca h__law_ends hr (by rfl) (pa_cons (pv 0) (pa_cons (pv 6) pa_nil)))))))
    (pss_cons (ps_setLc (i := 7) (own := [("_law_site", 8)]) (g := gName 8) (by rfl) nd rfl rfl (sw_true rfl rfl rfl (by decide +kernel)) (pi_range1 (by rfl) b_range (pa_cons (pe_op op_mul (pe_ix (ix_tupK (K := K) (by rfl)) (pv 0) pe_int (fun _ _ => rfl)) (pe_ix (ix_tupK (K := K) (by rfl)) (pv 0) pe_int (fun _ _ => rfl))) pa_nil)) (blkOk_by (own := [("_law_site", 8)]) (N := N__law_told_by) (sc := defScope s__law_told_by) (by decide +kernel)) (fun _ _ _ _ _ => (pg_name (i := 8) nd rfl (by first | exact .inl rfl | exact .inr rfl))) (fun _ _ _ _ _ => (pts_one (pt_cmpR (op_neK (K := K) (by rfl) (by exact hr.units)) (pe_cmpR (op_eqK (K := K) (by rfl) (by exact hr.units)) (pe_op op_mod (pe_countK (K := K) (by rfl) (pv 3) (pa_cons (pv 8) pa_nil)) pe_int) pe_int (nomark _)) (pe_cmpR (op_inK (K := K) (by rfl)) (pv 8) (pv 5) (by rfl)) (nomark _)))) (fun _ _ _ _ _ => (pv 8)))
    (pss_one (ps_expr (pe_bm PySem.F.plainAttrs_list PySem.F.slot_list_append PySem.F.type_list_append mt_append (pv 2) (pa_cons (pe_callTy (kc_tup (K := K) (by rfl)) (by rfl) b_tuple (by decide +kernel) (pa_cons (pv 7) pa_nil)) pa_nil)))))))
    (pss_one (ps_ret (pe_callTy (kc_tup (K := K) (by rfl)) (by rfl) b_tuple (by decide +kernel) (pa_cons (pv 2) pa_nil)))))), ?_⟩
    exact (xs_seq (xs_tupND (xn_lst xa_nil) (xe_n (xn_lst xa_nil)))
  (xs_seq (xs_for (xi_list (xe_var 1)) (xg_tup (K := K) (n := 2) (xgs_cons (xg_name 4) (xgs_cons (xg_name 5) xgs_nil))) (xs_seq (xs_for (xi_tup (xe_var 4)) (xg_name 6) (xs_asg (xe_n (xn_op rvn_cat (xe_var 3) (xe_call (xa_cons (xe_var 0) (xa_cons (xe_var 6) xa_nil))))) (xg_name 3)))
  (xs_seq (xs_asg (xe_n (xn_lc (xi_rng1 (xa_cons (xe_op rvo_mul (xe_op rvo_ixT (xe_var 0) (xe_int _)) (xe_op rvo_ixT (xe_var 0) (xe_int _))) xa_nil)) (xg_name 8) (by decide) (xt_test (xe_op rvo_ne (xe_op rvo_eq (xe_op rvo_mod (xe_countL (xe_var 3) (xa_cons (xe_var 8) xa_nil)) (xe_int _)) (xe_int _)) (xe_op rvo_in (xe_var 8) (xe_var 5)))) (xe_var 8))) (xg_name 7))
  (xs_app (xe_cb rco_tup (xa_cons (xe_var 7) xa_nil))))))
  (xs_fz 2 (xs_ret (xe_cb rco_tup (xa_cons (xe_var 2) xa_nil))))))
abbrev s__law_crosses : Stmt := topS 46
abbrev N__law_crosses : List Str := ["_law_board_here", "_law_edge", "_law_line", "_law_column"]
theorem sc__law_crosses : FnScope N__law_crosses ["_law_board_here", "_law_edge"] (defScope s__law_crosses) := ⟨rfl, rfl, rfl, by decide +kernel, rfl, by decide +kernel, by decide +kernel⟩
theorem bi__law_crosses : BindsAt "_law_crosses" s__law_crosses ["_law_board_here", "_law_edge"] := fun _ _ _ _ _ _ us hl => match us, hl with | [_, _], _ => rfl
set_option maxHeartbeats 2000000 in
theorem ok__law_crosses {P : Program} {w : World} {K : PySem.W.Frag} {mg : Str → Option Value} {base : Heap} (A : FnAt K mg "_law_crosses" s__law_crosses) (b_int : mg "int" = none)  : Has P w K mg base "_law_crosses" 1 ["_law_board_here", "_law_edge"] (spF K mg F__law_crosses) :=
  hasF (N := N__law_crosses) A bi__law_crosses sc__law_crosses fun cdv f A outer s H E hr => by
    have nd := sc__law_crosses.nd
    refine ⟨_, (pss_cons (ps_par (i := 2) (j := 3) (by rfl) nd rfl rfl (by decide) rfl rfl (pa_cons (pe_op op_fdiv (pe_op op_fdiv (pv 1) pe_int) (pe_ix (ix_tupK (K := K) (by rfl)) (pv 0) pe_int (fun _ _ => rfl))) (pa_cons (pe_op op_mod (pe_op op_fdiv (pv 1) pe_int) (pe_ix (ix_tupK (K := K) (by rfl)) (pv 0) pe_int (fun _ _ => rfl))) pa_nil)) (by rfl))
    (pss_one (ps_ret (pe_tup (pa_cons (pe_callTy call_int1 (by rfl) b_int (by decide +kernel) (pa_cons (pe_and (pe_cmpR (op_eqK (K := K) (by rfl) (by exact hr.units)) (pe_op op_mod (pv 1) pe_int) pe_int (nomark _)) (pe_one (pe_cmpR (op_eqK (K := K) (by rfl) (by exact hr.units)) (pv 3) (pe_op op_sub (pe_ix (ix_tupK (K := K) (by rfl)) (pv 0) pe_int (fun _ _ => rfl)) pe_int) (nomark _)))) pa_nil)) (pa_cons (pe_callTy call_int1 (by rfl) b_int (by decide +kernel) (pa_cons (pe_and (pe_cmpR (op_eqK (K := K) (by rfl) (by exact hr.units)) (pe_op op_mod (pv 1) pe_int) pe_int (nomark _)) (pe_one (pe_cmpR (op_eqK (K := K) (by rfl) (by exact hr.units)) (pv 2) (pe_op op_sub (pe_ix (ix_tupK (K := K) (by rfl)) (pv 0) pe_int (fun _ _ => rfl)) pe_int) (nomark _)))) pa_nil)) pa_nil)))))), ?_⟩
    exact (xs_seq (xs_par (xa_cons (xe_op rvo_div (xe_op rvo_div (xe_var 1) (xe_int _)) (xe_op rvo_ixT (xe_var 0) (xe_int _))) (xa_cons (xe_op rvo_mod (xe_op rvo_div (xe_var 1) (xe_int _)) (xe_op rvo_ixT (xe_var 0) (xe_int _))) xa_nil)))
  (xs_ret (xe_tup (xa_cons (xe_cb rco_int (xa_cons (xe_andV (xe_op rvo_eq (xe_op rvo_mod (xe_var 1) (xe_int _)) (xe_int _)) (xe_op rvo_eq (xe_var 3) (xe_op (rvo_I _) (xe_op rvo_ixT (xe_var 0) (xe_int _)) (xe_int _)))) xa_nil)) (xa_cons (xe_cb rco_int (xa_cons (xe_andV (xe_op rvo_eq (xe_op rvo_mod (xe_var 1) (xe_int _)) (xe_int _)) (xe_op rvo_eq (xe_var 2) (xe_op (rvo_I _) (xe_op rvo_ixT (xe_var 0) (xe_int _)) (xe_int _)))) xa_nil)) xa_nil)))))
abbrev s__law_seams : Stmt := topS 48
abbrev N__law_seams : List Str := ["_law_board_here", "_law_flips_here", "_law_pairs", "_law_edge", "_law_pair"]
theorem sc__law_seams : FnScope N__law_seams ["_law_board_here", "_law_flips_here"] (defScope s__law_seams) := ⟨rfl, rfl, rfl, by decide +kernel, rfl, by decide +kernel, by decide +kernel⟩
theorem bi__law_seams : BindsAt "_law_seams" s__law_seams ["_law_board_here", "_law_flips_here"] := fun _ _ _ _ _ _ us hl => match us, hl with | [_, _], _ => rfl
set_option maxHeartbeats 2000000 in
theorem ok__law_seams {P : Program} {w : World} {K : PySem.W.Frag} {mg : Str → Option Value} {base : Heap} (A : FnAt K mg "_law_seams" s__law_seams) (b_sum : mg "sum" = none)  (h__law_crosses : Has P w K mg base "_law_crosses" 1 ["_law_board_here", "_law_edge"] (spF K mg F__law_crosses)) : Has P w K mg base "_law_seams" 2 ["_law_board_here", "_law_flips_here"] (spF K mg F__law_seams) :=
  hasF (N := N__law_seams) A bi__law_seams sc__law_seams fun cdv f A outer s H E hr => by
    have nd := sc__law_seams.nd
    refine ⟨_, (pss_cons (ps_setLc (i := 2) (own := [("_law_edge", 3)]) (g := gName 3) (tt := tYes) (by rfl) nd rfl rfl (sw_true rfl rfl rfl (by decide +kernel)) (pi_tupK (K := K) (by rfl) (pv 1)) (blkOk_by (own := [("_law_edge", 3)]) (N := N__law_seams) (sc := defScope s__law_seams) (by decide +kernel)) (fun _ _ _ _ _ => (pg_name (i := 3) nd rfl (by first | exact .inl rfl | exact .inr rfl))) (fun _ _ _ _ _ => pts_nil) (fun _ _ _ _ _ => (ca h__law_crosses hr (by rfl) (pa_cons (pv 0) (pa_cons (pv 3) pa_nil)))))
    (pss_one (ps_ret (pe_tup (pa_cons (pe_op op_mod (pe_callB (kc_sum (K := K) (by rfl) rfl) (by rfl) b_sum (by decide +kernel) (pa_cons (pe_lc (own := [("_law_pair", 4)]) (g := gName 4) (tt := tYes) (by rfl) nd (pi_listK (K := K) (by rfl) (pv 2)) (blkOk_by (own := [("_law_pair", 4)]) (N := N__law_seams) (sc := defScope s__law_seams) (by decide +kernel)) (fun _ _ _ _ _ => (pg_name (i := 4) nd rfl (by first | exact .inl rfl | exact .inr rfl))) (fun _ _ _ _ _ => pts_nil) (fun _ _ _ _ _ => (pe_ix (ix_tupK (K := K) (by rfl)) (pv 4) pe_int (fun _ _ => rfl)))) pa_nil)) pe_int) (pa_cons (pe_op op_mod (pe_callB (kc_sum (K := K) (by rfl) rfl) (by rfl) b_sum (by decide +kernel) (pa_cons (pe_lc (own := [("_law_pair", 4)]) (g := gName 4) (tt := tYes) (by rfl) nd (pi_listK (K := K) (by rfl) (pv 2)) (blkOk_by (own := [("_law_pair", 4)]) (N := N__law_seams) (sc := defScope s__law_seams) (by decide +kernel)) (fun _ _ _ _ _ => (pg_name (i := 4) nd rfl (by first | exact .inl rfl | exact .inr rfl))) (fun _ _ _ _ _ => pts_nil) (fun _ _ _ _ _ => (pe_ix (ix_tupK (K := K) (by rfl)) (pv 4) pe_int (fun _ _ => rfl)))) pa_nil)) pe_int) pa_nil)))))), ?_⟩
    exact (xs_seq (xs_asg (xe_n (xn_lc (xi_tup (xe_var 1)) (xg_name 3) (by decide) xt_yes (xe_call (xa_cons (xe_var 0) (xa_cons (xe_var 3) xa_nil))))) (xg_name 2))
  (xs_ret (xe_tup (xa_cons (xe_op rvo_mod (xe_cb rco_sum (xa_cons (xe_n (xn_lc (xi_list (xe_var 2)) (xg_name 4) (by decide) xt_yes (xe_op rvo_ixT (xe_var 4) (xe_int _)))) xa_nil)) (xe_int _)) (xa_cons (xe_op rvo_mod (xe_cb rco_sum (xa_cons (xe_n (xn_lc (xi_list (xe_var 2)) (xg_name 4) (by decide) xt_yes (xe_op rvo_ixT (xe_var 4) (xe_int _)))) xa_nil)) (xe_int _)) xa_nil)))))
abbrev s__law_alike : Stmt := topS 41
abbrev N__law_alike : List Str := ["_law_one", "_law_due", "_law_k"]
theorem sc__law_alike : FnScope N__law_alike ["_law_one", "_law_due"] (defScope s__law_alike) := ⟨rfl, rfl, rfl, by decide +kernel, rfl, by decide +kernel, by decide +kernel⟩
theorem bi__law_alike : BindsAt "_law_alike" s__law_alike ["_law_one", "_law_due"] := fun _ _ _ _ _ _ us hl => match us, hl with | [_, _], _ => rfl
set_option maxHeartbeats 2000000 in
theorem okr__law_alike {P : Program} {w : World} {K : PySem.W.Frag} {mg : Str → Option Value} {base : Heap} (A : FnAt K mg "_law_alike" s__law_alike) (b_isinstance : mg "isinstance" = none) (b_tuple : mg "tuple" = none) (b_list : mg "list" = none) (b_len : mg "len" = none) (b_range : mg "range" = none) (b_bool : mg "bool" = none)  : ∀ i : Nat, Has P w K mg base "_law_alike" (0 + i) ["_law_one", "_law_due"] (spF K mg (R__law_alike i))
  | 0 => has_no A bi__law_alike _
  | i + 1 => hasF (N := N__law_alike) A bi__law_alike sc__law_alike fun cdv f A2 outer s H E hr => by
    have h__law_alike := okr__law_alike (P := P) (w := w) (base := base) A (b_isinstance := b_isinstance) (b_tuple := b_tuple) (b_list := b_list) (b_len := b_len) (b_range := b_range) (b_bool := b_bool) i
    have nd := sc__law_alike.nd
    refine ⟨_, (pss_cons (ps_if (PW.pt (pw_and (pt_val (pe_callB (kc_isiT (K := K) (by rfl)) (by rfl) b_isinstance (by decide +kernel) (pa_cons (pv 0) (pa_cons (pe_tup (pa_cons (pe_bltn (v := .ty "tuple") (by rfl) b_tuple (by decide +kernel) rfl) (pa_cons (pe_bltn (v := .ty "list") (by rfl) b_list (by decide +kernel) rfl) pa_nil))) pa_nil)))) (pw_and1 (pt_val (pe_callB (kc_isiT (K := K) (by rfl)) (by rfl) b_isinstance (by decide +kernel) (pa_cons (pv 1) (pa_cons (pe_tup (pa_cons (pe_bltn (v := .ty "tuple") (by rfl) b_tuple (by decide +kernel) rfl) (pa_cons (pe_bltn (v := .ty "list") (by rfl) b_list (by decide +kernel) rfl) pa_nil))) pa_nil))))))) (pss_cons (ps_if (PW.pt (pw_or (pt_cmpR (op_neK (K := K) (by rfl) (by exact hr.units)) (pe_callB (kc_isi (K := K) (by rfl)) (by rfl) b_isinstance (by decide +kernel) (pa_cons (pv 0) (pa_cons (pe_bltn (v := .ty "tuple") (by rfl) b_tuple (by decide +kernel) rfl) pa_nil))) (pe_callB (kc_isi (K := K) (by rfl)) (by rfl) b_isinstance (by decide +kernel) (pa_cons (pv 1) (pa_cons (pe_bltn (v := .ty "tuple") (by rfl) b_tuple (by decide +kernel) rfl) pa_nil))) (nomark _)) (pw_or1 (pt_cmpR (op_neK (K := K) (by rfl) (by exact hr.units)) (pe_callB (kc_len (K := K) (by rfl)) (by rfl) b_len (by decide +kernel) (pa_cons (pv 0) pa_nil)) (pe_callB (kc_len (K := K) (by rfl)) (by rfl) b_len (by decide +kernel) (pa_cons (pv 1) pa_nil)) (nomark _))))) (pss_one (ps_ret pe_bl)) pss_nil)
    (pss_one (ps_ret (pe_cmpR (op_eqK (K := K) (by rfl) (by exact hr.units)) (pe_lc (own := [("_law_k", 2)]) (g := gName 2) (by rfl) nd (pi_range1 (by rfl) b_range (pa_cons (pe_callB (kc_len (K := K) (by rfl)) (by rfl) b_len (by decide +kernel) (pa_cons (pv 0) pa_nil)) pa_nil)) (blkOk_by (own := [("_law_k", 2)]) (N := N__law_alike) (sc := defScope s__law_alike) (by decide +kernel)) (fun _ _ _ _ _ => (pg_name (i := 2) nd rfl (by first | exact .inl rfl | exact .inr rfl))) (fun _ _ _ _ _ => (pts_one (pt_not (pt_val (ca h__law_alike hr (by rfl) (pa_cons (pe_ix (ix_orK (K := K) (by rfl)) (pv 0) (pv 2) (fun _ _ => rfl)) (pa_cons (pe_ix (ix_orK (K := K) (by rfl)) (pv 1) (pv 2) (fun _ _ => rfl)) pa_nil))))))) (fun _ _ _ _ _ => (pv 2))) (pe_lst pa_nil) (nomark _))))) pss_nil)
    (pss_one (ps_ret (pe_and (pe_cmpR (op_eqK (K := K) (by rfl) (by exact hr.units)) (pv 0) (pv 1) (nomark _)) (pe_one (pe_cmpR (op_eqK (K := K) (by rfl) (by exact hr.units)) (pe_callB (kc_isi (K := K) (by rfl)) (by rfl) b_isinstance (by decide +kernel) (pa_cons (pv 0) (pa_cons (pe_bltn (v := .ty "bool") (by rfl) b_bool (by decide +kernel) rfl) pa_nil))) (pe_callB (kc_isi (K := K) (by rfl)) (by rfl) b_isinstance (by decide +kernel) (pa_cons (pv 1) (pa_cons (pe_bltn (v := .ty "bool") (by rfl) b_bool (by decide +kernel) rfl) pa_nil))) (nomark _))))))), ?_⟩
    exact (xs_seq (xs_if (xt_and (xt_B (xe_isiTL (xe_var 0))) (xt_B (xe_isiTL (xe_var 1)))) (xs_seq (xs_if (xt_or (xt_test (xe_op rvo_ne (xe_isi (xe_var 0)) (xe_isi (xe_var 1)))) (xt_test (xe_op rvo_ne (xe_cb rco_len (xa_cons (xe_var 0) xa_nil)) (xe_cb rco_len (xa_cons (xe_var 1) xa_nil))))) (xs_ret (xe_bl _)) xs_next)
  (xs_ret (xe_op rvo_eq (xe_n (xn_lc (xi_rng1 (xa_cons (xe_cb rco_len (xa_cons (xe_var 0) xa_nil)) xa_nil)) (xg_name 2) (by decide) (xt_not (xt_B (xe_call (xa_cons (xe_op rvo_ixO (xe_var 0) (xe_var 2)) (xa_cons (xe_op rvo_ixO (xe_var 1) (xe_var 2)) xa_nil))))) (xe_var 2))) (xe_n (xn_lst xa_nil))))) xs_next)
  (xs_ret (xe_andV (xe_op rvo_eq (xe_var 0) (xe_var 1)) (xe_op rvo_eq (xe_isi (xe_var 0)) (xe_isi (xe_var 1))))))
theorem ok__law_alike {P : Program} {w : World} {K : PySem.W.Frag} {mg : Str → Option Value} {base : Heap} (A : FnAt K mg "_law_alike" s__law_alike) (b_isinstance : mg "isinstance" = none) (b_tuple : mg "tuple" = none) (b_list : mg "list" = none) (b_len : mg "len" = none) (b_range : mg "range" = none) (b_bool : mg "bool" = none)  : Has P w K mg base "_law_alike" 7 ["_law_one", "_law_due"] (spF K mg F__law_alike) := okr__law_alike A (b_isinstance := b_isinstance) (b_tuple := b_tuple) (b_list := b_list) (b_len := b_len) (b_range := b_range) (b_bool := b_bool) 7
abbrev s_is_whole : Stmt := topS 10
abbrev N_is_whole : List Str := ["thing"]
theorem sc_is_whole : FnScope N_is_whole ["thing"] (defScope s_is_whole) := ⟨rfl, rfl, rfl, by decide +kernel, rfl, by decide +kernel, by decide +kernel⟩
theorem bi_is_whole : BindsAt "is_whole" s_is_whole ["thing"] := fun _ _ _ _ _ _ us hl => match us, hl with | [_], _ => rfl
set_option maxHeartbeats 2000000 in
theorem ok_is_whole {P : Program} {w : World} {K : PySem.W.Frag} {mg : Str → Option Value} {base : Heap} (A : FnAt K mg "is_whole" s_is_whole) (b_isinstance : mg "isinstance" = none) (b_int : mg "int" = none) (b_bool : mg "bool" = none)  : Has P w K mg base "is_whole" 1 ["thing"] (spF K mg F_is_whole) :=
  hasF (N := N_is_whole) A bi_is_whole sc_is_whole fun cdv f A outer s H E hr => by
    have nd := sc_is_whole.nd
    refine ⟨_, (pss_one (ps_ret (pe_and (pe_callB (kc_isi (K := K) (by rfl)) (by rfl) b_isinstance (by decide +kernel) (pa_cons (pv 0) (pa_cons (pe_bltn (v := .ty "int") (by rfl) b_int (by decide +kernel) rfl) pa_nil))) (pe_one (pe_not (pe_callB (kc_isi (K := K) (by rfl)) (by rfl) b_isinstance (by decide +kernel) (pa_cons (pv 0) (pa_cons (pe_bltn (v := .ty "bool") (by rfl) b_bool (by decide +kernel) rfl) pa_nil)))))))), ?_⟩
    exact (xs_ret (xe_andV (xe_isi (xe_var 0)) (xe_notV (xe_isi (xe_var 0)))))
abbrev s_is_side : Stmt := topS 11
abbrev N_is_side : List Str := ["thing"]
theorem sc_is_side : FnScope N_is_side ["thing"] (defScope s_is_side) := ⟨rfl, rfl, rfl, by decide +kernel, rfl, by decide +kernel, by decide +kernel⟩
theorem bi_is_side : BindsAt "is_side" s_is_side ["thing"] := fun _ _ _ _ _ _ us hl => match us, hl with | [_], _ => rfl
set_option maxHeartbeats 2000000 in
theorem ok_is_side {P : Program} {w : World} {K : PySem.W.Frag} {mg : Str → Option Value} {base : Heap} (A : FnAt K mg "is_side" s_is_side)  {q_LEAST_SIDE : Tok} (m_LEAST_SIDE : mg "LEAST_SIDE" = some (.int 2 q_LEAST_SIDE)) {q_MOST_SIDE : Tok} (m_MOST_SIDE : mg "MOST_SIDE" = some (.int 5 q_MOST_SIDE)) (h_is_whole : Has P w K mg base "is_whole" 1 ["thing"] (spF K mg F_is_whole)) : Has P w K mg base "is_side" 2 ["thing"] (spF K mg F_is_side) :=
  hasF (N := N_is_side) A bi_is_side sc_is_side fun cdv f A outer s H E hr => by
    have nd := sc_is_side.nd
    refine ⟨_, (pss_one (ps_ret (pe_and (ca h_is_whole hr (by rfl) (pa_cons (pv 0) pa_nil)) (pe_one (pe_chain op_le op_le (pe_glob (v := .int 2) (by rfl) m_LEAST_SIDE ⟨_, rfl⟩) (pv 0) (pe_glob (v := .int 5) (by rfl) m_MOST_SIDE ⟨_, rfl⟩)))))), ?_⟩
    exact (xs_ret (xe_andV (xe_call (xa_cons (xe_var 0) xa_nil)) (xe_chain (rvo_B _) (rvo_B _) (xe_int 2) (xe_var 0) (xe_int 5))))
abbrev s_require_board : Stmt := topS 12
abbrev N_require_board : List Str := ["board"]
theorem sc_require_board : FnScope N_require_board ["board"] (defScope s_require_board) := ⟨rfl, rfl, rfl, by decide +kernel, rfl, by decide +kernel, by decide +kernel⟩
theorem bi_require_board : BindsAt "require_board" s_require_board ["board"] := fun _ _ _ _ _ _ us hl => match us, hl with | [_], _ => rfl
set_option maxHeartbeats 2000000 in
theorem ok_require_board {P : Program} {w : World} {K : PySem.W.Frag} {mg : Str → Option Value} {base : Heap} (A : FnAt K mg "require_board" s_require_board) (b_isinstance : mg "isinstance" = none) (b_tuple : mg "tuple" = none) (b_len : mg "len" = none)  (h_is_side : Has P w K mg base "is_side" 2 ["thing"] (spF K mg F_is_side)) : Has P w K mg base "require_board" 3 ["board"] (spF K mg F_require_board) :=
  hasF (N := N_require_board) A bi_require_board sc_require_board fun cdv f A outer s H E hr => by
    have nd := sc_require_board.nd
    refine ⟨_, (pss_cons (ps_if (PW.pt (pw_or (pt_not (pt_val (pe_callB (kc_isi (K := K) (by rfl)) (by rfl) b_isinstance (by decide +kernel) (pa_cons (pv 0) (pa_cons (pe_bltn (v := .ty "tuple") (by rfl) b_tuple (by decide +kernel) rfl) pa_nil))))) (pw_or1 (pt_cmpR (op_neK (K := K) (by rfl) (by exact hr.units)) (pe_callB (kc_len (K := K) (by rfl)) (by rfl) b_len (by decide +kernel) (pa_cons (pv 0) pa_nil)) pe_int (nomark _))))) (pss_one ps_never) pss_nil)
    (pss_one (ps_if (PW.pt (pw_or (pt_not (pt_val (ca h_is_side hr (by rfl) (pa_cons (pe_ix (ix_tupK (K := K) (by rfl)) (pv 0) pe_int (fun _ _ => rfl)) pa_nil)))) (pw_or1 (pt_not (pt_val (ca h_is_side hr (by rfl) (pa_cons (pe_ix (ix_tupK (K := K) (by rfl)) (pv 0) pe_int (fun _ _ => rfl)) pa_nil))))))) (pss_one ps_never) pss_nil))), ?_⟩
    exact (xs_seq (xs_if (xt_or (xt_not (xt_B (xe_isi (xe_var 0)))) (xt_test (xe_op rvo_ne (xe_cb rco_len (xa_cons (xe_var 0) xa_nil)) (xe_int _)))) xs_never xs_next)
  (xs_if (xt_or (xt_not (xt_B (xe_call (xa_cons (xe_op rvo_ixT (xe_var 0) (xe_int _)) xa_nil)))) (xt_not (xt_B (xe_call (xa_cons (xe_op rvo_ixT (xe_var 0) (xe_int _)) xa_nil))))) xs_never xs_next))
abbrev s_first_misplaced : Stmt := topS 13
abbrev N_first_misplaced : List Str := ["things", "many", "lowest", "place", "thing"]
theorem sc_first_misplaced : FnScope N_first_misplaced ["things", "many"] (defScope s_first_misplaced) := ⟨rfl, rfl, rfl, by decide +kernel, rfl, by decide +kernel, by decide +kernel⟩
theorem bi_first_misplaced : BindsAt "first_misplaced" s_first_misplaced ["things", "many"] := fun _ _ _ _ _ _ us hl => match us, hl with | [_, _], _ => rfl
set_option maxHeartbeats 2000000 in
theorem ok_first_misplaced {P : Program} {w : World} {K : PySem.W.Frag} {mg : Str → Option Value} {base : Heap} (A : FnAt K mg "first_misplaced" s_first_misplaced) (b_isinstance : mg "isinstance" = none) (b_tuple : mg "tuple" = none) (b_enumerate : mg "enumerate" = none)  (h_is_whole : Has P w K mg base "is_whole" 1 ["thing"] (spF K mg F_is_whole)) : Has P w K mg base "first_misplaced" 2 ["things", "many"] (spF K mg F_first_misplaced) :=
  hasF (N := N_first_misplaced) A bi_first_misplaced sc_first_misplaced fun cdv f A outer s H E hr => by
    have nd := sc_first_misplaced.nd
    refine ⟨_, (pss_cons (ps_if (pt_not (pt_val (pe_callB (kc_isi (K := K) (by rfl)) (by rfl) b_isinstance (by decide +kernel) (pa_cons (pv 0) (pa_cons (pe_bltn (v := .ty "tuple") (by rfl) b_tuple (by decide +kernel) rfl) pa_nil))))) (pss_one (ps_ret pe_int)) pss_nil)
    (pss_cons (ps_set (i := 2) nd rfl (by first | exact .inl rfl | exact .inr rfl) pe_int)
    (pss_cons (ps_for PassesOwn.never rfl (pi_enumTK (K := K) (by rfl) (by rfl) b_enumerate (pa_cons (pv 0) pa_nil)) (pg_tup (by rfl) (pgs_cons (pg_name (i := 3) nd rfl (by first | exact .inl rfl | exact .inr rfl)) (pgs_cons (pg_name (i := 4) nd rfl (by first | exact .inl rfl | exact .inr rfl)) pgs_nil))) (pss_cons (ps_if (PW.pt (pw_or (pt_not (pt_val (ca h_is_whole hr (by rfl) (pa_cons (pv 4) pa_nil)))) (pw_or (pt_cmpR op_lt (pv 4) (pv 2) (nomark _)) (pw_or1 (pt_cmpR op_ge (pv 4) (pv 1) (nomark _)))))) (pss_one (ps_ret (pv 3))) pss_nil)
    (pss_one (ps_set (i := 2) nd rfl (by first | exact .inl rfl | exact .inr rfl) (pe_op op_add (pv 4) pe_int)))))
    (pss_one (ps_ret pe_non))))), ?_⟩
    exact (xs_seq (xs_if (xt_not (xt_B (xe_isi (xe_var 0)))) (xs_ret (xe_int _)) xs_next)
  (xs_seq (xs_asg (xe_int _) (xg_name 2))
  (xs_seq (xs_for (xi_enumT (xe_var 0)) (xg_tup (K := K) (n := 2) (xgs_cons (xg_name 3) (xgs_cons (xg_name 4) xgs_nil))) (xs_seq (xs_if (xt_or (xt_not (xt_B (xe_call (xa_cons (xe_var 4) xa_nil)))) (xt_or (xt_test (xe_op (rvo_B _) (xe_var 4) (xe_var 2))) (xt_test (xe_op (rvo_B _) (xe_var 4) (xe_var 1))))) (xs_ret (xe_var 3)) xs_next)
  (xs_asg (xe_op (rvo_I _) (xe_var 4) (xe_int _)) (xg_name 2))))
  (xs_ret xe_non))))
abbrev s_site_count : Stmt := topS 15
abbrev N_site_count : List Str := ["board"]
theorem sc_site_count : FnScope N_site_count ["board"] (defScope s_site_count) := ⟨rfl, rfl, rfl, by decide +kernel, rfl, by decide +kernel, by decide +kernel⟩
theorem bi_site_count : BindsAt "site_count" s_site_count ["board"] := fun _ _ _ _ _ _ us hl => match us, hl with | [_], _ => rfl
set_option maxHeartbeats 2000000 in
theorem ok_site_count {P : Program} {w : World} {K : PySem.W.Frag} {mg : Str → Option Value} {base : Heap} (A : FnAt K mg "site_count" s_site_count)   : Has P w K mg base "site_count" 1 ["board"] (spF K mg F_site_count) :=
  hasF (N := N_site_count) A bi_site_count sc_site_count fun cdv f A outer s H E hr => by
    have nd := sc_site_count.nd
    refine ⟨_, (pss_one (ps_ret (pe_op op_mul (pe_ix (ix_tupK (K := K) (by rfl)) (pv 0) pe_int (fun _ _ => rfl)) (pe_ix (ix_tupK (K := K) (by rfl)) (pv 0) pe_int (fun _ _ => rfl))))), ?_⟩
    exact (xs_ret (xe_op rvo_mul (xe_op rvo_ixT (xe_var 0) (xe_int _)) (xe_op rvo_ixT (xe_var 0) (xe_int _))))
abbrev s_is_lit : Stmt := topS 31
abbrev N_is_lit : List Str := ["board", "thing"]
theorem sc_is_lit : FnScope N_is_lit ["board", "thing"] (defScope s_is_lit) := ⟨rfl, rfl, rfl, by decide +kernel, rfl, by decide +kernel, by decide +kernel⟩
theorem bi_is_lit : BindsAt "is_lit" s_is_lit ["board", "thing"] := fun _ _ _ _ _ _ us hl => match us, hl with | [_, _], _ => rfl
set_option maxHeartbeats 2000000 in
theorem ok_is_lit {P : Program} {w : World} {K : PySem.W.Frag} {mg : Str → Option Value} {base : Heap} (A : FnAt K mg "is_lit" s_is_lit)   (h_first_misplaced : Has P w K mg base "first_misplaced" 2 ["things", "many"] (spF K mg F_first_misplaced)) (h_site_count : Has P w K mg base "site_count" 1 ["board"] (spF K mg F_site_count)) : Has P w K mg base "is_lit" 3 ["board", "thing"] (spF K mg F_is_lit) :=
  hasF (N := N_is_lit) A bi_is_lit sc_is_lit fun cdv f A outer s H E hr => by
    have nd := sc_is_lit.nd
    refine ⟨_, (pss_one (ps_ret (pe_cmpR op_isN (ca h_first_misplaced hr (by rfl) (pa_cons (pv 1) (pa_cons (ca h_site_count (hr.mono (by decide)) (by rfl) (pa_cons (pv 0) pa_nil)) pa_nil))) pe_non (nomark _)))), ?_⟩
    exact (xs_ret (xe_op rvo_isN (xe_call (xa_cons (xe_var 1) (xa_cons (xe_call (xa_cons (xe_var 0) xa_nil)) xa_nil))) xe_non))
abbrev s_first_bad_beat : Stmt := topS 32
abbrev N_first_bad_beat : List Str := ["board", "told", "number", "lit"]
theorem sc_first_bad_beat : FnScope N_first_bad_beat ["board", "told"] (defScope s_first_bad_beat) := ⟨rfl, rfl, rfl, by decide +kernel, rfl, by decide +kernel, by decide +kernel⟩
theorem bi_first_bad_beat : BindsAt "first_bad_beat" s_first_bad_beat ["board", "told"] := fun _ _ _ _ _ _ us hl => match us, hl with | [_, _], _ => rfl
set_option maxHeartbeats 2000000 in
theorem ok_first_bad_beat {P : Program} {w : World} {K : PySem.W.Frag} {mg : Str → Option Value} {base : Heap} (A : FnAt K mg "first_bad_beat" s_first_bad_beat) (b_isinstance : mg "isinstance" = none) (b_tuple : mg "tuple" = none) (b_len : mg "len" = none) (b_enumerate : mg "enumerate" = none) {q_MOST_BEATS : Tok} (m_MOST_BEATS : mg "MOST_BEATS" = some (.int 5 q_MOST_BEATS)) (h_is_lit : Has P w K mg base "is_lit" 3 ["board", "thing"] (spF K mg F_is_lit)) : Has P w K mg base "first_bad_beat" 4 ["board", "told"] (spF K mg F_first_bad_beat) :=
  hasF (N := N_first_bad_beat) A bi_first_bad_beat sc_first_bad_beat fun cdv f A outer s H E hr => by
    have nd := sc_first_bad_beat.nd
    refine ⟨_, (pss_cons (ps_if (PW.pt (pw_or (pt_not (pt_val (pe_callB (kc_isi (K := K) (by rfl)) (by rfl) b_isinstance (by decide +kernel) (pa_cons (pv 1) (pa_cons (pe_bltn (v := .ty "tuple") (by rfl) b_tuple (by decide +kernel) rfl) pa_nil))))) (pw_or1 (pt_cmpR (op_eqK (K := K) (by rfl) (by exact hr.units)) (pe_callB (kc_len (K := K) (by rfl)) (by rfl) b_len (by decide +kernel) (pa_cons (pv 1) pa_nil)) pe_int (nomark _))))) (pss_one (ps_ret pe_int)) pss_nil)
    (pss_cons (ps_for PassesOwn.never rfl (pi_enumTK (K := K) (by rfl) (by rfl) b_enumerate (pa_cons (pv 1) pa_nil)) (pg_tup (by rfl) (pgs_cons (pg_name (i := 2) nd rfl (by first | exact .inl rfl | exact .inr rfl)) (pgs_cons (pg_name (i := 3) nd rfl (by first | exact .inl rfl | exact .inr rfl)) pgs_nil))) (pss_one (ps_if (PW.pt (pw_or (pt_cmpR (op_eqK (K := K) (by rfl) (by exact hr.units)) (pv 2) (pe_glob (v := .int 5) (by rfl) m_MOST_BEATS ⟨_, rfl⟩) (nomark _)) (pw_or1 (pt_not (pt_val (ca h_is_lit hr (by rfl) (pa_cons (pv 0) (pa_cons (pv 3) pa_nil)))))))) (pss_one (ps_ret (pv 2))) pss_nil)))
    (pss_cons (ps_if (pt_cmpR (op_eqK (K := K) (by rfl) (by exact hr.units)) (pe_op op_mod (pe_callB (kc_len (K := K) (by rfl)) (by rfl) b_len (by decide +kernel) (pa_cons (pe_ix (ix_tupK (K := K) (by rfl)) (pv 1) (pe_un un_neg pe_int) (fun _ _ => rfl)) pa_nil)) pe_int) pe_int (nomark _)) (pss_one (ps_ret (pe_op op_sub (pe_callB (kc_len (K := K) (by rfl)) (by rfl) b_len (by decide +kernel) (pa_cons (pv 1) pa_nil)) pe_int))) pss_nil)
    (pss_one (ps_ret pe_non))))), ?_⟩
    exact (xs_seq (xs_if (xt_or (xt_not (xt_B (xe_isi (xe_var 1)))) (xt_test (xe_op rvo_eq (xe_cb rco_len (xa_cons (xe_var 1) xa_nil)) (xe_int _)))) (xs_ret (xe_int _)) xs_next)
  (xs_seq (xs_for (xi_enumT (xe_var 1)) (xg_tup (K := K) (n := 2) (xgs_cons (xg_name 2) (xgs_cons (xg_name 3) xgs_nil))) (xs_if (xt_or (xt_test (xe_op rvo_eq (xe_var 2) (xe_int 5))) (xt_not (xt_B (xe_call (xa_cons (xe_var 0) (xa_cons (xe_var 3) xa_nil)))))) (xs_ret (xe_var 2)) xs_next))
  (xs_seq (xs_if (xt_test (xe_op rvo_eq (xe_op rvo_mod (xe_cb rco_len (xa_cons (xe_op rvo_ixT (xe_var 1) (xe_un ruo_neg (xe_int _))) xa_nil)) (xe_int _)) (xe_int _))) (xs_ret (xe_op (rvo_I _) (xe_cb rco_len (xa_cons (xe_var 1) xa_nil)) (xe_int _))) xs_next)
  (xs_ret xe_non))))
abbrev s_require_told : Stmt := topS 33
abbrev N_require_told : List Str := ["board", "told", "number"]
theorem sc_require_told : FnScope N_require_told ["board", "told"] (defScope s_require_told) := ⟨rfl, rfl, rfl, by decide +kernel, rfl, by decide +kernel, by decide +kernel⟩
theorem bi_require_told : BindsAt "require_told" s_require_told ["board", "told"] := fun _ _ _ _ _ _ us hl => match us, hl with | [_, _], _ => rfl
set_option maxHeartbeats 2000000 in
theorem ok_require_told {P : Program} {w : World} {K : PySem.W.Frag} {mg : Str → Option Value} {base : Heap} (A : FnAt K mg "require_told" s_require_told)   (h_first_bad_beat : Has P w K mg base "first_bad_beat" 4 ["board", "told"] (spF K mg F_first_bad_beat)) : Has P w K mg base "require_told" 5 ["board", "told"] (spF K mg F_require_told) :=
  hasF (N := N_require_told) A bi_require_told sc_require_told fun cdv f A outer s H E hr => by
    have nd := sc_require_told.nd
    refine ⟨_, (pss_cons (ps_set (i := 2) nd rfl (by first | exact .inl rfl | exact .inr rfl) (ca h_first_bad_beat hr (by rfl) (pa_cons (pv 0) (pa_cons (pv 1) pa_nil))))
    (pss_one (ps_if (pt_cmpR op_notN (pv 2) pe_non (nomark _)) (pss_one ps_never) pss_nil))), ?_⟩
    exact (xs_seq (xs_asg (xe_call (xa_cons (xe_var 0) (xa_cons (xe_var 1) xa_nil))) (xg_name 2))
  (xs_if (xt_test (xe_op rvo_notN (xe_var 2) xe_non)) xs_never xs_next))
abbrev s_edge_count : Stmt := topS 16
abbrev N_edge_count : List Str := ["board"]
theorem sc_edge_count : FnScope N_edge_count ["board"] (defScope s_edge_count) := ⟨rfl, rfl, rfl, by decide +kernel, rfl, by decide +kernel, by decide +kernel⟩
theorem bi_edge_count : BindsAt "edge_count" s_edge_count ["board"] := fun _ _ _ _ _ _ us hl => match us, hl with | [_], _ => rfl
set_option maxHeartbeats 2000000 in
theorem ok_edge_count {P : Program} {w : World} {K : PySem.W.Frag} {mg : Str → Option Value} {base : Heap} (A : FnAt K mg "edge_count" s_edge_count)   (h_site_count : Has P w K mg base "site_count" 1 ["board"] (spF K mg F_site_count)) : Has P w K mg base "edge_count" 2 ["board"] (spF K mg F_edge_count) :=
  hasF (N := N_edge_count) A bi_edge_count sc_edge_count fun cdv f A outer s H E hr => by
    have nd := sc_edge_count.nd
    refine ⟨_, (pss_one (ps_ret (pe_op op_mul pe_int (ca h_site_count hr (by rfl) (pa_cons (pv 0) pa_nil))))), ?_⟩
    exact (xs_ret (xe_op rvo_mul (xe_int _) (xe_call (xa_cons (xe_var 0) xa_nil))))
abbrev s_is_pair : Stmt := topS 34
abbrev N_is_pair : List Str := ["board", "thing"]
theorem sc_is_pair : FnScope N_is_pair ["board", "thing"] (defScope s_is_pair) := ⟨rfl, rfl, rfl, by decide +kernel, rfl, by decide +kernel, by decide +kernel⟩
theorem bi_is_pair : BindsAt "is_pair" s_is_pair ["board", "thing"] := fun _ _ _ _ _ _ us hl => match us, hl with | [_, _], _ => rfl
set_option maxHeartbeats 2000000 in
theorem ok_is_pair {P : Program} {w : World} {K : PySem.W.Frag} {mg : Str → Option Value} {base : Heap} (A : FnAt K mg "is_pair" s_is_pair) (b_isinstance : mg "isinstance" = none) (b_tuple : mg "tuple" = none) (b_len : mg "len" = none)  (h_is_lit : Has P w K mg base "is_lit" 3 ["board", "thing"] (spF K mg F_is_lit)) (h_first_misplaced : Has P w K mg base "first_misplaced" 2 ["things", "many"] (spF K mg F_first_misplaced)) (h_edge_count : Has P w K mg base "edge_count" 2 ["board"] (spF K mg F_edge_count)) : Has P w K mg base "is_pair" 4 ["board", "thing"] (spF K mg F_is_pair) :=
  hasF (N := N_is_pair) A bi_is_pair sc_is_pair fun cdv f A outer s H E hr => by
    have nd := sc_is_pair.nd
    refine ⟨_, (pss_cons (ps_if (PW.pt (pw_or (pt_not (pt_val (pe_callB (kc_isi (K := K) (by rfl)) (by rfl) b_isinstance (by decide +kernel) (pa_cons (pv 1) (pa_cons (pe_bltn (v := .ty "tuple") (by rfl) b_tuple (by decide +kernel) rfl) pa_nil))))) (pw_or1 (pt_cmpR (op_neK (K := K) (by rfl) (by exact hr.units)) (pe_callB (kc_len (K := K) (by rfl)) (by rfl) b_len (by decide +kernel) (pa_cons (pv 1) pa_nil)) pe_int (nomark _))))) (pss_one (ps_ret pe_bl)) pss_nil)
    (pss_one (ps_ret (pe_and (pe_cmpR op_isN (ca h_first_misplaced (hr.mono (by decide)) (by rfl) (pa_cons (pe_ix (ix_tupK (K := K) (by rfl)) (pv 1) pe_int (fun _ _ => rfl)) (pa_cons (ca h_edge_count (hr.mono (by decide)) (by rfl) (pa_cons (pv 0) pa_nil)) pa_nil))) pe_non (nomark _)) (pe_one (ca h_is_lit hr (by rfl) (pa_cons (pv 0) (pa_cons (pe_ix (ix_tupK (K := K) (by rfl)) (pv 1) pe_int (fun _ _ => rfl)) pa_nil)))))))), ?_⟩
    exact (xs_seq (xs_if (xt_or (xt_not (xt_B (xe_isi (xe_var 1)))) (xt_test (xe_op rvo_ne (xe_cb rco_len (xa_cons (xe_var 1) xa_nil)) (xe_int _)))) (xs_ret (xe_bl _)) xs_next)
  (xs_ret (xe_andV (xe_op rvo_isN (xe_call (xa_cons (xe_op rvo_ixT (xe_var 1) (xe_int _)) (xa_cons (xe_call (xa_cons (xe_var 0) xa_nil)) xa_nil))) xe_non) (xe_call (xa_cons (xe_var 0) (xa_cons (xe_op rvo_ixT (xe_var 1) (xe_int _)) xa_nil))))))
abbrev s_first_bad_pair : Stmt := topS 35
abbrev N_first_bad_pair : List Str := ["board", "story", "many", "number", "pair"]
theorem sc_first_bad_pair : FnScope N_first_bad_pair ["board", "story", "many"] (defScope s_first_bad_pair) := ⟨rfl, rfl, rfl, by decide +kernel, rfl, by decide +kernel, by decide +kernel⟩
theorem bi_first_bad_pair : BindsAt "first_bad_pair" s_first_bad_pair ["board", "story", "many"] := fun _ _ _ _ _ _ us hl => match us, hl with | [_, _, _], _ => rfl
set_option maxHeartbeats 2000000 in
theorem ok_first_bad_pair {P : Program} {w : World} {K : PySem.W.Frag} {mg : Str → Option Value} {base : Heap} (A : FnAt K mg "first_bad_pair" s_first_bad_pair) (b_isinstance : mg "isinstance" = none) (b_list : mg "list" = none) (b_enumerate : mg "enumerate" = none) (b_len : mg "len" = none)  (h_is_pair : Has P w K mg base "is_pair" 4 ["board", "thing"] (spF K mg F_is_pair)) : Has P w K mg base "first_bad_pair" 5 ["board", "story", "many"] (spF K mg F_first_bad_pair) :=
  hasF (N := N_first_bad_pair) A bi_first_bad_pair sc_first_bad_pair fun cdv f A outer s H E hr => by
    have nd := sc_first_bad_pair.nd
    refine ⟨_, (pss_cons (ps_if (pt_not (pt_val (pe_callB (kc_isi (K := K) (by rfl)) (by rfl) b_isinstance (by decide +kernel) (pa_cons (pv 1) (pa_cons (pe_bltn (v := .ty "list") (by rfl) b_list (by decide +kernel) rfl) pa_nil))))) (pss_one (ps_ret pe_int)) pss_nil)
    (pss_cons (ps_for PassesOwn.never rfl (pi_enumK (K := K) (by rfl) (by rfl) b_enumerate (pa_cons (pv 1) pa_nil)) (pg_tup (by rfl) (pgs_cons (pg_name (i := 3) nd rfl (by first | exact .inl rfl | exact .inr rfl)) (pgs_cons (pg_name (i := 4) nd rfl (by first | exact .inl rfl | exact .inr rfl)) pgs_nil))) (pss_one (ps_if (PW.pt (pw_or (pt_cmpR (op_eqK (K := K) (by rfl) (by exact hr.units)) (pv 3) (pv 2) (nomark _)) (pw_or1 (pt_not (pt_val (ca h_is_pair hr (by rfl) (pa_cons (pv 0) (pa_cons (pv 4) pa_nil)))))))) (pss_one (ps_ret (pv 3))) pss_nil)))
    (pss_cons (ps_if (pt_cmpR op_lt (pe_callB (kc_len (K := K) (by rfl)) (by rfl) b_len (by decide +kernel) (pa_cons (pv 1) pa_nil)) (pv 2) (nomark _)) (pss_one (ps_ret (pe_callB (kc_len (K := K) (by rfl)) (by rfl) b_len (by decide +kernel) (pa_cons (pv 1) pa_nil)))) pss_nil)
    (pss_one (ps_ret pe_non))))), ?_⟩
    exact (xs_seq (xs_if (xt_not (xt_B (xe_isi (xe_var 1)))) (xs_ret (xe_int _)) xs_next)
  (xs_seq (xs_for (xi_enum (xe_var 1)) (xg_tup (K := K) (n := 2) (xgs_cons (xg_name 3) (xgs_cons (xg_name 4) xgs_nil))) (xs_if (xt_or (xt_test (xe_op rvo_eq (xe_var 3) (xe_var 2))) (xt_not (xt_B (xe_call (xa_cons (xe_var 0) (xa_cons (xe_var 4) xa_nil)))))) (xs_ret (xe_var 3)) xs_next))
  (xs_seq (xs_if (xt_test (xe_op (rvo_B _) (xe_cb rco_len (xa_cons (xe_var 1) xa_nil)) (xe_var 2))) (xs_ret (xe_cb rco_len (xa_cons (xe_var 1) xa_nil))) xs_next)
  (xs_ret xe_non))))
abbrev s_require_story : Stmt := topS 36
abbrev N_require_story : List Str := ["board", "story", "many", "number"]
theorem sc_require_story : FnScope N_require_story ["board", "story", "many"] (defScope s_require_story) := ⟨rfl, rfl, rfl, by decide +kernel, rfl, by decide +kernel, by decide +kernel⟩
theorem bi_require_story : BindsAt "require_story" s_require_story ["board", "story", "many"] := fun _ _ _ _ _ _ us hl => match us, hl with | [_, _, _], _ => rfl
set_option maxHeartbeats 2000000 in
theorem ok_require_story {P : Program} {w : World} {K : PySem.W.Frag} {mg : Str → Option Value} {base : Heap} (A : FnAt K mg "require_story" s_require_story)   (h_first_bad_pair : Has P w K mg base "first_bad_pair" 5 ["board", "story", "many"] (spF K mg F_first_bad_pair)) : Has P w K mg base "require_story" 6 ["board", "story", "many"] (spF K mg F_require_story) :=
  hasF (N := N_require_story) A bi_require_story sc_require_story fun cdv f A outer s H E hr => by
    have nd := sc_require_story.nd
    refine ⟨_, (pss_cons (ps_set (i := 3) nd rfl (by first | exact .inl rfl | exact .inr rfl) (ca h_first_bad_pair hr (by rfl) (pa_cons (pv 0) (pa_cons (pv 1) (pa_cons (pv 2) pa_nil)))))
    (pss_one (ps_if (pt_cmpR op_notN (pv 3) pe_non (nomark _)) (pss_one ps_never) pss_nil))), ?_⟩
    exact (xs_seq (xs_asg (xe_call (xa_cons (xe_var 0) (xa_cons (xe_var 1) (xa_cons (xe_var 2) xa_nil)))) (xg_name 3))
  (xs_if (xt_test (xe_op rvo_notN (xe_var 3) xe_non)) xs_never xs_next))
abbrev s_require_count : Stmt := topS 37
abbrev N_require_count : List Str := ["count"]
theorem sc_require_count : FnScope N_require_count ["count"] (defScope s_require_count) := ⟨rfl, rfl, rfl, by decide +kernel, rfl, by decide +kernel, by decide +kernel⟩
theorem bi_require_count : BindsAt "require_count" s_require_count ["count"] := fun _ _ _ _ _ _ us hl => match us, hl with | [_], _ => rfl
set_option maxHeartbeats 2000000 in
theorem ok_require_count {P : Program} {w : World} {K : PySem.W.Frag} {mg : Str → Option Value} {base : Heap} (A : FnAt K mg "require_count" s_require_count)  {q_LEAST_COUNT : Tok} (m_LEAST_COUNT : mg "LEAST_COUNT" = some (.int 1 q_LEAST_COUNT)) {q_MOST_COUNT : Tok} (m_MOST_COUNT : mg "MOST_COUNT" = some (.int 9 q_MOST_COUNT)) (h_is_whole : Has P w K mg base "is_whole" 1 ["thing"] (spF K mg F_is_whole)) : Has P w K mg base "require_count" 2 ["count"] (spF K mg F_require_count) :=
  hasF (N := N_require_count) A bi_require_count sc_require_count fun cdv f A outer s H E hr => by
    have nd := sc_require_count.nd
    refine ⟨_, (pss_one (ps_if (PW.pt (pw_or (pt_not (pt_val (ca h_is_whole hr (by rfl) (pa_cons (pv 0) pa_nil)))) (pw_or1 (pt_not (pt_chain op_le op_le (pe_glob (v := .int 1) (by rfl) m_LEAST_COUNT ⟨_, rfl⟩) (pv 0) (pe_glob (v := .int 9) (by rfl) m_MOST_COUNT ⟨_, rfl⟩)))))) (pss_one ps_never) pss_nil)), ?_⟩
    exact (xs_if (xt_or (xt_not (xt_B (xe_call (xa_cons (xe_var 0) xa_nil)))) (xt_not (xt_test (xe_chain (rvo_B _) (rvo_B _) (xe_int 1) (xe_var 0) (xe_int 9))))) xs_never xs_next)
abbrev s_require_flips : Stmt := topS 14
abbrev N_require_flips : List Str := ["board", "flips", "place"]
theorem sc_require_flips : FnScope N_require_flips ["board", "flips"] (defScope s_require_flips) := ⟨rfl, rfl, rfl, by decide +kernel, rfl, by decide +kernel, by decide +kernel⟩
theorem bi_require_flips : BindsAt "require_flips" s_require_flips ["board", "flips"] := fun _ _ _ _ _ _ us hl => match us, hl with | [_, _], _ => rfl
set_option maxHeartbeats 2000000 in
theorem ok_require_flips {P : Program} {w : World} {K : PySem.W.Frag} {mg : Str → Option Value} {base : Heap} (A : FnAt K mg "require_flips" s_require_flips)   (h_first_misplaced : Has P w K mg base "first_misplaced" 2 ["things", "many"] (spF K mg F_first_misplaced)) (h_edge_count : Has P w K mg base "edge_count" 2 ["board"] (spF K mg F_edge_count)) : Has P w K mg base "require_flips" 3 ["board", "flips"] (spF K mg F_require_flips) :=
  hasF (N := N_require_flips) A bi_require_flips sc_require_flips fun cdv f A outer s H E hr => by
    have nd := sc_require_flips.nd
    refine ⟨_, (pss_cons (ps_set (i := 2) nd rfl (by first | exact .inl rfl | exact .inr rfl) (ca h_first_misplaced hr (by rfl) (pa_cons (pv 1) (pa_cons (ca h_edge_count hr (by rfl) (pa_cons (pv 0) pa_nil)) pa_nil))))
    (pss_one (ps_if (pt_cmpR op_notN (pv 2) pe_non (nomark _)) (pss_one ps_never) pss_nil))), ?_⟩
    exact (xs_seq (xs_asg (xe_call (xa_cons (xe_var 1) (xa_cons (xe_call (xa_cons (xe_var 0) xa_nil)) xa_nil))) (xg_name 2))
  (xs_if (xt_test (xe_op rvo_notN (xe_var 2) xe_non)) xs_never xs_next))
abbrev s_odd_ones : Stmt := topS 23
abbrev N_odd_ones : List Str := ["numbers", "many", "counts", "number", "count"]
theorem sc_odd_ones : FnScope N_odd_ones ["numbers", "many"] (defScope s_odd_ones) := ⟨rfl, rfl, rfl, by decide +kernel, rfl, by decide +kernel, by decide +kernel⟩
theorem bi_odd_ones : BindsAt "odd_ones" s_odd_ones ["numbers", "many"] := fun _ _ _ _ _ _ us hl => match us, hl with | [_, _], _ => rfl
set_option maxHeartbeats 2000000 in
theorem ok_odd_ones {P : Program} {w : World} {K : PySem.W.Frag} {mg : Str → Option Value} {base : Heap} (A : FnAt K mg "odd_ones" s_odd_ones) (b_tuple : mg "tuple" = none) (b_enumerate : mg "enumerate" = none)  : Has P w K mg base "odd_ones" 1 ["numbers", "many"] (spF K mg F_odd_ones) :=
  hasF (N := N_odd_ones) A bi_odd_ones sc_odd_ones fun cdv f A outer s H E hr => by
    have nd := sc_odd_ones.nd
    refine ⟨_, (pss_cons (ps_set (i := 2) nd rfl (by first | exact .inl rfl | exact .inr rfl) (pe_op op_rep (pe_lst (pa_cons pe_int pa_nil)) (pv 1)))
    (pss_cons (ps_for PassesOwn.never rfl (pi_or (pi_listK (K := K) (by rfl) (pv 0)) (pi_tupK (K := K) (by rfl) (pv 0))) (pg_name (i := 3) nd rfl (by first | exact .inl rfl | exact .inr rfl)) (pss_one (ps_augS (pv 2) (pv 3) (get_listK (K := K) (by rfl)) pe_int ip_add set_list)))
    (pss_one (ps_ret (pe_callTy (kc_tup (K := K) (by rfl)) (by rfl) b_tuple (by decide +kernel) (pa_cons (pe_lc (own := [("number", 3), ("count", 4)]) (g := gTup _ 2 (gCons (gName 3) (gCons (gName 4) gNil))) (by rfl) nd (pi_enumK (K := K) (by rfl) (by rfl) b_enumerate (pa_cons (pv 2) pa_nil)) (blkOk_by (own := [("number", 3), ("count", 4)]) (N := N_odd_ones) (sc := defScope s_odd_ones) (by decide +kernel)) (fun _ _ _ _ _ => (pg_tup (by rfl) (pgs_cons (pg_name (i := 3) nd rfl (by first | exact .inl rfl | exact .inr rfl)) (pgs_cons (pg_name (i := 4) nd rfl (by first | exact .inl rfl | exact .inr rfl)) pgs_nil)))) (fun _ _ _ _ _ => (pts_one (pt_cmpR (op_eqK (K := K) (by rfl) (by exact hr.units)) (pe_op op_mod (pv 4) pe_int) pe_int (nomark _)))) (fun _ _ _ _ _ => (pv 3))) pa_nil)))))), ?_⟩
    exact (xs_seq (xs_own 2 (xn_op rvn_rep (xe_n (xn_lst (xa_cons (xe_int _) xa_nil))) (xe_var 1)))
  (xs_seq (xs_for (xi_or (xe_var 0)) (xg_name 3) (xs_augI (xe_var 3) (xe_int _)))
  (xs_fz 2 (xs_ret (xe_cb rco_tup (xa_cons (xe_n (xn_lc (xi_enum (xe_var 2)) (xg_tup (K := K) (n := 2) (xgs_cons (xg_name 3) (xgs_cons (xg_name 4) xgs_nil))) (by decide) (xt_test (xe_op rvo_eq (xe_op rvo_mod (xe_var 4) (xe_int _)) (xe_int _))) (xe_var 3))) xa_nil))))))
abbrev s_after : Stmt := topS 26
abbrev N_after : List Str := ["board", "one", "other"]
theorem sc_after : FnScope N_after ["board", "one", "other"] (defScope s_after) := ⟨rfl, rfl, rfl, by decide +kernel, rfl, by decide +kernel, by decide +kernel⟩
theorem bi_after : BindsAt "after" s_after ["board", "one", "other"] := fun _ _ _ _ _ _ us hl => match us, hl with | [_, _, _], _ => rfl
set_option maxHeartbeats 2000000 in
theorem ok_after {P : Program} {w : World} {K : PySem.W.Frag} {mg : Str → Option Value} {base : Heap} (A : FnAt K mg "after" s_after)   (h_require_board : Has P w K mg base "require_board" 3 ["board"] (spF K mg F_require_board)) (h_require_flips : Has P w K mg base "require_flips" 3 ["board", "flips"] (spF K mg F_require_flips)) (h_odd_ones : Has P w K mg base "odd_ones" 1 ["numbers", "many"] (spF K mg F_odd_ones)) (h_edge_count : Has P w K mg base "edge_count" 2 ["board"] (spF K mg F_edge_count)) : Has P w K mg base "after" 4 ["board", "one", "other"] (spF K mg F_after) :=
  hasF (N := N_after) A bi_after sc_after fun cdv f A outer s H E hr => by
    have nd := sc_after.nd
    refine ⟨_, (pss_cons (ps_expr (ca h_require_board hr (by rfl) (pa_cons (pv 0) pa_nil)))
    (pss_cons (ps_expr (ca h_require_flips hr (by rfl) (pa_cons (pv 0) (pa_cons (pv 1) pa_nil))))
    (pss_cons (ps_expr (ca h_require_flips hr (by rfl) (pa_cons (pv 0) (pa_cons (pv 2) pa_nil))))
    (pss_one (ps_ret (ca h_odd_ones (hr.mono (by decide)) (by rfl) (pa_cons (pe_op (op_catAK (K := K) (by rfl)) (pv 1) (pv 2)) (pa_cons (ca h_edge_count (hr.mono (by decide)) (by rfl) (pa_cons (pv 0) pa_nil)) pa_nil)))))))), ?_⟩
    exact (xs_seq (xs_drop (xe_call (xa_cons (xe_var 0) xa_nil)))
  (xs_seq (xs_drop (xe_call (xa_cons (xe_var 0) (xa_cons (xe_var 1) xa_nil))))
  (xs_seq (xs_drop (xe_call (xa_cons (xe_var 0) (xa_cons (xe_var 2) xa_nil))))
  (xs_ret (xe_call (xa_cons (xe_op rvo_catT (xe_var 1) (xe_var 2)) (xa_cons (xe_call (xa_cons (xe_var 0) xa_nil)) xa_nil)))))))
abbrev s_goes_down : Stmt := topS 19
abbrev N_goes_down : List Str := ["edge"]
theorem sc_goes_down : FnScope N_goes_down ["edge"] (defScope s_goes_down) := ⟨rfl, rfl, rfl, by decide +kernel, rfl, by decide +kernel, by decide +kernel⟩
theorem bi_goes_down : BindsAt "goes_down" s_goes_down ["edge"] := fun _ _ _ _ _ _ us hl => match us, hl with | [_], _ => rfl
set_option maxHeartbeats 2000000 in
theorem ok_goes_down {P : Program} {w : World} {K : PySem.W.Frag} {mg : Str → Option Value} {base : Heap} (A : FnAt K mg "goes_down" s_goes_down)   : Has P w K mg base "goes_down" 1 ["edge"] (spF K mg F_goes_down) :=
  hasF (N := N_goes_down) A bi_goes_down sc_goes_down fun cdv f A outer s H E hr => by
    have nd := sc_goes_down.nd
    refine ⟨_, (pss_one (ps_ret (pe_cmpR (op_eqK (K := K) (by rfl) (by exact hr.units)) (pe_op op_mod (pv 0) pe_int) pe_int (nomark _)))), ?_⟩
    exact (xs_ret (xe_op rvo_eq (xe_op rvo_mod (xe_var 0) (xe_int _)) (xe_int _)))
abbrev s_crosses_first_seam : Stmt := topS 21
abbrev N_crosses_first_seam : List Str := ["board", "edge", "columns"]
theorem sc_crosses_first_seam : FnScope N_crosses_first_seam ["board", "edge"] (defScope s_crosses_first_seam) := ⟨rfl, rfl, rfl, by decide +kernel, rfl, by decide +kernel, by decide +kernel⟩
theorem bi_crosses_first_seam : BindsAt "crosses_first_seam" s_crosses_first_seam ["board", "edge"] := fun _ _ _ _ _ _ us hl => match us, hl with | [_, _], _ => rfl
set_option maxHeartbeats 2000000 in
theorem ok_crosses_first_seam {P : Program} {w : World} {K : PySem.W.Frag} {mg : Str → Option Value} {base : Heap} (A : FnAt K mg "crosses_first_seam" s_crosses_first_seam)   (h_goes_down : Has P w K mg base "goes_down" 1 ["edge"] (spF K mg F_goes_down)) : Has P w K mg base "crosses_first_seam" 2 ["board", "edge"] (spF K mg F_crosses_first_seam) :=
  hasF (N := N_crosses_first_seam) A bi_crosses_first_seam sc_crosses_first_seam fun cdv f A outer s H E hr => by
    have nd := sc_crosses_first_seam.nd
    refine ⟨_, (pss_cons (ps_set (i := 2) nd rfl (by first | exact .inl rfl | exact .inr rfl) (pe_ix (ix_tupK (K := K) (by rfl)) (pv 0) pe_int (fun _ _ => rfl)))
    (pss_one (ps_ret (pe_and (pe_not (ca h_goes_down hr (by rfl) (pa_cons (pv 1) pa_nil))) (pe_one (pe_cmpR (op_eqK (K := K) (by rfl) (by exact hr.units)) (pe_op op_mod (pe_op op_fdiv (pv 1) pe_int) (pv 2)) (pe_op op_sub (pv 2) pe_int) (nomark _))))))), ?_⟩
    exact (xs_seq (xs_asg (xe_op rvo_ixT (xe_var 0) (xe_int _)) (xg_name 2))
  (xs_ret (xe_andV (xe_notV (xe_call (xa_cons (xe_var 1) xa_nil))) (xe_op rvo_eq (xe_op rvo_mod (xe_op rvo_div (xe_var 1) (xe_int _)) (xe_var 2)) (xe_op (rvo_I _) (xe_var 2) (xe_int _))))))
abbrev s_crosses_second_seam : Stmt := topS 22
abbrev N_crosses_second_seam : List Str := ["board", "edge", "rows", "columns"]
theorem sc_crosses_second_seam : FnScope N_crosses_second_seam ["board", "edge"] (defScope s_crosses_second_seam) := ⟨rfl, rfl, rfl, by decide +kernel, rfl, by decide +kernel, by decide +kernel⟩
theorem bi_crosses_second_seam : BindsAt "crosses_second_seam" s_crosses_second_seam ["board", "edge"] := fun _ _ _ _ _ _ us hl => match us, hl with | [_, _], _ => rfl
set_option maxHeartbeats 2000000 in
theorem ok_crosses_second_seam {P : Program} {w : World} {K : PySem.W.Frag} {mg : Str → Option Value} {base : Heap} (A : FnAt K mg "crosses_second_seam" s_crosses_second_seam)   (h_goes_down : Has P w K mg base "goes_down" 1 ["edge"] (spF K mg F_goes_down)) : Has P w K mg base "crosses_second_seam" 2 ["board", "edge"] (spF K mg F_crosses_second_seam) :=
  hasF (N := N_crosses_second_seam) A bi_crosses_second_seam sc_crosses_second_seam fun cdv f A outer s H E hr => by
    have nd := sc_crosses_second_seam.nd
    refine ⟨_, (pss_cons (ps_asg (pv 0) (pg_tup (by rfl) (pgs_cons (pg_name (i := 2) nd rfl (by first | exact .inl rfl | exact .inr rfl)) (pgs_cons (pg_name (i := 3) nd rfl (by first | exact .inl rfl | exact .inr rfl)) pgs_nil))))
    (pss_one (ps_ret (pe_and (ca h_goes_down hr (by rfl) (pa_cons (pv 1) pa_nil)) (pe_one (pe_cmpR (op_eqK (K := K) (by rfl) (by exact hr.units)) (pe_op op_fdiv (pe_op op_fdiv (pv 1) pe_int) (pv 3)) (pe_op op_sub (pv 2) pe_int) (nomark _))))))), ?_⟩
    exact (xs_seq (xs_asg (xe_var 0) (xg_tup (K := K) (n := 2) (xgs_cons (xg_name 2) (xgs_cons (xg_name 3) xgs_nil))))
  (xs_ret (xe_andV (xe_call (xa_cons (xe_var 1) xa_nil)) (xe_op rvo_eq (xe_op rvo_div (xe_op rvo_div (xe_var 1) (xe_int _)) (xe_var 3)) (xe_op (rvo_I _) (xe_var 2) (xe_int _))))))
abbrev s_seams : Stmt := topS 25
abbrev N_seams : List Str := ["board", "flips", "first", "edge", "second"]
theorem sc_seams : FnScope N_seams ["board", "flips"] (defScope s_seams) := ⟨rfl, rfl, rfl, by decide +kernel, rfl, by decide +kernel, by decide +kernel⟩
theorem bi_seams : BindsAt "seams" s_seams ["board", "flips"] := fun _ _ _ _ _ _ us hl => match us, hl with | [_, _], _ => rfl
set_option maxHeartbeats 2000000 in
theorem ok_seams {P : Program} {w : World} {K : PySem.W.Frag} {mg : Str → Option Value} {base : Heap} (A : FnAt K mg "seams" s_seams) (b_len : mg "len" = none)  (h_require_board : Has P w K mg base "require_board" 3 ["board"] (spF K mg F_require_board)) (h_require_flips : Has P w K mg base "require_flips" 3 ["board", "flips"] (spF K mg F_require_flips)) (h_crosses_first_seam : Has P w K mg base "crosses_first_seam" 2 ["board", "edge"] (spF K mg F_crosses_first_seam)) (h_crosses_second_seam : Has P w K mg base "crosses_second_seam" 2 ["board", "edge"] (spF K mg F_crosses_second_seam)) : Has P w K mg base "seams" 4 ["board", "flips"] (spF K mg F_seams) :=
  hasF (N := N_seams) A bi_seams sc_seams fun cdv f A outer s H E hr => by
    have nd := sc_seams.nd
    refine ⟨_, (pss_cons (ps_expr (ca h_require_board hr (by rfl) (pa_cons (pv 0) pa_nil)))
    (pss_cons (ps_expr (ca h_require_flips hr (by rfl) (pa_cons (pv 0) (pa_cons (pv 1) pa_nil))))
    (pss_cons (ps_setLc (i := 2) (own := [("edge", 3)]) (g := gName 3) (by rfl) nd rfl rfl (sw_true rfl rfl rfl (by decide +kernel)) (pi_tupK (K := K) (by rfl) (pv 1)) (blkOk_by (own := [("edge", 3)]) (N := N_seams) (sc := defScope s_seams) (by decide +kernel)) (fun _ _ _ _ _ => (pg_name (i := 3) nd rfl (by first | exact .inl rfl | exact .inr rfl))) (fun _ _ _ _ _ => (pts_one (pt_val (ca h_crosses_first_seam (hr.mono (by decide)) (by rfl) (pa_cons (pv 0) (pa_cons (pv 3) pa_nil)))))) (fun _ _ _ _ _ => (pv 3)))
    (pss_cons (ps_setLc (i := 4) (own := [("edge", 3)]) (g := gName 3) (by rfl) nd rfl rfl (sw_true rfl rfl rfl (by decide +kernel)) (pi_tupK (K := K) (by rfl) (pv 1)) (blkOk_by (own := [("edge", 3)]) (N := N_seams) (sc := defScope s_seams) (by decide +kernel)) (fun _ _ _ _ _ => (pg_name (i := 3) nd rfl (by first | exact .inl rfl | exact .inr rfl))) (fun _ _ _ _ _ => (pts_one (pt_val (ca h_crosses_second_seam (hr.mono (by decide)) (by rfl) (pa_cons (pv 0) (pa_cons (pv 3) pa_nil)))))) (fun _ _ _ _ _ => (pv 3)))
    (pss_one (ps_ret (pe_tup (pa_cons (pe_op op_mod (pe_callB (kc_len (K := K) (by rfl)) (by rfl) b_len (by decide +kernel) (pa_cons (pv 2) pa_nil)) pe_int) (pa_cons (pe_op op_mod (pe_callB (kc_len (K := K) (by rfl)) (by rfl) b_len (by decide +kernel) (pa_cons (pv 4) pa_nil)) pe_int) pa_nil))))))))), ?_⟩
    exact (xs_seq (xs_drop (xe_call (xa_cons (xe_var 0) xa_nil)))
  (xs_seq (xs_drop (xe_call (xa_cons (xe_var 0) (xa_cons (xe_var 1) xa_nil))))
  (xs_seq (xs_asg (xe_n (xn_lc (xi_tup (xe_var 1)) (xg_name 3) (by decide) (xt_B (xe_call (xa_cons (xe_var 0) (xa_cons (xe_var 3) xa_nil)))) (xe_var 3))) (xg_name 2))
  (xs_seq (xs_asg (xe_n (xn_lc (xi_tup (xe_var 1)) (xg_name 3) (by decide) (xt_B (xe_call (xa_cons (xe_var 0) (xa_cons (xe_var 3) xa_nil)))) (xe_var 3))) (xg_name 4))
  (xs_ret (xe_tup (xa_cons (xe_op rvo_mod (xe_cb rco_len (xa_cons (xe_var 2) xa_nil)) (xe_int _)) (xa_cons (xe_op rvo_mod (xe_cb rco_len (xa_cons (xe_var 4) xa_nil)) (xe_int _)) xa_nil))))))))
abbrev s_site_right_of : Stmt := topS 17
abbrev N_site_right_of : List Str := ["board", "site", "columns"]
theorem sc_site_right_of : FnScope N_site_right_of ["board", "site"] (defScope s_site_right_of) := ⟨rfl, rfl, rfl, by decide +kernel, rfl, by decide +kernel, by decide +kernel⟩
theorem bi_site_right_of : BindsAt "site_right_of" s_site_right_of ["board", "site"] := fun _ _ _ _ _ _ us hl => match us, hl with | [_, _], _ => rfl
set_option maxHeartbeats 2000000 in
theorem ok_site_right_of {P : Program} {w : World} {K : PySem.W.Frag} {mg : Str → Option Value} {base : Heap} (A : FnAt K mg "site_right_of" s_site_right_of)   : Has P w K mg base "site_right_of" 1 ["board", "site"] (spF K mg F_site_right_of) :=
  hasF (N := N_site_right_of) A bi_site_right_of sc_site_right_of fun cdv f A outer s H E hr => by
    have nd := sc_site_right_of.nd
    refine ⟨_, (pss_cons (ps_set (i := 2) nd rfl (by first | exact .inl rfl | exact .inr rfl) (pe_ix (ix_tupK (K := K) (by rfl)) (pv 0) pe_int (fun _ _ => rfl)))
    (pss_one (ps_ret (pe_op op_add (pe_op op_sub (pv 1) (pe_op op_mod (pv 1) (pv 2))) (pe_op op_mod (pe_op op_add (pv 1) pe_int) (pv 2)))))), ?_⟩
    exact (xs_seq (xs_asg (xe_op rvo_ixT (xe_var 0) (xe_int _)) (xg_name 2))
  (xs_ret (xe_op (rvo_I _) (xe_op (rvo_I _) (xe_var 1) (xe_op rvo_mod (xe_var 1) (xe_var 2))) (xe_op rvo_mod (xe_op (rvo_I _) (xe_var 1) (xe_int _)) (xe_var 2)))))
abbrev s_site_below : Stmt := topS 18
abbrev N_site_below : List Str := ["board", "site"]
theorem sc_site_below : FnScope N_site_below ["board", "site"] (defScope s_site_below) := ⟨rfl, rfl, rfl, by decide +kernel, rfl, by decide +kernel, by decide +kernel⟩
theorem bi_site_below : BindsAt "site_below" s_site_below ["board", "site"] := fun _ _ _ _ _ _ us hl => match us, hl with | [_, _], _ => rfl
set_option maxHeartbeats 2000000 in
theorem ok_site_below {P : Program} {w : World} {K : PySem.W.Frag} {mg : Str → Option Value} {base : Heap} (A : FnAt K mg "site_below" s_site_below)   (h_site_count : Has P w K mg base "site_count" 1 ["board"] (spF K mg F_site_count)) : Has P w K mg base "site_below" 2 ["board", "site"] (spF K mg F_site_below) :=
  hasF (N := N_site_below) A bi_site_below sc_site_below fun cdv f A outer s H E hr => by
    have nd := sc_site_below.nd
    refine ⟨_, (pss_one (ps_ret (pe_op op_mod (pe_op op_add (pv 1) (pe_ix (ix_tupK (K := K) (by rfl)) (pv 0) pe_int (fun _ _ => rfl))) (ca h_site_count hr (by rfl) (pa_cons (pv 0) pa_nil))))), ?_⟩
    exact (xs_ret (xe_op rvo_mod (xe_op (rvo_I _) (xe_var 1) (xe_op rvo_ixT (xe_var 0) (xe_int _))) (xe_call (xa_cons (xe_var 0) xa_nil))))
abbrev s_edge_ends : Stmt := topS 20
abbrev N_edge_ends : List Str := ["board", "edge", "site"]
theorem sc_edge_ends : FnScope N_edge_ends ["board", "edge"] (defScope s_edge_ends) := ⟨rfl, rfl, rfl, by decide +kernel, rfl, by decide +kernel, by decide +kernel⟩
theorem bi_edge_ends : BindsAt "edge_ends" s_edge_ends ["board", "edge"] := fun _ _ _ _ _ _ us hl => match us, hl with | [_, _], _ => rfl
set_option maxHeartbeats 2000000 in
theorem ok_edge_ends {P : Program} {w : World} {K : PySem.W.Frag} {mg : Str → Option Value} {base : Heap} (A : FnAt K mg "edge_ends" s_edge_ends)   (h_goes_down : Has P w K mg base "goes_down" 1 ["edge"] (spF K mg F_goes_down)) (h_site_right_of : Has P w K mg base "site_right_of" 1 ["board", "site"] (spF K mg F_site_right_of)) (h_site_below : Has P w K mg base "site_below" 2 ["board", "site"] (spF K mg F_site_below)) : Has P w K mg base "edge_ends" 3 ["board", "edge"] (spF K mg F_edge_ends) :=
  hasF (N := N_edge_ends) A bi_edge_ends sc_edge_ends fun cdv f A outer s H E hr => by
    have nd := sc_edge_ends.nd
    refine ⟨_, (pss_cons (ps_set (i := 2) nd rfl (by first | exact .inl rfl | exact .inr rfl) (pe_op op_fdiv (pv 1) pe_int))
    (pss_cons (ps_if (pt_val (ca h_goes_down (hr.mono (by decide)) (by rfl) (pa_cons (pv 1) pa_nil))) (pss_one (ps_ret (pe_tup (pa_cons (pv 2) (pa_cons (ca h_site_below hr (by rfl) (pa_cons (pv 0) (pa_cons (pv 2) pa_nil))) pa_nil))))) pss_nil)
    (pss_one (ps_ret (pe_tup (pa_cons (pv 2) (pa_cons (ca h_site_right_of (hr.mono (by decide)) (by rfl) (pa_cons (pv 0) (pa_cons (pv 2) pa_nil))) pa_nil))))))), ?_⟩
    exact (xs_seq (xs_asg (xe_op rvo_div (xe_var 1) (xe_int _)) (xg_name 2))
  (xs_seq (xs_if (xt_B (xe_call (xa_cons (xe_var 1) xa_nil))) (xs_ret (xe_tup (xa_cons (xe_var 2) (xa_cons (xe_call (xa_cons (xe_var 0) (xa_cons (xe_var 2) xa_nil))) xa_nil)))) xs_next)
  (xs_ret (xe_tup (xa_cons (xe_var 2) (xa_cons (xe_call (xa_cons (xe_var 0) (xa_cons (xe_var 2) xa_nil))) xa_nil))))))
abbrev s_checks : Stmt := topS 24
abbrev N_checks : List Str := ["board", "flips", "ends", "edge", "site"]
theorem sc_checks : FnScope N_checks ["board", "flips"] (defScope s_checks) := ⟨rfl, rfl, rfl, by decide +kernel, rfl, by decide +kernel, by decide +kernel⟩
theorem bi_checks : BindsAt "checks" s_checks ["board", "flips"] := fun _ _ _ _ _ _ us hl => match us, hl with | [_, _], _ => rfl
set_option maxHeartbeats 2000000 in
theorem ok_checks {P : Program} {w : World} {K : PySem.W.Frag} {mg : Str → Option Value} {base : Heap} (A : FnAt K mg "checks" s_checks)   (h_require_board : Has P w K mg base "require_board" 3 ["board"] (spF K mg F_require_board)) (h_require_flips : Has P w K mg base "require_flips" 3 ["board", "flips"] (spF K mg F_require_flips)) (h_odd_ones : Has P w K mg base "odd_ones" 1 ["numbers", "many"] (spF K mg F_odd_ones)) (h_site_count : Has P w K mg base "site_count" 1 ["board"] (spF K mg F_site_count)) (h_edge_ends : Has P w K mg base "edge_ends" 3 ["board", "edge"] (spF K mg F_edge_ends)) : Has P w K mg base "checks" 4 ["board", "flips"] (spF K mg F_checks) :=
  hasF (N := N_checks) A bi_checks sc_checks fun cdv f A outer s H E hr => by
    have nd := sc_checks.nd
    refine ⟨_, (pss_cons (ps_expr (ca h_require_board hr (by rfl) (pa_cons (pv 0) pa_nil)))
    (pss_cons (ps_expr (ca h_require_flips hr (by rfl) (pa_cons (pv 0) (pa_cons (pv 1) pa_nil))))
    (pss_cons (ps_setLc2 (i := 2) (own := [("edge", 3), ("site", 4)]) (vs1 := [4]) (g := gName 3) (g1 := gName 4) (tt := tYes) (tt1 := tYes) (by rfl) nd rfl rfl (sw_true rfl rfl rfl (by decide +kernel)) (pi_tupK (K := K) (by rfl) (pv 1)) (blkOk_by (own := [("edge", 3), ("site", 4)]) (N := N_checks) (sc := defScope s_checks) (by decide +kernel)) (by decide) (fun _ _ _ _ _ => (pg_name (i := 3) nd rfl (by first | exact .inl rfl | exact .inr rfl))) (fun _ _ _ _ _ => pts_nil) (fun _ _ _ _ _ => (pi_tupK (K := K) (by rfl) (ca h_edge_ends hr (by rfl) (pa_cons (pv 0) (pa_cons (pv 3) pa_nil))))) (fun _ _ _ _ _ => (pg_name (i := 4) nd rfl (by first | exact .inl rfl | exact .inr rfl))) (fun _ _ _ _ _ => pts_nil) (fun _ _ _ _ _ => (pv 4)))
    (pss_one (ps_ret (ca h_odd_ones (hr.mono (by decide)) (by rfl) (pa_cons (pv 2) (pa_cons (ca h_site_count (hr.mono (by decide)) (by rfl) (pa_cons (pv 0) pa_nil)) pa_nil)))))))), ?_⟩
    exact (xs_seq (xs_drop (xe_call (xa_cons (xe_var 0) xa_nil)))
  (xs_seq (xs_drop (xe_call (xa_cons (xe_var 0) (xa_cons (xe_var 1) xa_nil))))
  (xs_seq (xs_asg (xe_n (xn_lc2 (xi_tup (xe_var 1)) (xg_name 3) (by decide) xt_yes (xi_tup (xe_call (xa_cons (xe_var 0) (xa_cons (xe_var 3) xa_nil)))) (xg_name 4) (by decide) xt_yes (xe_var 4))) (xg_name 2))
  (xs_ret (xe_call (xa_cons (xe_var 2) (xa_cons (xe_call (xa_cons (xe_var 0) xa_nil)) xa_nil)))))))
abbrev s_judged : Stmt := topS 38
abbrev N_judged : List Str := ["board", "told", "story", "flip", "lie", "cost", "flipped", "lit", "flips", "liars"]
theorem sc_judged : FnScope N_judged ["board", "told", "story", "flip", "lie"] (defScope s_judged) := ⟨rfl, rfl, rfl, by decide +kernel, rfl, by decide +kernel, by decide +kernel⟩
abbrev kw_judged : List (Str × V) := [("flip", .int 1), ("lie", .int 1)]
theorem kc_judged_flip_lie : ∀ (D : Addr) (doc pm : Value) (an : Option Addr) (cdv ct : Value) (us mv ws : List Value), us.length = 3 → mv.length = 0 → ws.length = 2 → KwChain D (([] : List Str).zip mv) (bindArgs (PySem.W.fnOf "judged" "judged" (defArgs s_judged) (defBody s_judged) (defScope s_judged) .none (.ref D) doc pm an cdv ct) ⟨us, (["flip", "lie"] : List Str).zip ws⟩) ((["board", "told", "story", "flip", "lie"] : List Str).zip (us ++ ws)) :=
  fun D doc pm an cdv ct us mv ws h1 h2 h3 => match us, mv, ws, h1, h2, h3 with | [_, _, _], [], [_, _], _, _, _ => rfl
theorem kc_judged_ : ∀ (D : Addr) (doc pm : Value) (an : Option Addr) (cdv ct : Value) (us ks : List Value), us.length = 3 → ks.length = 2 → KwChain D ((["flip", "lie"] : List Str).zip ks) (bindArgs (PySem.W.fnOf "judged" "judged" (defArgs s_judged) (defBody s_judged) (defScope s_judged) .none (.ref D) doc pm an cdv ct) ⟨us, []⟩) ((["board", "told", "story", "flip", "lie"] : List Str).zip (us ++ ks)) :=
  fun D doc pm an cdv ct us ks h1 h2 => match us, ks, h1, h2 with | [_, _, _], [_, _], _, _ => ⟨_, _, _, _, _, _, rfl, rfl, _, _, _, _, _, _, rfl, rfl, rfl⟩
set_option maxHeartbeats 2000000 in
theorem ok_judged {P : Program} {w : World} {K : PySem.W.Frag} {mg : Str → Option Value} {base : Heap} (A : FnAtK K mg "judged" s_judged kw_judged) (b_len : mg "len" = none) (b_zip : mg "zip" = none)  (h_require_board : Has P w K mg base "require_board" 3 ["board"] (spF K mg F_require_board)) (h_require_told : Has P w K mg base "require_told" 5 ["board", "told"] (spF K mg F_require_told)) (h_require_story : Has P w K mg base "require_story" 6 ["board", "story", "many"] (spF K mg F_require_story)) (h_require_count : Has P w K mg base "require_count" 2 ["count"] (spF K mg F_require_count)) (h_after : Has P w K mg base "after" 4 ["board", "one", "other"] (spF K mg F_after)) (h_seams : Has P w K mg base "seams" 4 ["board", "flips"] (spF K mg F_seams)) (h_odd_ones : Has P w K mg base "odd_ones" 1 ["numbers", "many"] (spF K mg F_odd_ones)) (h_site_count : Has P w K mg base "site_count" 1 ["board"] (spF K mg F_site_count)) (h_checks : Has P w K mg base "checks" 4 ["board", "flips"] (spF K mg F_checks)) : HasK P w K mg base "judged" 7 ["board", "told", "story", "flip", "lie"] s_judged kw_judged (spF K mg F_judged) :=
  hasFK (N := N_judged) A sc_judged fun cdv f A outer s H E hr => by
    have nd := sc_judged.nd
    refine ⟨_, (pss_cons (ps_expr (ca h_require_board (hr.mono (by decide)) (by rfl) (pa_cons (pv 0) pa_nil)))
    (pss_cons (ps_expr (ca h_require_told (hr.mono (by decide)) (by rfl) (pa_cons (pv 0) (pa_cons (pv 1) pa_nil))))
    (pss_cons (ps_expr (ca h_require_story hr (by rfl) (pa_cons (pv 0) (pa_cons (pv 2) (pa_cons (pe_callB (kc_len (K := K) (by rfl)) (by rfl) b_len (by decide +kernel) (pa_cons (pv 1) pa_nil)) pa_nil)))))
    (pss_cons (ps_expr (ca h_require_count (hr.mono (by decide)) (by rfl) (pa_cons (pv 3) pa_nil)))
    (pss_cons (ps_expr (ca h_require_count (hr.mono (by decide)) (by rfl) (pa_cons (pv 4) pa_nil)))
    (pss_cons (ps_set (i := 5) nd rfl (by first | exact .inl rfl | exact .inr rfl) pe_int)
    (pss_cons (ps_set (i := 6) nd rfl (by first | exact .inl rfl | exact .inr rfl) (pe_tup pa_nil))
    (pss_cons (ps_for PassesOwn.never rfl (pi_mixK (K := K) (by rfl) (by rfl) b_zip (pa_cons (pv 1) (pa_cons (pv 2) pa_nil))) (pg_tup (by rfl) (pgs_cons (pg_name (i := 7) nd rfl (by first | exact .inl rfl | exact .inr rfl)) (pgs_cons (pg_tup (by rfl) (pgs_cons (pg_name (i := 8) nd rfl (by first | exact .inl rfl | exact .inr rfl)) (pgs_cons (pg_name (i := 9) nd rfl (by first | exact .inl rfl | exact .inr rfl)) pgs_nil))) pgs_nil))) (pss_cons (ps_set (i := 6) nd rfl (by first | exact .inl rfl | exact .inr rfl) (ca h_after (hr.mono (by decide)) (by rfl) (pa_cons (pv 0) (pa_cons (pv 6) (pa_cons (pv 8) pa_nil)))))
    (pss_cons (ps_if (pt_cmpR (op_neK (K := K) (by rfl) (by exact hr.units)) (ca h_odd_ones (hr.mono (by decide)) (by rfl) (pa_cons (pe_op (op_catAK (K := K) (by rfl)) (ca h_checks (hr.mono (by decide)) (by rfl) (pa_cons (pv 0) (pa_cons (pv 6) pa_nil))) (pv 9)) (pa_cons (ca h_site_count (hr.mono (by decide)) (by rfl) (pa_cons (pv 0) pa_nil)) pa_nil))) (pv 7) (nomark _)) (pss_one (ps_ret pe_non)) pss_nil)
    (pss_one (ps_aug (i := 5) nd rfl (by first | exact .inl rfl | exact .inr rfl) (pe_op op_add (pe_op op_mul (pv 3) (pe_callB (kc_len (K := K) (by rfl)) (by rfl) b_len (by decide +kernel) (pa_cons (pv 8) pa_nil))) (pe_op op_mul (pv 4) (pe_callB (kc_len (K := K) (by rfl)) (by rfl) b_len (by decide +kernel) (pa_cons (pv 9) pa_nil)))) ip_add)))))
    (pss_cons (ps_if (pt_cmpR (op_neK (K := K) (by rfl) (by exact hr.units)) (pe_ix (ix_tupK (K := K) (by rfl)) (pe_ix (ix_listK (K := K) (by rfl)) (pv 2) (pe_un un_neg pe_int) (fun _ _ => rfl)) pe_int (fun _ _ => rfl)) (pe_tup pa_nil) (nomark _)) (pss_one (ps_ret pe_non)) pss_nil)
    (pss_one (ps_ret (pe_tup (pa_cons (pv 5) (pa_cons (ca h_seams (hr.mono (by decide)) (by rfl) (pa_cons (pv 0) (pa_cons (pv 6) pa_nil))) pa_nil)))))))))))))), ?_⟩
    exact (xs_seq (xs_drop (xe_call (xa_cons (xe_var 0) xa_nil)))
  (xs_seq (xs_drop (xe_call (xa_cons (xe_var 0) (xa_cons (xe_var 1) xa_nil))))
  (xs_seq (xs_drop (xe_call (xa_cons (xe_var 0) (xa_cons (xe_var 2) (xa_cons (xe_cb rco_len (xa_cons (xe_var 1) xa_nil)) xa_nil)))))
  (xs_seq (xs_drop (xe_call (xa_cons (xe_var 3) xa_nil)))
  (xs_seq (xs_drop (xe_call (xa_cons (xe_var 4) xa_nil)))
  (xs_seq (xs_asg (xe_int _) (xg_name 5))
  (xs_seq (xs_asg (xe_tup xa_nil) (xg_name 6))
  (xs_seq (xs_for (xi_mix (xe_var 1) (xe_var 2)) (xg_tup (K := K) (n := 2) (xgs_cons (xg_name 7) (xgs_cons (xg_tup (K := K) (n := 2) (xgs_cons (xg_name 8) (xgs_cons (xg_name 9) xgs_nil))) xgs_nil))) (xs_seq (xs_asg (xe_call (xa_cons (xe_var 0) (xa_cons (xe_var 6) (xa_cons (xe_var 8) xa_nil)))) (xg_name 6))
  (xs_seq (xs_if (xt_test (xe_op rvo_ne (xe_call (xa_cons (xe_op rvo_catT (xe_call (xa_cons (xe_var 0) (xa_cons (xe_var 6) xa_nil))) (xe_var 9)) (xa_cons (xe_call (xa_cons (xe_var 0) xa_nil)) xa_nil))) (xe_var 7))) (xs_ret xe_non) xs_next)
  (xs_aug (xe_op (rvo_I _) (xe_op rvo_mul (xe_var 3) (xe_cb rco_len (xa_cons (xe_var 8) xa_nil))) (xe_op rvo_mul (xe_var 4) (xe_cb rco_len (xa_cons (xe_var 9) xa_nil))))))))
  (xs_seq (xs_if (xt_test (xe_op rvo_ne (xe_op rvo_ixT (xe_op rvo_ixL (xe_var 2) (xe_un ruo_neg (xe_int _))) (xe_int _)) (xe_tup xa_nil))) (xs_ret xe_non) xs_next)
  (xs_ret (xe_tup (xa_cons (xe_var 5) (xa_cons (xe_call (xa_cons (xe_var 0) (xa_cons (xe_var 6) xa_nil))) xa_nil)))))))))))))
end Sb

namespace Sb
open PySem PySem.Spec PyProof.Rows L2
abbrev s_law : Stmt := topS 50
abbrev N_law : List Str := ["_law_script", "_law_row", "_law_turn", "_law_board_here", "_law_many", "_law_beats", "_law_story", "_law_beat", "_law_lies", "_law_told", "_law_crossed_by", "_law_flips_here", "_law_side", "_law_dear", "_law_bad", "_law_whole", "_law_other", "_law_changed", "_law_last"]
theorem sc_law : FnScope N_law ["_law_script"] (defScope s_law) := ⟨rfl, rfl, rfl, by decide +kernel, rfl, by decide +kernel, by decide +kernel⟩
theorem bi_law : BindsAt "law" s_law ["_law_script"] := fun _ _ _ _ _ _ us hl => match us, hl with | [_], _ => rfl
set_option maxHeartbeats 4000000 in
theorem ok_law {P : Program} {w : World} {K : PySem.W.Frag} {mg : Str → Option Value} {base : Heap} {f : Addr} {fd : FuncData} (F : Fun K "law" "law" s_law f fd) (b_range : mg "range" = none) (b_sum : mg "sum" = none) (b_len : mg "len" = none) (b_tuple : mg "tuple" = none)  (h__law_board : Has P w K mg base "_law_board" 2 ["_law_row", "_law_most"] (spW K mg F__law_board)) (h__law_taken : Has P w K mg base "_law_taken" 1 ["_law_row", "_law_many"] (spW K mg F__law_taken)) (h__law_some : Has P w K mg base "_law_some" 2 ["_law_row", "_law_many", "_law_most"] (spW K mg F__law_some)) (h__law_told_by : Has P w K mg base "_law_told_by" 2 ["_law_board_here", "_law_story"] (spF K mg F__law_told_by)) (h__law_seams : Has P w K mg base "_law_seams" 2 ["_law_board_here", "_law_flips_here"] (spF K mg F__law_seams)) (h__law_alike : Has P w K mg base "_law_alike" 7 ["_law_one", "_law_due"] (spF K mg F__law_alike)) (h_judged : HasK P w K mg base "judged" 7 ["board", "told", "story", "flip", "lie"] s_judged kw_judged (spF K mg F_judged)) : FnOk P w K mg base CX0 8 f fd ["_law_script"] (spLaw K) := by
  have nd := sc_law.nd
  refine F.ok sc_law (fun vs H Q E h => ?_) (fun cdv A outer s H vs Q E hr h => ?_)
  · obtain ⟨a, ns, rfl, _⟩ := h
    rfl
  obtain ⟨a, ns, rfl, hS, hlen, q⟩ := h
  refine ⟨_, (pss_cons (ps_set (i := 1) nd rfl (by first | exact .inl rfl | exact .inr rfl) (pe_lst (pa_cons (pv 0) (pa_cons pe_int (pa_cons pe_int (pa_cons pe_int pa_nil))))))
    (pss_cons (ps_for PassesOwn.never rfl (pi_range1 (by rfl) b_range (pa_cons pe_int pa_nil)) (pg_name (i := 2) nd rfl (by first | exact .inl rfl | exact .inr rfl)) (pss_cons (ps_set (i := 3) nd rfl (by first | exact .inl rfl | exact .inr rfl) (ca h__law_board (hr.mono (by decide)) (by rfl) (pa_cons (pv 1) (pa_cons pe_int pa_nil))))
    (pss_cons (ps_par (i := 4) (j := 5) (by rfl) nd rfl rfl (by decide) rfl rfl (pa_cons (pe_op op_mul (pe_ix (ix_tupK (K := K) (by rfl)) (pv 3) pe_int (fun _ _ => rfl)) (pe_ix (ix_tupK (K := K) (by rfl)) (pv 3) pe_int (fun _ _ => rfl))) (pa_cons (pe_op op_add pe_int (ca h__law_taken (hr.mono (by decide)) (by rfl) (pa_cons (pv 1) (pa_cons pe_int pa_nil)))) pa_nil)) (by rfl))
    (pss_cons (ps_set (i := 6) nd rfl (by first | exact .inl rfl | exact .inr rfl) (pe_lst pa_nil))
    (pss_cons (ps_for PassesOwn.never rfl (pi_range1 (by rfl) b_range (pa_cons (pv 5) pa_nil)) (pg_name (i := 7) nd rfl (by first | exact .inl rfl | exact .inr rfl)) (pss_cons (ps_set (i := 8) nd rfl (by first | exact .inl rfl | exact .inr rfl) (pe_ifExp (pt_cmpR op_lt (pv 7) (pe_op op_sub (pv 5) pe_int) (nomark _)) (ca h__law_some (hr.mono (by decide)) (by rfl) (pa_cons (pv 1) (pa_cons (pv 4) (pa_cons (pe_ix (ix_listK (K := K) (by rfl)) (pe_lst (pa_cons pe_int (pa_cons (pv 4) pa_nil))) (ca h__law_taken (hr.mono (by decide)) (by rfl) (pa_cons (pv 1) (pa_cons pe_int pa_nil))) (fun _ _ => rfl)) pa_nil)))) (pe_tup pa_nil)))
    (pss_one (ps_expr (pe_bm PySem.F.plainAttrs_list PySem.F.slot_list_append PySem.F.type_list_append mt_append (pv 6) (pa_cons (pe_tup (pa_cons (ca h__law_some (hr.mono (by decide)) (by rfl) (pa_cons (pv 1) (pa_cons (pe_op op_mul pe_int (pv 4)) (pa_cons pe_int pa_nil)))) (pa_cons (pv 8) pa_nil))) pa_nil))))))
    (pss_cons (ps_par (i := 9) (j := 10) (by rfl) nd rfl rfl (by decide) rfl rfl (pa_cons (ca h__law_told_by (hr.mono (by decide)) (by rfl) (pa_cons (pv 3) (pa_cons (pv 6) pa_nil))) (pa_cons (pe_lst (pa_cons pe_int (pa_cons pe_int pa_nil))) pa_nil)) (by rfl))
    (pss_cons (ps_for PassesOwn.never rfl (pi_listK (K := K) (by rfl) (pv 6)) (pg_tup (by rfl) (pgs_cons (pg_name (i := 11) nd rfl (by first | exact .inl rfl | exact .inr rfl)) (pgs_cons (pg_name (i := 8) nd rfl (by first | exact .inl rfl | exact .inr rfl)) pgs_nil))) (pss_cons (ps_set (i := 12) nd rfl (by first | exact .inl rfl | exact .inr rfl) (ca h__law_seams (hr.mono (by decide)) (by rfl) (pa_cons (pv 3) (pa_cons (pv 11) pa_nil))))
    (pss_one (ps_set (i := 10) nd rfl (by first | exact .inl rfl | exact .inr rfl) (pe_lst (pa_cons (pe_op op_mod (pe_op op_add (pe_ix (ix_listK (K := K) (by rfl)) (pv 10) pe_int (fun _ _ => rfl)) (pe_ix (ix_tupK (K := K) (by rfl)) (pv 12) pe_int (fun _ _ => rfl))) pe_int) (pa_cons (pe_op op_mod (pe_op op_add (pe_ix (ix_listK (K := K) (by rfl)) (pv 10) pe_int (fun _ _ => rfl)) (pe_ix (ix_tupK (K := K) (by rfl)) (pv 12) pe_int (fun _ _ => rfl))) pe_int) pa_nil)))))))
    (pss_cons (ps_asg (pe_tup (pa_cons (pe_op op_add pe_int (ca h__law_taken (hr.mono (by decide)) (by rfl) (pa_cons (pv 1) (pa_cons pe_int pa_nil)))) (pa_cons (pe_op op_add pe_int (ca h__law_taken (hr.mono (by decide)) (by rfl) (pa_cons (pv 1) (pa_cons pe_int pa_nil)))) pa_nil))) (pg_tup (by rfl) (pgs_cons (pg_name (i := 13) nd rfl (by first | exact .inl rfl | exact .inr rfl)) (pgs_cons (pg_name (i := 14) nd rfl (by first | exact .inl rfl | exact .inr rfl)) pgs_nil))))
    (pss_cons (ps_set (i := 15) nd rfl (by first | exact .inl rfl | exact .inr rfl) (pe_callB (kc_sum (K := K) (by rfl) rfl) (by rfl) b_sum (by decide +kernel) (pa_cons (pe_lc (own := [("_law_flips_here", 11), ("_law_lies", 8)]) (g := gTup _ 2 (gCons (gName 11) (gCons (gName 8) gNil))) (tt := tYes) (by rfl) nd (pi_listK (K := K) (by rfl) (pv 6)) (blkOk_by (own := [("_law_flips_here", 11), ("_law_lies", 8)]) (N := N_law) (sc := defScope s_law) (by decide +kernel)) (fun _ _ _ _ _ => (pg_tup (by rfl) (pgs_cons (pg_name (i := 11) nd rfl (by first | exact .inl rfl | exact .inr rfl)) (pgs_cons (pg_name (i := 8) nd rfl (by first | exact .inl rfl | exact .inr rfl)) pgs_nil)))) (fun _ _ _ _ _ => pts_nil) (fun _ _ _ _ _ => (pe_op op_add (pe_op op_mul (pv 13) (pe_callB (kc_len (K := K) (by rfl)) (by rfl) b_len (by decide +kernel) (pa_cons (pv 11) pa_nil))) (pe_op op_mul (pv 14) (pe_callB (kc_len (K := K) (by rfl)) (by rfl) b_len (by decide +kernel) (pa_cons (pv 8) pa_nil)))))) pa_nil)))
    (pss_cons (ps_if (pt_not (pt_val (ca h__law_alike hr (by rfl) (pa_cons (caK h_judged hr 3 ["flip", "lie"] [] (fun us mv ws => us ++ ws) (List.cons_ne_nil _ _) (by simp) (fun a b c => a.append c) kc_judged_flip_lie (by rfl) (pa_cons (pv 3) (pa_cons (pv 9) (pa_cons (pv 6) pa_nil))) (pk_cons (pv 13) (pk_cons (pv 14) pk_nil))) (pa_cons (pe_tup (pa_cons (pv 15) (pa_cons (pe_callTy (kc_tup (K := K) (by rfl)) (by rfl) b_tuple (by decide +kernel) (pa_cons (pv 10) pa_nil)) pa_nil))) pa_nil))))) (pss_one (ps_ret pe_bl)) pss_nil)
    (pss_cons (ps_set (i := 7) nd rfl (by first | exact .inl rfl | exact .inr rfl) (ca h__law_taken (hr.mono (by decide)) (by rfl) (pa_cons (pv 1) (pa_cons (pv 5) pa_nil))))
    (pss_cons (ps_set (i := 16) nd rfl (by first | exact .inl rfl | exact .inr rfl) (ca h__law_some (hr.mono (by decide)) (by rfl) (pa_cons (pv 1) (pa_cons (pv 4) (pa_cons pe_int pa_nil)))))
    (pss_cons (ps_set (i := 17) nd rfl (by first | exact .inl rfl | exact .inr rfl) (pe_op (op_catAK (K := K) (by rfl)) (pe_op (op_catAK (K := K) (by rfl)) (pe_slice (sl_tupAK (K := K) (by rfl)) (pv 9) po_none (po_some (pv 7))) (pe_tup (pa_cons (pv 16) pa_nil))) (pe_slice (sl_tupAK (K := K) (by rfl)) (pv 9) (po_some (pe_op op_add (pv 7) pe_int)) po_none)))
    (pss_cons (ps_if (PW.pt (pw_and (pt_cmpR (op_neK (K := K) (by rfl) (by exact hr.units)) (pv 16) (pe_ix (ix_tupK (K := K) (by rfl)) (pv 9) (pv 7) (fun _ _ => rfl)) (nomark _)) (pw_and (pt_cmpR (op_eqK (K := K) (by rfl) (by exact hr.units)) (pe_op op_mod (pe_callB (kc_len (K := K) (by rfl)) (by rfl) b_len (by decide +kernel) (pa_cons (pe_ix (ix_tupK (K := K) (by rfl)) (pv 17) (pe_un un_neg pe_int) (fun _ _ => rfl)) pa_nil)) pe_int) pe_int (nomark _)) (pw_and1 (pt_cmpR op_notN (caD h_judged hr 3 (List.cons_ne_nil _ _) rfl kc_judged_ (by rfl) (pa_cons (pv 3) (pa_cons (pv 17) (pa_cons (pv 6) pa_nil)))) pe_non (nomark _)))))) (pss_one (ps_ret pe_bl)) pss_nil)
    (pss_cons (ps_set (i := 18) nd rfl (by first | exact .inl rfl | exact .inr rfl) (pe_op op_cat (pe_slice (sl_listK (K := K) (by rfl)) (pv 6) po_none (po_some (pe_un un_neg pe_int))) (pe_lst (pa_cons (pe_tup (pa_cons (pe_ix (ix_tupK (K := K) (by rfl)) (pe_ix (ix_listK (K := K) (by rfl)) (pv 6) (pe_un un_neg pe_int) (fun _ _ => rfl)) pe_int (fun _ _ => rfl)) (pa_cons (pe_tup (pa_cons pe_int (pa_cons pe_int pa_nil))) pa_nil))) pa_nil))))
    (pss_one (ps_if (PW.pt (pw_or (pt_cmpR op_notN (caD h_judged hr 3 (List.cons_ne_nil _ _) rfl kc_judged_ (by rfl) (pa_cons (pv 3) (pa_cons (ca h__law_told_by (hr.mono (by decide)) (by rfl) (pa_cons (pv 3) (pa_cons (pv 18) pa_nil))) (pa_cons (pv 18) pa_nil)))) pe_non (nomark _)) (pw_or1 (pt_cmpR op_notN (caD h_judged hr 3 (List.cons_ne_nil _ _) rfl kc_judged_ (by rfl) (pa_cons (pv 3) (pa_cons (pv 9) (pa_cons (pv 18) pa_nil)))) pe_non (nomark _))))) (pss_one (ps_ret pe_bl)) pss_nil)))))))))))))))))
    (pss_one (ps_ret pe_bl)))), ?_⟩
  obtain ⟨ρ', hl⟩ := law_true ns hlen
  exact law_goF (K := K) (mg := mg) (b := f_law) (n := 17) hS q ((xs_seq (xs_for (xi_rng1 (xa_cons (xe_int _) xa_nil)) (xg_name 2) (xs_seq (xs_asg (xe_callR (xa_cons (xe_int _) xa_nil)) (xg_name 3))
  (xs_seq (xs_par (xa_cons (xe_op rvo_mul (xe_op rvo_ixT (xe_var 3) (xe_int _)) (xe_op rvo_ixT (xe_var 3) (xe_int _))) (xa_cons (xe_op (rvo_I _) (xe_int _) (xe_callR (xa_cons (xe_int _) xa_nil))) xa_nil)))
  (xs_seq (xs_own 6 (xn_lst xa_nil))
  (xs_seq (xs_for (xi_rng1 (xa_cons (xe_var 5) xa_nil)) (xg_name 7) (xs_seq (xs_asg (xe_if (xt_test (xe_op (rvo_B _) (xe_var 7) (xe_op (rvo_I _) (xe_var 5) (xe_int _)))) (xe_callR (xa_cons (xe_var 4) (xa_cons (xe_op rvo_ixL (xe_n (xn_lst (xa_cons (xe_int _) (xa_cons (xe_var 4) xa_nil)))) (xe_callR (xa_cons (xe_int _) xa_nil))) xa_nil))) (xe_tup xa_nil)) (xg_name 8))
  (xs_app (xe_tup (xa_cons (xe_callR (xa_cons (xe_op rvo_mul (xe_int _) (xe_var 4)) (xa_cons (xe_int _) xa_nil))) (xa_cons (xe_var 8) xa_nil))))))
  (xs_seq (xs_fz 6 (xs_par (xa_cons (xe_call (xa_cons (xe_var 3) (xa_cons (xe_var 6) xa_nil))) (xa_cons (xe_n (xn_lst (xa_cons (xe_int _) (xa_cons (xe_int _) xa_nil)))) xa_nil))))
  (xs_seq (xs_fz 6 (xs_for (xi_list (xe_var 6)) (xg_tup (K := K) (n := 2) (xgs_cons (xg_name 11) (xgs_cons (xg_name 8) xgs_nil))) (xs_seq (xs_asg (xe_call (xa_cons (xe_var 3) (xa_cons (xe_var 11) xa_nil))) (xg_name 12))
  (xs_asg (xe_n (xn_lst (xa_cons (xe_op rvo_mod (xe_op (rvo_I _) (xe_op rvo_ixL (xe_var 10) (xe_int _)) (xe_op rvo_ixT (xe_var 12) (xe_int _))) (xe_int _)) (xa_cons (xe_op rvo_mod (xe_op (rvo_I _) (xe_op rvo_ixL (xe_var 10) (xe_int _)) (xe_op rvo_ixT (xe_var 12) (xe_int _))) (xe_int _)) xa_nil)))) (xg_name 10)))))
  (xs_seq (xs_asg (xe_tup (xa_cons (xe_op (rvo_I _) (xe_int _) (xe_callR (xa_cons (xe_int _) xa_nil))) (xa_cons (xe_op (rvo_I _) (xe_int _) (xe_callR (xa_cons (xe_int _) xa_nil))) xa_nil))) (xg_tup (K := K) (n := 2) (xgs_cons (xg_name 13) (xgs_cons (xg_name 14) xgs_nil))))
  (xs_seq (xs_fz 6 (xs_asg (xe_cb rco_sum (xa_cons (xe_n (xn_lc (xi_list (xe_var 6)) (xg_tup (K := K) (n := 2) (xgs_cons (xg_name 11) (xgs_cons (xg_name 8) xgs_nil))) (by decide) xt_yes (xe_op (rvo_I _) (xe_op rvo_mul (xe_var 13) (xe_cb rco_len (xa_cons (xe_var 11) xa_nil))) (xe_op rvo_mul (xe_var 14) (xe_cb rco_len (xa_cons (xe_var 8) xa_nil)))))) xa_nil)) (xg_name 15)))
  (xs_seq (xs_fz 6 (xs_if (xt_not (xt_B (xe_call (xa_cons (xe_callN (fun _ _ _ _ _ p q _ _ => dqs_app p q) (xa_cons (xe_var 3) (xa_cons (xe_var 9) (xa_cons (xe_var 6) xa_nil))) (xa_cons (xe_var 13) (xa_cons (xe_var 14) xa_nil))) (xa_cons (xe_tup (xa_cons (xe_var 15) (xa_cons (xe_cb rco_tup (xa_cons (xe_var 10) xa_nil)) xa_nil))) xa_nil))))) (xs_ret (xe_bl _)) xs_next))
  (xs_seq (xs_asg (xe_callR (xa_cons (xe_var 5) xa_nil)) (xg_name 7))
  (xs_seq (xs_asg (xe_callR (xa_cons (xe_var 4) (xa_cons (xe_int _) xa_nil))) (xg_name 16))
  (xs_seq (xs_asg (xe_op rvo_catT (xe_op rvo_catT (xe_slT (xe_var 9) xo_no (xo_so (xe_var 7))) (xe_tup (xa_cons (xe_var 16) xa_nil))) (xe_slT (xe_var 9) (xo_so (xe_op (rvo_I _) (xe_var 7) (xe_int _))) xo_no)) (xg_name 17))
  (xs_seq (xs_fz 6 (xs_if (xt_and (xt_test (xe_op rvo_ne (xe_var 16) (xe_op rvo_ixT (xe_var 9) (xe_var 7)))) (xt_and (xt_test (xe_op rvo_eq (xe_op rvo_mod (xe_cb rco_len (xa_cons (xe_op rvo_ixT (xe_var 17) (xe_un ruo_neg (xe_int _))) xa_nil)) (xe_int _)) (xe_int _))) (xt_test (xe_op rvo_notN (xe_callV (fun _ => .cons (.int _) (.cons (.int _) (.nil))) (xa_cons (xe_var 3) (xa_cons (xe_var 17) (xa_cons (xe_var 6) xa_nil)))) xe_non)))) (xs_ret (xe_bl _)) xs_next))
  (xs_seq (xs_fz 6 (xs_asg (xe_n (xn_op rvn_cat (xe_n (xn_slL (xe_var 6) xo_no (xo_so (xe_un ruo_neg (xe_int _))))) (xe_n (xn_lst (xa_cons (xe_tup (xa_cons (xe_op rvo_ixT (xe_op rvo_ixL (xe_var 6) (xe_un ruo_neg (xe_int _))) (xe_int _)) (xa_cons (xe_tup (xa_cons (xe_int _) (xa_cons (xe_int _) xa_nil))) xa_nil))) xa_nil))))) (xg_name 18)))
  (xs_if (xt_or (xt_test (xe_op rvo_notN (xe_callV (fun _ => .cons (.int _) (.cons (.int _) (.nil))) (xa_cons (xe_var 3) (xa_cons (xe_call (xa_cons (xe_var 3) (xa_cons (xe_var 18) xa_nil))) (xa_cons (xe_var 18) xa_nil)))) xe_non)) (xt_test (xe_op rvo_notN (xe_callV (fun _ => .cons (.int _) (.cons (.int _) (.nil))) (xa_cons (xe_var 3) (xa_cons (xe_var 9) (xa_cons (xe_var 18) xa_nil)))) xe_non))) (xs_ret (xe_bl _)) xs_next))))))))))))))))
  (xs_ret (xe_bl _)))) hl
set_option maxHeartbeats 4000000 in
theorem all_mk {l : PySem.W.OpenLaw} {w : World} {K : PySem.W.Frag} {h : Heap} {mg : Str → Option Value} {fa : Addr} {q_LEAST_SIDE : Tok} {q_MOST_SIDE : Tok} {q_MOST_BEATS : Tok} {q_LEAST_COUNT : Tok} {q_MOST_COUNT : Tok} (X : K.In h) (G : h.Ns mainGlobals mg) (hfa : mg "law" = some (.ref fa))
    (t__law_taken : TextFn K "_law_taken" s__law_taken) (t__law_board : TextFn K "_law_board" s__law_board) (t__law_some : TextFn K "_law_some" s__law_some) (t__law_ends : TextFn K "_law_ends" s__law_ends) (t__law_told_by : TextFn K "_law_told_by" s__law_told_by) (t__law_crosses : TextFn K "_law_crosses" s__law_crosses) (t__law_seams : TextFn K "_law_seams" s__law_seams) (t__law_alike : TextFn K "_law_alike" s__law_alike) (t_is_whole : TextFn K "is_whole" s_is_whole) (t_is_side : TextFn K "is_side" s_is_side) (t_require_board : TextFn K "require_board" s_require_board) (t_first_misplaced : TextFn K "first_misplaced" s_first_misplaced) (t_site_count : TextFn K "site_count" s_site_count) (t_is_lit : TextFn K "is_lit" s_is_lit) (t_first_bad_beat : TextFn K "first_bad_beat" s_first_bad_beat) (t_require_told : TextFn K "require_told" s_require_told) (t_edge_count : TextFn K "edge_count" s_edge_count) (t_is_pair : TextFn K "is_pair" s_is_pair) (t_first_bad_pair : TextFn K "first_bad_pair" s_first_bad_pair) (t_require_story : TextFn K "require_story" s_require_story) (t_require_count : TextFn K "require_count" s_require_count) (t_require_flips : TextFn K "require_flips" s_require_flips) (t_odd_ones : TextFn K "odd_ones" s_odd_ones) (t_after : TextFn K "after" s_after) (t_goes_down : TextFn K "goes_down" s_goes_down) (t_crosses_first_seam : TextFn K "crosses_first_seam" s_crosses_first_seam) (t_crosses_second_seam : TextFn K "crosses_second_seam" s_crosses_second_seam) (t_seams : TextFn K "seams" s_seams) (t_site_right_of : TextFn K "site_right_of" s_site_right_of) (t_site_below : TextFn K "site_below" s_site_below) (t_edge_ends : TextFn K "edge_ends" s_edge_ends) (t_checks : TextFn K "checks" s_checks) (t_judged : TextFnK K "judged" s_judged kw_judged) (t_law : TextFn K "law" s_law) (z_len : PySem.W.nsIn K mainGlobals "len" = some none) (z_range : PySem.W.nsIn K mainGlobals "range" = some none) (z_min : PySem.W.nsIn K mainGlobals "min" = some none) (z_int : PySem.W.nsIn K mainGlobals "int" = some none) (z_tuple : PySem.W.nsIn K mainGlobals "tuple" = some none) (z_sorted : PySem.W.nsIn K mainGlobals "sorted" = some none) (z_sum : PySem.W.nsIn K mainGlobals "sum" = some none) (z_isinstance : PySem.W.nsIn K mainGlobals "isinstance" = some none) (z_list : PySem.W.nsIn K mainGlobals "list" = some none) (z_bool : PySem.W.nsIn K mainGlobals "bool" = some none) (z_enumerate : PySem.W.nsIn K mainGlobals "enumerate" = some none) (z_zip : PySem.W.nsIn K mainGlobals "zip" = some none) (z_LEAST_SIDE : PySem.W.nsIn K mainGlobals "LEAST_SIDE" = some (some (.int 2 q_LEAST_SIDE))) (z_MOST_SIDE : PySem.W.nsIn K mainGlobals "MOST_SIDE" = some (some (.int 5 q_MOST_SIDE))) (z_MOST_BEATS : PySem.W.nsIn K mainGlobals "MOST_BEATS" = some (some (.int 5 q_MOST_BEATS))) (z_LEAST_COUNT : PySem.W.nsIn K mainGlobals "LEAST_COUNT" = some (some (.int 1 q_LEAST_COUNT))) (z_MOST_COUNT : PySem.W.nsIn K mainGlobals "MOST_COUNT" = some (some (.int 9 q_MOST_COUNT))) :
    ∃ fd : FuncData, (∀ (s : Shared) (v : Value), BindsTo s fd ⟨[v], []⟩ [("_law_script", v)]) ∧ ∀ base : Heap, K.In base → base.Ns mainGlobals mg → FnOk l.prog w K mg base CX0 8 fa fd ["_law_script"] (spLaw K) := by
  have b_len : mg "len" = none := PySem.W.mg_none_of X G z_len
  have b_range : mg "range" = none := PySem.W.mg_none_of X G z_range
  have b_min : mg "min" = none := PySem.W.mg_none_of X G z_min
  have b_int : mg "int" = none := PySem.W.mg_none_of X G z_int
  have b_tuple : mg "tuple" = none := PySem.W.mg_none_of X G z_tuple
  have b_sorted : mg "sorted" = none := PySem.W.mg_none_of X G z_sorted
  have b_sum : mg "sum" = none := PySem.W.mg_none_of X G z_sum
  have b_isinstance : mg "isinstance" = none := PySem.W.mg_none_of X G z_isinstance
  have b_list : mg "list" = none := PySem.W.mg_none_of X G z_list
  have b_bool : mg "bool" = none := PySem.W.mg_none_of X G z_bool
  have b_enumerate : mg "enumerate" = none := PySem.W.mg_none_of X G z_enumerate
  have b_zip : mg "zip" = none := PySem.W.mg_none_of X G z_zip
  have m_LEAST_SIDE := PySem.W.mg_of X G z_LEAST_SIDE
  have m_MOST_SIDE := PySem.W.mg_of X G z_MOST_SIDE
  have m_MOST_BEATS := PySem.W.mg_of X G z_MOST_BEATS
  have m_LEAST_COUNT := PySem.W.mg_of X G z_LEAST_COUNT
  have m_MOST_COUNT := PySem.W.mg_of X G z_MOST_COUNT
  obtain ⟨f, oc, od, osl, kV, dc, pm, an, cd, ct, a, l1, c, k⟩ := t_law.ex
  have e := hfa.symm.trans (PySem.W.mg_of X G a)
  cases e
  refine ⟨PySem.W.fnOf "law" "law" (defArgs s_law) (defBody s_law) (defScope s_law) .none kV dc pm an cd ct, fun s v => .of_eq rfl, fun base _ _ => ?_⟩
  have h__law_taken := ok__law_taken (P := l.prog) (w := w) (base := base) (A := t__law_taken.at_ X G) (b_len := b_len)
  have h__law_board := ok__law_board (P := l.prog) (w := w) (base := base) (A := t__law_board.at_ X G) (h__law_taken := h__law_taken)
  have h__law_some := ok__law_some (P := l.prog) (w := w) (base := base) (A := t__law_some.at_ X G) (b_range := b_range) (b_min := b_min) (b_int := b_int) (b_tuple := b_tuple) (b_sorted := b_sorted) (h__law_taken := h__law_taken)
  have h__law_ends := ok__law_ends (P := l.prog) (w := w) (base := base) (A := t__law_ends.at_ X G) (b_int := b_int)
  have h__law_told_by := ok__law_told_by (P := l.prog) (w := w) (base := base) (A := t__law_told_by.at_ X G) (b_range := b_range) (b_tuple := b_tuple) (h__law_ends := h__law_ends)
  have h__law_crosses := ok__law_crosses (P := l.prog) (w := w) (base := base) (A := t__law_crosses.at_ X G) (b_int := b_int)
  have h__law_seams := ok__law_seams (P := l.prog) (w := w) (base := base) (A := t__law_seams.at_ X G) (b_sum := b_sum) (h__law_crosses := h__law_crosses)
  have h__law_alike := ok__law_alike (P := l.prog) (w := w) (base := base) (A := t__law_alike.at_ X G) (b_isinstance := b_isinstance) (b_tuple := b_tuple) (b_list := b_list) (b_len := b_len) (b_range := b_range) (b_bool := b_bool)
  have h_is_whole := ok_is_whole (P := l.prog) (w := w) (base := base) (A := t_is_whole.at_ X G) (b_isinstance := b_isinstance) (b_int := b_int) (b_bool := b_bool)
  have h_is_side := ok_is_side (P := l.prog) (w := w) (base := base) (A := t_is_side.at_ X G) (m_LEAST_SIDE := m_LEAST_SIDE) (m_MOST_SIDE := m_MOST_SIDE) (h_is_whole := h_is_whole)
  have h_require_board := ok_require_board (P := l.prog) (w := w) (base := base) (A := t_require_board.at_ X G) (b_isinstance := b_isinstance) (b_tuple := b_tuple) (b_len := b_len) (h_is_side := h_is_side)
  have h_first_misplaced := ok_first_misplaced (P := l.prog) (w := w) (base := base) (A := t_first_misplaced.at_ X G) (b_isinstance := b_isinstance) (b_tuple := b_tuple) (b_enumerate := b_enumerate) (h_is_whole := h_is_whole)
  have h_site_count := ok_site_count (P := l.prog) (w := w) (base := base) (A := t_site_count.at_ X G) 
  have h_is_lit := ok_is_lit (P := l.prog) (w := w) (base := base) (A := t_is_lit.at_ X G) (h_first_misplaced := h_first_misplaced) (h_site_count := h_site_count)
  have h_first_bad_beat := ok_first_bad_beat (P := l.prog) (w := w) (base := base) (A := t_first_bad_beat.at_ X G) (b_isinstance := b_isinstance) (b_tuple := b_tuple) (b_len := b_len) (b_enumerate := b_enumerate) (m_MOST_BEATS := m_MOST_BEATS) (h_is_lit := h_is_lit)
  have h_require_told := ok_require_told (P := l.prog) (w := w) (base := base) (A := t_require_told.at_ X G) (h_first_bad_beat := h_first_bad_beat)
  have h_edge_count := ok_edge_count (P := l.prog) (w := w) (base := base) (A := t_edge_count.at_ X G) (h_site_count := h_site_count)
  have h_is_pair := ok_is_pair (P := l.prog) (w := w) (base := base) (A := t_is_pair.at_ X G) (b_isinstance := b_isinstance) (b_tuple := b_tuple) (b_len := b_len) (h_is_lit := h_is_lit) (h_first_misplaced := h_first_misplaced) (h_edge_count := h_edge_count)
  have h_first_bad_pair := ok_first_bad_pair (P := l.prog) (w := w) (base := base) (A := t_first_bad_pair.at_ X G) (b_isinstance := b_isinstance) (b_list := b_list) (b_enumerate := b_enumerate) (b_len := b_len) (h_is_pair := h_is_pair)
  have h_require_story := ok_require_story (P := l.prog) (w := w) (base := base) (A := t_require_story.at_ X G) (h_first_bad_pair := h_first_bad_pair)
  have h_require_count := ok_require_count (P := l.prog) (w := w) (base := base) (A := t_require_count.at_ X G) (m_LEAST_COUNT := m_LEAST_COUNT) (m_MOST_COUNT := m_MOST_COUNT) (h_is_whole := h_is_whole)
  have h_require_flips := ok_require_flips (P := l.prog) (w := w) (base := base) (A := t_require_flips.at_ X G) (h_first_misplaced := h_first_misplaced) (h_edge_count := h_edge_count)
  have h_odd_ones := ok_odd_ones (P := l.prog) (w := w) (base := base) (A := t_odd_ones.at_ X G) (b_tuple := b_tuple) (b_enumerate := b_enumerate)
  have h_after := ok_after (P := l.prog) (w := w) (base := base) (A := t_after.at_ X G) (h_require_board := h_require_board) (h_require_flips := h_require_flips) (h_odd_ones := h_odd_ones) (h_edge_count := h_edge_count)
  have h_goes_down := ok_goes_down (P := l.prog) (w := w) (base := base) (A := t_goes_down.at_ X G) 
  have h_crosses_first_seam := ok_crosses_first_seam (P := l.prog) (w := w) (base := base) (A := t_crosses_first_seam.at_ X G) (h_goes_down := h_goes_down)
  have h_crosses_second_seam := ok_crosses_second_seam (P := l.prog) (w := w) (base := base) (A := t_crosses_second_seam.at_ X G) (h_goes_down := h_goes_down)
  have h_seams := ok_seams (P := l.prog) (w := w) (base := base) (A := t_seams.at_ X G) (b_len := b_len) (h_require_board := h_require_board) (h_require_flips := h_require_flips) (h_crosses_first_seam := h_crosses_first_seam) (h_crosses_second_seam := h_crosses_second_seam)
  have h_site_right_of := ok_site_right_of (P := l.prog) (w := w) (base := base) (A := t_site_right_of.at_ X G) 
  have h_site_below := ok_site_below (P := l.prog) (w := w) (base := base) (A := t_site_below.at_ X G) (h_site_count := h_site_count)
  have h_edge_ends := ok_edge_ends (P := l.prog) (w := w) (base := base) (A := t_edge_ends.at_ X G) (h_goes_down := h_goes_down) (h_site_right_of := h_site_right_of) (h_site_below := h_site_below)
  have h_checks := ok_checks (P := l.prog) (w := w) (base := base) (A := t_checks.at_ X G) (h_require_board := h_require_board) (h_require_flips := h_require_flips) (h_odd_ones := h_odd_ones) (h_site_count := h_site_count) (h_edge_ends := h_edge_ends)
  have h_judged := ok_judged (P := l.prog) (w := w) (base := base) (A := t_judged.at_ X G) (b_len := b_len) (b_zip := b_zip) (h_require_board := h_require_board) (h_require_told := h_require_told) (h_require_story := h_require_story) (h_require_count := h_require_count) (h_after := h_after) (h_seams := h_seams) (h_odd_ones := h_odd_ones) (h_site_count := h_site_count) (h_checks := h_checks)
  exact ok_law (F := fun_mk (st := s_law) l1 c k) (b_range := b_range) (b_sum := b_sum) (b_len := b_len) (b_tuple := b_tuple) (h__law_board := h__law_board) (h__law_taken := h__law_taken) (h__law_some := h__law_some) (h__law_told_by := h__law_told_by) (h__law_seams := h__law_seams) (h__law_alike := h__law_alike) (h_judged := h_judged)
end Sb
open PySem PySem.W PyProof.Rows
local macro_rules | `(tactic| walk_at "tf") => `(tactic| (refine' Sb.textFn_mk ?a ?l ?c ?k; (case a => k_is); (case l => k_is); (case c => k_is); (case k => k_is)))
local macro_rules | `(tactic| walk_at "tk2") => `(tactic| (refine' Sb.textFnK_int2 ?a ?l ?c ?k ?d ?e; (case a => k_is); (case l => k_is); (case c => k_is); (case k => k_is); (case d => k_is); (case e => k_is)))
set_option maxRecDepth 100000 in
set_option maxHeartbeats 0 in
theorem PySem.Challenge.cw_seamboard_k08_stories_judged_holds : PySem.Challenge.rw_seamboard_k08_stories_judged.Holds := by
  w_on; o_law; k_head; (case hw => w_witness2)
  k_fill
  refine L2.walk_of (l := PySem.Challenge.rw_seamboard_k08_stories_judged) (n := 63) (k := 8) (x := "_law_script") (CX := fun _ => L2.CX0) (sp := fun w => Sb.spLaw _) rfl (by decide) rfl ⟨rfl, by decide, by decide⟩ (fun w h Y => PySem.W.kIn_of Y) ?F (fun _ _ a ns hl _ hS => ⟨a, ns, rfl, hS, hl, fun _ => rfl⟩) (fun _ _ _ _ _ h => h)
  case F =>
    intro w mg fa h KX G hmg
    refine' Sb.all_mk KX G hmg ?t__law_taken ?t__law_board ?t__law_some ?t__law_ends ?t__law_told_by ?t__law_crosses ?t__law_seams ?t__law_alike ?t_is_whole ?t_is_side ?t_require_board ?t_first_misplaced ?t_site_count ?t_is_lit ?t_first_bad_beat ?t_require_told ?t_edge_count ?t_is_pair ?t_first_bad_pair ?t_require_story ?t_require_count ?t_require_flips ?t_odd_ones ?t_after ?t_goes_down ?t_crosses_first_seam ?t_crosses_second_seam ?t_seams ?t_site_right_of ?t_site_below ?t_edge_ends ?t_checks ?t_judged ?t_law ?z_len ?z_range ?z_min ?z_int ?z_tuple ?z_sorted ?z_sum ?z_isinstance ?z_list ?z_bool ?z_enumerate ?z_zip ?z_LEAST_SIDE ?z_MOST_SIDE ?z_MOST_BEATS ?z_LEAST_COUNT ?z_MOST_COUNT
    (case t__law_taken => walk_at "tf")
    (case t__law_board => walk_at "tf")
    (case t__law_some => walk_at "tf")
    (case t__law_ends => walk_at "tf")
    (case t__law_told_by => walk_at "tf")
    (case t__law_crosses => walk_at "tf")
    (case t__law_seams => walk_at "tf")
    (case t__law_alike => walk_at "tf")
    (case t_is_whole => walk_at "tf")
    (case t_is_side => walk_at "tf")
    (case t_require_board => walk_at "tf")
    (case t_first_misplaced => walk_at "tf")
    (case t_site_count => walk_at "tf")
    (case t_is_lit => walk_at "tf")
    (case t_first_bad_beat => walk_at "tf")
    (case t_require_told => walk_at "tf")
    (case t_edge_count => walk_at "tf")
    (case t_is_pair => walk_at "tf")
    (case t_first_bad_pair => walk_at "tf")
    (case t_require_story => walk_at "tf")
    (case t_require_count => walk_at "tf")
    (case t_require_flips => walk_at "tf")
    (case t_odd_ones => walk_at "tf")
    (case t_after => walk_at "tf")
    (case t_goes_down => walk_at "tf")
    (case t_crosses_first_seam => walk_at "tf")
    (case t_crosses_second_seam => walk_at "tf")
    (case t_seams => walk_at "tf")
    (case t_site_right_of => walk_at "tf")
    (case t_site_below => walk_at "tf")
    (case t_edge_ends => walk_at "tf")
    (case t_checks => walk_at "tf")
    (case t_judged => walk_at "tk2")
    (case t_law => walk_at "tf")
    (case z_len => k_is)
    (case z_range => k_is)
    (case z_min => k_is)
    (case z_int => k_is)
    (case z_tuple => k_is)
    (case z_sorted => k_is)
    (case z_sum => k_is)
    (case z_isinstance => k_is)
    (case z_list => k_is)
    (case z_bool => k_is)
    (case z_enumerate => k_is)
    (case z_zip => k_is)
    (case z_LEAST_SIDE => k_is)
    (case z_MOST_SIDE => k_is)
    (case z_MOST_BEATS => k_is)
    (case z_LEAST_COUNT => k_is)
    (case z_MOST_COUNT => k_is)
