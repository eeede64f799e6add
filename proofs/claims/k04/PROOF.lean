import PyProof.Rows.All
import Wide.All
import OpenK.AllK
import Wide.FinOn
import HandS.ForMost
import HandS.Evl
import HandS.Style
import HandS.IsInst
import HandS.SetFor
import HandS.Star
import HandS.SortInts
import HandS.TupAny
import HandS.Conv
import KE.GoesEnum
import PySem.Challenge.RW_seamboard_k04_led_by_faces
set_option Elab.async false
set_option linter.all false
set_option maxRecDepth 100000
/-! Seamboard, layer 1: what a reading gives, told by data (PyData) alone. -/
namespace Sb
open PySem PySem.Spec PyProof.Rows L2

abbrev Dt := PyData
/-- nothing is lost -/
def Gr (H H' : Hp) : Prop := ∀ a o, H a = some o → H' a = some o
theorem Gr.refl (H : Hp) : Gr H H := fun _ _ h => h
theorem Gr.trans {H H1 H2 : Hp} (a : Gr H H1) (b : Gr H1 H2) : Gr H H2 := fun x o h => b x o (a x o h)
theorem Gr.back {H H' : Hp} {p : Addr} (e : Gr H H') (h : H' p = none) : H p = none := by
  cases q : H p with
  | none => rfl
  | some o => rw [e p o q] at h; cases h
theorem Gr.new {H : Hp} {p : Addr} {o : HO} (h : H p = none) : Gr H (upd H p o) := fun a u e => by
  rw [upd_ne (ne_of_none e h)]; exact e
theorem Gr.both {G H : Hp} {p : Addr} {o : HO} (e : Gr G H) : Gr (upd G p o) (upd H p o) := fun a u h => by
  by_cases q : a = p
  · subst q; rw [upd_same] at h ⊢; exact h
  · rw [upd_ne q] at h ⊢; exact e a u h
theorem gr_l {K : PySem.W.Frag} {H H' : Hp} {a : Addr} {xs : List V} (e : Gr H H') (h : SqL K H a xs) : SqL K H' a xs := by
  rcases h with (h | ⟨o, h⟩) | h
  · exact .inl (.inl (e _ _ h))
  · exact .inl (.inr ⟨o, e _ _ h⟩)
  · exact .inr h
theorem gr_t {K : PySem.W.Frag} {H H' : Hp} {a : Addr} {xs : List V} (e : Gr H H') (h : SqT K H a xs) : SqT K H' a xs := by
  rcases h with (h | ⟨o, h⟩) | h
  · exact .inl (.inl (e _ _ h))
  · exact .inl (.inr ⟨o, e _ _ h⟩)
  · exact .inr h
mutual
theorem dp_up {K : PySem.W.Frag} {H H' : Hp} (e : Gr H H') : ∀ (d : Dt) (v : V), Dp K H v d → Dp K H' v d
  | .none, _, h => by cases h; exact .non
  | .bool b, _, h => by cases h; exact .bl b
  | .int i, _, h => by cases h; exact .int i
  | .str x, _, h => by cases h; exact .str x
  | .list ds, _, h => by cases h with | lst a b => exact .lst (gr_l e a) (dps_up e ds _ b)
  | .tuple ds, _, h => by cases h with | tup a b => exact .tup (gr_t e a) (dps_up e ds _ b)
  | .dict _, _, h => by cases h
theorem dps_up {K : PySem.W.Frag} {H H' : Hp} (e : Gr H H') : ∀ (ds : List Dt) (vs : List V), DpAll K H vs ds → DpAll K H' vs ds
  | [], _, h => by cases h; exact .nil
  | d :: ds, _, h => by cases h with | cons a b => exact .cons (dp_up e d _ a) (dps_up e ds _ b)
end
section
variable {K : PySem.W.Frag} {H H' : Hp} {v : V} {vs : List V} {d : Dt} {ds : List Dt}
theorem Dpu (h : Dp K H v d) (e : Gr H H') : Dp K H' v d := dp_up e d v h
theorem Dpsu (h : DpAll K H vs ds) (e : Gr H H') : DpAll K H' vs ds := dps_up e ds vs h
theorem dps_len : ∀ {vs : List V} {ds : List Dt}, DpAll K H vs ds → vs.length = ds.length
  | _, _, .nil => rfl
  | _, _, .cons _ h => by rw [List.length_cons, List.length_cons, dps_len h]
theorem dps_get : ∀ {vs : List V} {ds : List Dt} {i : Nat} {d : Dt}, DpAll K H vs ds → ds[i]? = some d → ∃ v, vs[i]? = some v ∧ Dp K H v d
  | _, _, _, _, .nil, e => by simp at e
  | _, _, 0, _, .cons a _, e => by simp at e; subst e; exact ⟨_, rfl, a⟩
  | _, _, i + 1, d, .cons _ h, e => by
    obtain ⟨v, h1, h2⟩ := dps_get (i := i) (d := d) h (by simpa using e)
    exact ⟨v, by simpa using h1, h2⟩
theorem dps_get' {vs : List V} {ds : List Dt} {i : Nat} {v : V} (h : DpAll K H vs ds) (e : vs[i]? = some v) : ∃ d, ds[i]? = some d ∧ Dp K H v d := by
  have hi := (List.getElem?_eq_some_iff.mp e).1
  rw [dps_len h] at hi
  obtain ⟨w, h1, h2⟩ := dps_get h (List.getElem?_eq_getElem hi)
  rw [e] at h1; cases h1
  exact ⟨_, List.getElem?_eq_getElem hi, h2⟩
theorem dps_app : ∀ {vs ws : List V} {ds es : List Dt}, DpAll K H vs ds → DpAll K H ws es → DpAll K H (vs ++ ws) (ds ++ es)
  | _, _, _, _, .nil, s => s
  | _, _, _, _, .cons a t, s => .cons a (dps_app t s)
theorem dps_one (h : Dp K H v d) : DpAll K H [v] [d] := .cons h .nil
theorem dps_ints : ∀ (ns : List Int), DpAll K H (ns.map V.int) (ns.map PyData.int)
  | [] => .nil
  | n :: ns => .cons (.int n) (dps_ints ns)
theorem ints_of : ∀ {ns : List Int} {vs : List V}, DpAll K H vs (ns.map PyData.int) → vs = ns.map V.int
  | [], _, h => by cases h; rfl
  | n :: ns, _, h => by
    rw [List.map_cons] at h
    cases h with
    | cons a b => cases a; rw [ints_of b, List.map_cons]
end

/-- a step that changes nothing that was there; G: what stands for good, H: all -/
structure Stp (G H G2 H2 : Hp) : Prop where
  g : Gr G G2
  s : Gr G2 H2
  h : Gr H H2
  f : ∀ a, H a ≠ none → G a = none → G2 a = none
section
variable {G H G1 H1 G2 H2 : Hp} {p : Addr} {o : HO}
theorem Stp.refl (s : Gr G H) : Stp G H G H := ⟨.refl _, s, .refl _, fun _ _ h => h⟩
theorem Stp.trans (a : Stp G H G1 H1) (b : Stp G1 H1 G2 H2) : Stp G H G2 H2 :=
  ⟨a.g.trans b.g, b.s, a.h.trans b.h, fun x h1 h2 => b.f x (fun q => by
    cases e : H x with
    | none => exact h1 e
    | some o => rw [a.h x o e] at q; cases q) (a.f x h1 h2)⟩
theorem Stp.new (s : Gr G H) (hp : H p = none) : Stp G H (upd G p o) (upd H p o) :=
  ⟨.new (s.back hp), s.both, .new hp, fun a h1 h2 => by
    have : a ≠ p := fun e => h1 (e ▸ hp)
    rw [upd_ne this]; exact h2⟩
/-- a new thing that is kept apart (it will change) -/
theorem Stp.hid (s : Gr G H) (hp : H p = none) : Stp G H G (upd H p o) :=
  ⟨.refl _, s.trans (.new hp), .new hp, fun _ _ h => h⟩
/-- what was kept apart stands for good from now on: it was not there at the start -/
theorem Stp.show (s : Stp G H G2 H2) (hp : H p = none) (hg : G2 p = none) (h2 : H2 p = some o) : Stp G H (upd G2 p o) H2 :=
  ⟨s.g.trans (.new hg), fun a u e => by
    by_cases q : a = p
    · subst q; rw [upd_same] at e; rw [h2]; exact e
    · rw [upd_ne q] at e; exact s.s a u e, s.h, fun a h1 h0 => by
    have : a ≠ p := fun e => h1 (e ▸ hp)
    rw [upd_ne this]; exact s.f a h1 h0⟩
/-- what is kept apart is written -/
theorem Stp.put {u : HO} (s : Stp G H G2 H2) (hp : H p = none) (hg : G2 p = none) : Stp G H G2 (upd H2 p u) :=
  ⟨s.g, fun a o e => by
    have : a ≠ p := fun q => by rw [q, hg] at e; cases e
    rw [upd_ne this]; exact s.s a o e, fun a o e => by
    have : a ≠ p := fun q => by rw [q, hp] at e; cases e
    rw [upd_ne this]; exact s.h a o e, s.f⟩
end

/-- what a name holds: data that stands for good, or a thing at an address -/
inductive Wd where
  | d (x : Dt)
  | r (a : Addr)
  | l (xs : List Dt)
/-- .l: a list that stands for good, tracked -/
def WOk (K : PySem.W.Frag) (G : Hp) (v : V) : Wd → Prop
  | .d x => Dp K G v x
  | .r a => v = .ref a
  | .l xs => ∃ p vs, v = .ref p ∧ G p = some (.lst vs) ∧ DpAll K G vs xs
abbrev Sl := List (Option Wd)
structure En (K : PySem.W.Frag) (G : Hp) (σ : L2.St) (Δ : Sl) : Prop where
  len : σ.length = Δ.length
  at_ : ∀ (i : Nat) (w : Wd), Δ[i]? = some (some w) → ∃ v, σ[i]? = some (some v) ∧ WOk K G v w
section
variable {K : PySem.W.Frag} {G G2 : Hp} {σ : L2.St} {Δ : Sl} {v : V} {w : Wd}
theorem wok_up (h : WOk K G v w) (e : Gr G G2) : WOk K G2 v w := by
  cases w with
  | d x => exact Dpu h e
  | r a => exact h
  | l xs => obtain ⟨p, vs, a, b, c⟩ := h; exact ⟨p, vs, a, e _ _ b, Dpsu c e⟩
theorem En.up (h : En K G σ Δ) (e : Gr G G2) : En K G2 σ Δ :=
  ⟨h.len, fun i w hi => let ⟨v, a, b⟩ := h.at_ i w hi; ⟨v, a, wok_up b e⟩⟩
theorem En.set (h : En K G σ Δ) (i : Nat) (hw : WOk K G v w) : En K G (σ.set i (some v)) (Δ.set i (some w)) := by
  refine ⟨by rw [List.length_set, List.length_set, h.len], fun j u hj => ?_⟩
  by_cases e : j = i
  · subst e
    have hl : j < (Δ.set j (some w)).length := (List.getElem?_eq_some_iff.mp hj).1
    rw [List.length_set] at hl
    rw [List.getElem?_set_self hl] at hj
    cases hj
    exact ⟨v, by rw [List.getElem?_set_self (by rw [h.len]; exact hl)], hw⟩
  · rw [List.getElem?_set_ne (Ne.symm e)] at hj
    obtain ⟨x, a, b⟩ := h.at_ j u hj
    exact ⟨x, by rw [List.getElem?_set_ne (Ne.symm e)]; exact a, b⟩
/-- forgetting -/
def Lt (Δ Δ' : Sl) : Prop := Δ.length = Δ'.length ∧ ∀ (i : Nat) (w : Wd), Δ'[i]? = some (some w) → Δ[i]? = some (some w)
theorem En.weak {Δ' : Sl} (h : En K G σ Δ) (l : Lt Δ Δ') : En K G σ Δ' := ⟨h.len.trans l.1, fun i w hi => h.at_ i w (l.2 i w hi)⟩
def wipeD (Δ : Sl) : List Nat → Sl
  | [] => Δ
  | v :: vs => (wipeD Δ vs).set v none
theorem En.wipe (h : En K G σ Δ) : ∀ vs : List Nat, En K G (wipe σ vs) (wipeD Δ vs)
  | [] => h
  | v :: vs => by
    have ih := En.wipe h vs
    refine ⟨by show ((L2.wipe σ vs).set v none).length = ((wipeD Δ vs).set v none).length; rw [List.length_set, List.length_set, ih.len], fun j u hj => ?_⟩
    have hj' : ((wipeD Δ vs).set v none)[j]? = some (some u) := hj
    by_cases e : j = v
    · subst e
      have hl : j < ((wipeD Δ vs).set j none).length := (List.getElem?_eq_some_iff.mp hj').1
      rw [List.length_set] at hl
      rw [List.getElem?_set_self hl] at hj'
      cases hj'
    · rw [List.getElem?_set_ne (Ne.symm e)] at hj'
      obtain ⟨x, a, b⟩ := ih.at_ j u hj'
      exact ⟨x, by show ((L2.wipe σ vs).set v none)[j]? = _; rw [List.getElem?_set_ne (Ne.symm e)]; exact a, b⟩
end

/-! ### the judgements, data alone -/
def Ev (K : PySem.W.Frag) (te : TE) (Δ : Sl) (d : Dt) : Prop :=
  ∀ (σ : L2.St) (G H : Hp) (Q : VK), En K G σ Δ → Gr G H → (∀ v G2 H2, Stp G H G2 H2 → Dp K G2 v d → Q v H2) → te σ H Q
def EvA (K : PySem.W.Frag) (ta : TA) (Δ : Sl) (ds : List Dt) : Prop :=
  ∀ (σ : L2.St) (G H : Hp) (Q : List V → Hp → Prop), En K G σ Δ → Gr G H → (∀ vs G2 H2, Stp G H G2 H2 → DpAll K G2 vs ds → Q vs H2) → ta σ H Q
def EvT (K : PySem.W.Frag) (tt : TT) (Δ : Sl) (b : Bool) : Prop :=
  ∀ (σ : L2.St) (G H : Hp) (Q : Bool → Hp → Prop), En K G σ Δ → Gr G H → (∀ G2 H2, Stp G H G2 H2 → Q b H2) → tt σ H Q
/-- operations upon values -/
def RV (K : PySem.W.Frag) (r : R2) (x y z : Dt) : Prop :=
  ∀ (G H : Hp) (v u : V) (Q : VK), Gr G H → Dp K G v x → Dp K G u y → (∀ w G2 H2, Stp G H G2 H2 → Dp K G2 w z → Q w H2) → r v u H Q
def RU (K : PySem.W.Frag) (r : V → Hp → VK → Prop) (x z : Dt) : Prop :=
  ∀ (G H : Hp) (v : V) (Q : VK), Gr G H → Dp K G v x → (∀ w G2 H2, Stp G H G2 H2 → Dp K G2 w z → Q w H2) → r v H Q
def RC (K : PySem.W.Frag) (r : List V → Hp → VK → Prop) (xs : List Dt) (z : Dt) : Prop :=
  ∀ (G H : Hp) (vs : List V) (Q : VK), Gr G H → DpAll K G vs xs → (∀ w G2 H2, Stp G H G2 H2 → Dp K G2 w z → Q w H2) → r vs H Q
section
variable {K : PySem.W.Frag} {Δ : Sl} {ta tb te : TE} {t : TA} {tt tu : TT} {x y z d : Dt} {xs ds : List Dt} {r : R2}
theorem ev_var {i : Nat} (h : Δ[i]? = some (some (.d d))) : Ev K (tVar i) Δ d := fun σ G H Q e s q => by
  obtain ⟨v, a, b⟩ := e.at_ i _ h
  exact ⟨v, a, q v G H (.refl s) b⟩
theorem ev_c {v : V} (h : ∀ G, Dp K G v d) : Ev K (tC v) Δ d := fun σ G H Q e s q => q v G H (.refl s) (h G)
theorem ev_int {i : Int} : Ev K (tC (.int i)) Δ (.int i) := ev_c fun _ => .int i
theorem ev_bl {b : Bool} : Ev K (tC (.bl b)) Δ (.bool b) := ev_c fun _ => .bl b
theorem ev_non : Ev K (tC .non) Δ .none := ev_c fun _ => .non
theorem ev_str {s : Str} : Ev K (tC (.str s)) Δ (.str s) := ev_c fun _ => .str s
theorem ev_is (h : Ev K te Δ x) (e : x = y) : Ev K te Δ y := e ▸ h
theorem et_is {a b : Bool} (h : EvT K tt Δ a) (e : a = b) : EvT K tt Δ b := e ▸ h
theorem ea_is (h : EvA K t Δ xs) (e : xs = ds) : EvA K t Δ ds := e ▸ h
theorem ev_op (ha : Ev K ta Δ x) (hb : Ev K tb Δ y) (hr : RV K r x y z) : Ev K (tOp r ta tb) Δ z := fun σ G H Q e s q =>
  ha σ G H _ e s fun v G1 H1 s1 dv => hb σ G1 H1 _ (e.up s1.g) s1.s fun u G2 H2 s2 du => hr G2 H2 v u Q s2.s (Dpu dv s2.g) du fun w G3 H3 s3 dw => q w G3 H3 ((s1.trans s2).trans s3) dw
theorem ev_un {r : V → Hp → VK → Prop} (ha : Ev K ta Δ x) (hr : RU K r x z) : Ev K (tUn r ta) Δ z := fun σ G H Q e s q =>
  ha σ G H _ e s fun v G1 H1 s1 dv => hr G1 H1 v Q s1.s dv fun w G3 H3 s3 dw => q w G3 H3 (s1.trans s3) dw
theorem ea_nil : EvA K tNil Δ [] := fun σ G H Q e s q => q [] G H (.refl s) .nil
theorem ea_cons (ha : Ev K ta Δ x) (ht : EvA K t Δ xs) : EvA K (tCons ta t) Δ (x :: xs) := fun σ G H Q e s q =>
  ha σ G H _ e s fun v G1 H1 s1 dv => ht σ G1 H1 _ (e.up s1.g) s1.s fun vs G2 H2 s2 dvs => q (v :: vs) G2 H2 (s1.trans s2) (.cons (Dpu dv s2.g) dvs)
theorem ev_cb {r : List V → Hp → VK → Prop} (ha : EvA K t Δ xs) (hr : RC K r xs z) : Ev K (tCB r t) Δ z := fun σ G H Q e s q =>
  ha σ G H _ e s fun vs G1 H1 s1 dv => hr G1 H1 vs Q s1.s dv fun w G3 H3 s3 dw => q w G3 H3 (s1.trans s3) dw
theorem new_t {G H : Hp} {vs : List V} {p : Addr} (s : Gr G H) (hp : H p = none) (h : DpAll K G vs ds) : Stp G H (upd G p (.tup vs)) (upd H p (.tup vs)) ∧ Dp K (upd G p (.tup vs)) (.ref p) (.tuple ds) :=
  ⟨.new s hp, .tup (.inl (.inl upd_same)) (Dpsu h (.new (s.back hp)))⟩
theorem new_l {G H : Hp} {vs : List V} {p : Addr} (s : Gr G H) (hp : H p = none) (h : DpAll K G vs ds) : Stp G H (upd G p (.lst vs)) (upd H p (.lst vs)) ∧ Dp K (upd G p (.lst vs)) (.ref p) (.list ds) :=
  ⟨.new s hp, .lst (.inl (.inl upd_same)) (Dpsu h (.new (s.back hp)))⟩
theorem ev_tup (ha : EvA K t Δ ds) (hl : ds.length ≤ 100000) : Ev K (tTup t) Δ (.tuple ds) := fun σ G H Q e s q =>
  ha σ G H _ e s fun vs G1 H1 s1 dv => ⟨by rw [dps_len dv]; exact Evl.sz_of hl, fun p hp => let n := new_t s1.s hp dv; q _ _ _ (s1.trans n.1) n.2⟩
theorem ev_lst (ha : EvA K t Δ ds) (hl : ds.length ≤ 100000) : Ev K (tLst t) Δ (.list ds) := fun σ G H Q e s q =>
  ha σ G H _ e s fun vs G1 H1 s1 dv => ⟨by rw [dps_len dv]; exact Evl.sz_of hl, fun p hp => let n := new_l s1.s hp dv; q _ _ _ (s1.trans n.1) n.2⟩
/-! ints -/
theorem rv_I0 {f : Int → Int → Int} {i j : Int} : RV K (rI0 fun i j => .int (f i j)) (.int i) (.int j) (.int (f i j)) := fun G H v u Q s a b q => by
  cases a; cases b; exact ⟨i, j, rfl, rfl, q _ G H (.refl s) (.int _)⟩
theorem rv_B0 {f : Int → Int → Bool} {i j : Int} : RV K (rI0 fun i j => .bl (f i j)) (.int i) (.int j) (.bool (f i j)) := fun G H v u Q s a b q => by
  cases a; cases b; exact ⟨i, j, rfl, rfl, q _ G H (.refl s) (.bl _)⟩
theorem rv_I {C : Int → Int → Prop} {f : Int → Int → Int} {i j : Int} (c : C i j) : RV K (rI C fun i j => .int (f i j)) (.int i) (.int j) (.int (f i j)) := fun G H v u Q s a b q => by
  cases a; cases b; exact ⟨i, j, rfl, rfl, c, q _ G H (.refl s) (.int _)⟩
theorem ru_I {f : Int → Int} {i : Int} : RU K (rU fun i => .int (f i)) (.int i) (.int (f i)) := fun G H v Q s a q => by
  cases a; exact ⟨i, rfl, q _ G H (.refl s) (.int _)⟩
theorem rv_eqD (hx : SeqAt.shaped x = true) (hy : SeqAt.shaped y = true) : RV K (rEqD K) x y (.bool (PyData.eqv x y)) := fun G H v u Q s a b q =>
  ⟨x, y, Dpu a s, Dpu b s, hx, hy, q _ G H (.refl s) (.bl _)⟩
theorem rv_neD (hx : SeqAt.shaped x = true) (hy : SeqAt.shaped y = true) : RV K (rNeD K) x y (.bool (!PyData.eqv x y)) := fun G H v u Q s a b q =>
  ⟨x, y, Dpu a s, Dpu b s, hx, hy, q _ G H (.refl s) (.bl _)⟩
def isNo : Dt → Bool
  | .none => true
  | _ => false
theorem isNo_v {G : Hp} {v : V} (h : Dp K G v x) : decide (v = .non) = isNo x := by cases h <;> rfl
theorem rv_isN : RV K (fun x y H Q => y = .non ∧ Q (.bl (decide (x = .non))) H) x .none (.bool (isNo x)) := fun G H v u Q s a b q => by
  cases b; refine ⟨rfl, ?_⟩; rw [isNo_v a]; exact q _ G H (.refl s) (.bl _)
theorem rv_notN : RV K (fun x y H Q => y = .non ∧ Q (.bl (!decide (x = .non))) H) x .none (.bool (!isNo x)) := fun G H v u Q s a b q => by
  cases b; refine ⟨rfl, ?_⟩; rw [isNo_v a]; exact q _ G H (.refl s) (.bl _)
theorem at_of {G : Hp} {vs : List V} {i : Int} (h : DpAll K G vs ds) (e : atI ds i = some d) : ∃ v, atI vs i = some v ∧ Dp K G v d := by
  unfold atI at e ⊢
  rw [dps_len h]
  cases q : ixN ds.length i with
  | none => rw [q] at e; cases e
  | some j =>
    rw [q] at e
    exact dps_get h e
theorem rv_ixT {i : Int} (e : atI ds i = some d) : RV K (rIxT K) (.tuple ds) (.int i) d := fun G H v u Q s a b q => by
  cases b
  cases a with
  | tup h1 h2 =>
    obtain ⟨w, e1, e2⟩ := at_of h2 e
    exact ⟨_, _, i, w, rfl, rfl, gr_t s h1, e1, q _ G H (.refl s) e2⟩
theorem rv_ixL {i : Int} (e : atI ds i = some d) : RV K (rIxL K) (.list ds) (.int i) d := fun G H v u Q s a b q => by
  cases b
  cases a with
  | lst h1 h2 =>
    obtain ⟨w, e1, e2⟩ := at_of h2 e
    exact ⟨_, _, i, w, rfl, rfl, gr_l s h1, e1, q _ G H (.refl s) e2⟩
theorem at_nn {α : Type} {xs : List α} {i : Int} {v : α} (h0 : 0 ≤ i) (h : xs[i.toNat]? = some v) : atI xs i = some v := by
  have e : i = ((i.toNat : Nat) : Int) := by omega
  rw [e]
  exact atI_nat h
/-! in -/
def hasI (i : Int) (ns : List Int) : Bool := ns.contains i
theorem inV_ints (i : Int) : ∀ ns : List Int, inV (.int i) (ns.map V.int) = hasI i ns
  | [] => rfl
  | n :: ns => by
    have ih := inV_ints i ns
    unfold inV at ih ⊢
    rw [List.map_cons, List.any_cons, ih]
    show (eqV (V.int n) (V.int i) || hasI i ns) = hasI i (n :: ns)
    unfold hasI
    rw [List.contains_cons]
    have : eqV (V.int n) (V.int i) = (i == n) := by
      show (n == i) = (i == n)
      exact BEq.comm
    rw [this]
theorem flat_ints : ∀ ns : List Int, (ns.map V.int).all flatV = true
  | [] => rfl
  | n :: ns => by rw [List.map_cons, List.all_cons, flat_ints ns]; rfl
theorem rv_inT {i : Int} {ns : List Int} : RV K (rIn K false) (.int i) (.tuple (ns.map .int)) (.bool (hasI i ns)) := fun G H v u Q s a b q => by
  cases a
  cases b with
  | tup h1 h2 =>
    have e := ints_of h2
    subst e
    refine ⟨_, _, rfl, .inr (gr_t s h1), rfl, flat_ints ns, ?_⟩
    show Q (.bl (inV (.int i) (ns.map V.int))) H
    rw [inV_ints]
    exact q _ G H (.refl s) (.bl _)
theorem rv_niT {i : Int} {ns : List Int} : RV K (rIn K true) (.int i) (.tuple (ns.map .int)) (.bool (!hasI i ns)) := fun G H v u Q s a b q => by
  cases a
  cases b with
  | tup h1 h2 =>
    have e := ints_of h2
    subst e
    refine ⟨_, _, rfl, .inr (gr_t s h1), rfl, flat_ints ns, ?_⟩
    show Q (.bl (!inV (.int i) (ns.map V.int))) H
    rw [inV_ints]
    exact q _ G H (.refl s) (.bl _)
theorem rv_niL {i : Int} {ns : List Int} : RV K (rIn K true) (.int i) (.list (ns.map .int)) (.bool (!hasI i ns)) := fun G H v u Q s a b q => by
  cases a
  cases b with
  | lst h1 h2 =>
    have e := ints_of h2
    subst e
    refine ⟨_, _, rfl, .inl (gr_l s h1), rfl, flat_ints ns, ?_⟩
    show Q (.bl (!inV (.int i) (ns.map V.int))) H
    rw [inV_ints]
    exact q _ G H (.refl s) (.bl _)
theorem rv_inL {i : Int} {ns : List Int} : RV K (rIn K false) (.int i) (.list (ns.map .int)) (.bool (hasI i ns)) := fun G H v u Q s a b q => by
  cases a
  cases b with
  | lst h1 h2 =>
    have e := ints_of h2
    subst e
    refine ⟨_, _, rfl, .inl (gr_l s h1), rfl, flat_ints ns, ?_⟩
    show Q (.bl (inV (.int i) (ns.map V.int))) H
    rw [inV_ints]
    exact q _ G H (.refl s) (.bl _)
/-! tuple + tuple, list + list, list * int -/
theorem rv_catA {xs ys : List Dt} (hl : xs.length + ys.length ≤ 100000) : RV K (rCatA K) (.tuple xs) (.tuple ys) (.tuple (xs ++ ys)) := fun G H v u Q s a b q => by
  cases a with
  | tup h1 h2 =>
    cases b with
    | tup k1 k2 =>
      refine ⟨_, _, _, _, rfl, rfl, gr_t s h1, gr_t s k1, by rw [dps_len h2, dps_len k2]; exact Evl.sz_of hl, fun e => ?_, fun e e' => ?_, fun e e' p hp => ?_⟩
      · subst e; cases h2; exact q _ G H (.refl s) (.tup k1 k2)
      · subst e'; cases k2; exact q _ G H (.refl s) (by rw [List.append_nil]; exact .tup h1 h2)
      · have n := new_t s hp (dps_app h2 k2); exact q _ _ _ n.1 n.2
end
end Sb

/-! Seamboard, layer 2: lists, calls, comprehensions, statements, loops, told by data. -/
namespace Sb
open PySem PySem.Spec PyProof.Rows L2

/-- a new list (or a name's list), tracked -/
def EvN (K : PySem.W.Frag) (te : TE) (Δ : Sl) (ds : List Dt) : Prop :=
  ∀ (σ : L2.St) (G H : Hp) (Q : VK), En K G σ Δ → Gr G H → (∀ p vs G2 H2, Stp G H G2 H2 → G2 p = some (.lst vs) → DpAll K G2 vs ds → Q (.ref p) H2) → te σ H Q
section
variable {K : PySem.W.Frag} {Δ : Sl} {ta tb te : TE} {t : TA} {tt tu : TT} {x y z d : Dt} {xs ys ds : List Dt} {r : R2}
theorem ev_of (h : EvN K te Δ ds) : Ev K te Δ (.list ds) := fun σ G H Q e s q => h σ G H Q e s fun p vs G2 H2 s2 hp dv => q _ G2 H2 s2 (.lst (.inl (.inl hp)) dv)
theorem en_is (h : EvN K te Δ xs) (e : xs = ys) : EvN K te Δ ys := e ▸ h
theorem en_var {i : Nat} (h : Δ[i]? = some (some (.l ds))) : EvN K (tVar i) Δ ds := fun σ G H Q e s q => by
  obtain ⟨v, a, p, vs, b, c, f⟩ := e.at_ i _ h
  subst b
  exact ⟨_, a, q p vs G H (.refl s) c f⟩
theorem ev_varL {i : Nat} (h : Δ[i]? = some (some (.l ds))) : Ev K (tVar i) Δ (.list ds) := ev_of (en_var h)
theorem new_n {G H : Hp} {vs : List V} {p : Addr} (s : Gr G H) (hp : H p = none) (h : DpAll K G vs ds) : Stp G H (upd G p (.lst vs)) (upd H p (.lst vs)) ∧ (upd G p (.lst vs)) p = some (.lst vs) ∧ DpAll K (upd G p (.lst vs)) vs ds :=
  ⟨.new s hp, upd_same, Dpsu h (.new (s.back hp))⟩
theorem en_lst (ha : EvA K t Δ ds) (hl : ds.length ≤ 100000) : EvN K (tLst t) Δ ds := fun σ G H Q e s q =>
  ha σ G H _ e s fun vs G1 H1 s1 dv => ⟨by rw [dps_len dv]; exact Evl.sz_of hl, fun p hp => let n := new_n s1.s hp dv; q _ _ _ _ (s1.trans n.1) n.2.1 n.2.2⟩
theorem en_cat (ha : EvN K ta Δ xs) (hb : EvN K tb Δ ys) (hl : xs.length + ys.length ≤ 100000) : EvN K (tOp rCat ta tb) Δ (xs ++ ys) := fun σ G H Q e s q =>
  ha σ G H _ e s fun a vs G1 H1 s1 h1 d1 => hb σ G1 H1 _ (e.up s1.g) s1.s fun b ws G2 H2 s2 h2 d2 =>
    ⟨a, b, vs, ws, rfl, rfl, s2.s _ _ (s2.g _ _ h1), s2.s _ _ h2, by rw [dps_len d1, dps_len d2]; exact Evl.sz_of hl, fun p hp =>
      let n := new_n s2.s hp (dps_app (Dpsu d1 s2.g) d2)
      q _ _ _ _ ((s1.trans s2).trans n.1) n.2.1 n.2.2⟩
theorem dps_rep {G : Hp} {vs : List V} (h : DpAll K G vs ds) : ∀ n : Nat, DpAll K G (List.replicate n vs).flatten (List.replicate n ds).flatten
  | 0 => .nil
  | n + 1 => by
    rw [List.replicate_succ, List.replicate_succ, List.flatten_cons, List.flatten_cons]
    exact dps_app h (dps_rep h n)
theorem en_rep {k : Int} (ha : EvN K ta Δ xs) (hb : Ev K tb Δ (.int k)) (h0 : 0 ≤ k) (hk : k ≤ 1000) (hl : xs.length ≤ 100) : EvN K (tOp rRep ta tb) Δ (List.replicate k.toNat xs).flatten := fun σ G H Q e s q =>
  ha σ G H _ e s fun a vs G1 H1 s1 h1 d1 => hb σ G1 H1 _ (e.up s1.g) s1.s fun u G2 H2 s2 du => by
    cases du
    refine ⟨a, k, vs, rfl, rfl, s2.s _ _ (s2.g _ _ h1), by omega, by omega, ?_, fun p hp => ?_⟩
    · rw [dps_len d1]
      have h3 : k.toNat ≤ 1000 := by omega
      exact Evl.sz_of (Nat.le_trans (Nat.mul_le_mul hl h3) (by decide))
    · have n := new_n s2.s hp (dps_rep (Dpsu d1 s2.g) k.toNat)
      exact q _ _ _ _ ((s1.trans s2).trans n.1) n.2.1 n.2.2
/-! ### calls of built-ins -/
theorem rc_lenT : RC K (fun xs H Q => ∃ p ys, xs = [.ref p] ∧ (SqL K H p ys ∨ SqT K H p ys) ∧ Q (.int ys.length) H) [.tuple ds] (.int (ds.length : Int)) := fun G H vs Q s h q => by
  cases h with
  | cons a b =>
    cases b
    cases a with
    | tup h1 h2 => exact ⟨_, _, rfl, .inr (gr_t s h1), by rw [dps_len h2]; exact q _ G H (.refl s) (.int _)⟩
theorem rc_lenL : RC K (fun xs H Q => ∃ p ys, xs = [.ref p] ∧ (SqL K H p ys ∨ SqT K H p ys) ∧ Q (.int ys.length) H) [.list ds] (.int (ds.length : Int)) := fun G H vs Q s h q => by
  cases h with
  | cons a b =>
    cases b
    cases a with
    | lst h1 h2 => exact ⟨_, _, rfl, .inl (gr_l s h1), by rw [dps_len h2]; exact q _ G H (.refl s) (.int _)⟩
theorem rc_tupL : RC K (fun xs H Q => ∃ p ys, xs = [.ref p] ∧ ((SqL K H p ys ∧ ∀ l, H l = none → Q (.ref l) (upd H l (.tup ys))) ∨ (SqT K H p ys ∧ Q (.ref p) H))) [.list ds] (.tuple ds) := fun G H vs Q s h q => by
  cases h with
  | cons a b =>
    cases b
    cases a with
    | lst h1 h2 => exact ⟨_, _, rfl, .inl ⟨gr_l s h1, fun l hl => let n := new_t s hl h2; q _ _ _ n.1 n.2⟩⟩
theorem rc_min2 {i j : Int} : RC K (fun xs H Q => ∃ i j, xs = [.int i, .int j] ∧ Q (.int (if j < i then j else i)) H) [.int i, .int j] (.int (min i j)) := fun G H vs Q s h q => by
  cases h with
  | cons a b =>
    cases b with
    | cons c b =>
      cases b; cases a; cases c
      refine ⟨i, j, rfl, ?_⟩
      have e : (if j < i then j else i) = min i j := by rw [Int.min_def]; split <;> split <;> omega
      rw [e]
      exact q _ G H (.refl s) (.int _)
theorem rc_int_i {i : Int} : RC K (fun xs H Q => (∃ i, xs = [.int i] ∧ Q (.int i) H) ∨ ∃ k, xs = [.bl k] ∧ Q (.int (if k then 1 else 0)) H) [.int i] (.int i) := fun G H vs Q s h q => by
  cases h with
  | cons a b => cases b; cases a; exact .inl ⟨i, rfl, q _ G H (.refl s) (.int _)⟩
theorem rc_int_b {k : Bool} : RC K (fun xs H Q => (∃ i, xs = [.int i] ∧ Q (.int i) H) ∨ ∃ k, xs = [.bl k] ∧ Q (.int (if k then 1 else 0)) H) [.bool k] (.int (if k then 1 else 0)) := fun G H vs Q s h q => by
  cases h with
  | cons a b => cases b; cases a; exact .inr ⟨k, rfl, q _ G H (.refl s) (.int _)⟩
theorem rc_sum {ns : List Int} : RC K (rSum K) [.list (ns.map .int)] (.int ns.sum) := fun G H vs Q s h q => by
  cases h with
  | cons a b =>
    cases b
    cases a with
    | lst h1 h2 =>
      have e := ints_of h2
      subst e
      exact ⟨_, ns, rfl, gr_l s h1, q _ G H (.refl s) (.int _)⟩
/-- list(x) -/
theorem en_listT (ha : Ev K ta Δ (.tuple ds)) : EvN K (tCB (fun xs H Q => ∃ p ys, xs = [.ref p] ∧ (SqL K H p ys ∨ SqT K H p ys) ∧ ∀ l, H l = none → Q (.ref l) (upd H l (.lst ys))) (tCons ta tNil)) Δ ds := fun σ G H Q e s q =>
  ha σ G H _ e s fun v G1 H1 s1 dv => by
    cases dv with
    | tup h1 h2 => exact ⟨_, _, rfl, .inr (gr_t s1.s h1), fun l hl => let n := new_n s1.s hl h2; q _ _ _ _ (s1.trans n.1) n.2.1 n.2.2⟩
/-- sorted of ints -/
def srt (ns : List Int) : List Int := ns.mergeSort (fun a b => decide (a ≤ b))
theorem srt_perm (ns : List Int) : (srt ns).Perm ns := List.mergeSort_perm _ _
theorem srt_sorted (ns : List Int) : (srt ns).Pairwise (· ≤ ·) := by
  have h := List.pairwise_mergeSort (le := fun (a b : Int) => decide (a ≤ b)) (fun a b c h1 h2 => by
    have h1' := of_decide_eq_true h1; have h2' := of_decide_eq_true h2; exact decide_eq_true (Int.le_trans h1' h2')) (fun a b => by
    rcases Int.le_total a b with h | h
    · simp [h]
    · simp [h]) ns
  exact h.imp fun h => of_decide_eq_true h
theorem pw_uniq : ∀ {l m : List Int}, l.Perm m → l.Pairwise (· ≤ ·) → m.Pairwise (· ≤ ·) → l = m := fun {l m} h h1 h2 => h.eq_of_pairwise (fun a b _ _ h3 h4 => Int.le_antisymm h3 h4) h1 h2
theorem en_sorted {ns : List Int} (ha : Ev K ta Δ (.list (ns.map .int))) : EvN K (tCB (rSortedI K) (tCons ta tNil)) Δ ((srt ns).map .int) := fun σ G H Q e s q =>
  ha σ G H _ e s fun v G1 H1 s1 dv => by
    cases dv with
    | lst h1 h2 =>
      have e := ints_of h2
      subst e
      refine ⟨_, ns, rfl, gr_l s1.s h1, fun ns' p hp1 hp2 hp => ?_⟩
      have e2 : ns' = srt ns := pw_uniq (hp1.trans (srt_perm ns).symm) hp2 (srt_sorted ns)
      subst e2
      have n := new_n s1.s hp (dps_ints (K := K) (H := G1) (srt ns))
      exact q _ _ _ _ (s1.trans n.1) n.2.1 n.2.2
/-- xs.count(k) -/
theorem ev_count {ns : List Int} {k : Int} (ha : Ev K ta Δ (.list (ns.map .int))) (hb : Ev K tb Δ (.int k)) (ht : ∀ (G H : Hp) (v : V) , Gr G H → Dp K G v (.list (ns.map .int)) → tyV K "list" v H) : Ev K (tBM K "list" (rCntI K) ta (tCons tb tNil)) Δ (.int (ns.count k : Nat)) := fun σ G H Q e s q =>
  ha σ G H _ e s fun v G1 H1 s1 dv => ⟨ht _ _ _ s1.s dv, hb σ G1 H1 _ (e.up s1.g) s1.s fun u G2 H2 s2 du => by
    cases du
    cases dv with
    | lst h1 h2 =>
      have e := ints_of h2
      subst e
      exact ⟨_, ns, k, rfl, rfl, gr_l s2.s (gr_l s2.g h1), q _ _ _ (s1.trans s2) (.int _)⟩⟩
/-! ### tests -/
theorem et_test {b : Bool} (h : Ev K te Δ (.bool b)) : EvT K (tTest te) Δ b := fun σ G H Q e s q => h σ G H _ e s fun v G1 H1 s1 dv => by cases dv; exact ⟨b, rfl, q _ _ s1⟩
theorem et_B {b : Bool} (h : Ev K te Δ (.bool b)) : EvT K (tB te) Δ b := fun σ G H Q e s q => h σ G H _ e s fun v G1 H1 s1 dv => by cases dv; exact ⟨b, rfl, q _ _ s1⟩
theorem et_yes : EvT K tYes Δ true := fun σ G H Q e s q => q G H (.refl s)
theorem et_not {a : Bool} (h : EvT K tt Δ a) : EvT K (tNot tt) Δ (!a) := fun σ G H Q e s q => h σ G H _ e s fun G1 H1 s1 => q _ _ s1
theorem et_and {a b : Bool} (h : EvT K tt Δ a) (h2 : a = true → EvT K tu Δ b) : EvT K (tAnd tt tu) Δ (a && b) := fun σ G H Q e s q => h σ G H _ e s fun G1 H1 s1 => by
  cases a with
  | true => exact iteT (h2 rfl σ G1 H1 _ (e.up s1.g) s1.s fun G2 H2 s2 => q _ _ (s1.trans s2))
  | false => exact iteF (q _ _ s1)
theorem et_or {a b : Bool} (h : EvT K tt Δ a) (h2 : a = false → EvT K tu Δ b) : EvT K (tOr tt tu) Δ (a || b) := fun σ G H Q e s q => h σ G H _ e s fun G1 H1 s1 => by
  cases a with
  | true => exact iteT (q _ _ s1)
  | false => exact iteF (h2 rfl σ G1 H1 _ (e.up s1.g) s1.s fun G2 H2 s2 => q _ _ (s1.trans s2))
theorem ev_notV {a : Bool} (h : Ev K ta Δ (.bool a)) : Ev K (tNotV ta) Δ (.bool (!a)) := fun σ G H Q e s q => h σ G H _ e s fun v G1 H1 s1 dv => by cases dv; exact ⟨a, rfl, q _ _ _ s1 (.bl _)⟩
theorem ev_andV {a b : Bool} (h : Ev K ta Δ (.bool a)) (h2 : a = true → Ev K tb Δ (.bool b)) : Ev K (tAndV ta tb) Δ (.bool (a && b)) := fun σ G H Q e s q => h σ G H _ e s fun v G1 H1 s1 dv => by
  cases dv
  refine ⟨a, rfl, ?_⟩
  cases a with
  | true => exact iteT (h2 rfl σ G1 H1 _ (e.up s1.g) s1.s fun w G2 H2 s2 => q _ _ _ (s1.trans s2))
  | false => exact iteF (q _ _ _ s1 (.bl _))
theorem ev_orV {a b : Bool} (h : Ev K ta Δ (.bool a)) (h2 : a = false → Ev K tb Δ (.bool b)) : Ev K (tOrV ta tb) Δ (.bool (a || b)) := fun σ G H Q e s q => h σ G H _ e s fun v G1 H1 s1 dv => by
  cases dv
  refine ⟨a, rfl, ?_⟩
  cases a with
  | true => exact iteT (q _ _ _ s1 (.bl _))
  | false => exact iteF (h2 rfl σ G1 H1 _ (e.up s1.g) s1.s fun w G2 H2 s2 => q _ _ _ (s1.trans s2))
theorem ev_if {b : Bool} (h : EvT K tt Δ b) (h1 : b = true → Ev K ta Δ d) (h2 : b = false → Ev K tb Δ d) : Ev K (tIf tt ta tb) Δ d := fun σ G H Q e s q => h σ G H _ e s fun G1 H1 s1 => by
  cases b with
  | true => exact iteT (h1 rfl σ G1 H1 _ (e.up s1.g) s1.s fun w G2 H2 s2 => q _ _ _ (s1.trans s2))
  | false => exact iteF (h2 rfl σ G1 H1 _ (e.up s1.g) s1.s fun w G2 H2 s2 => q _ _ _ (s1.trans s2))
/-- a op b op c -/
theorem ev_chain {tc : TE} {r r' : R2} {a b : Bool} (ha : Ev K ta Δ x) (hb : Ev K tb Δ y) (hr : RV K r x y (.bool a)) (hc : a = true → Ev K tc Δ z) (hr' : a = true → RV K r' y z (.bool b)) : Ev K (tChain r r' ta tb tc) Δ (.bool (a && b)) := fun σ G H Q e s q =>
  ha σ G H _ e s fun v G1 H1 s1 dv => hb σ G1 H1 _ (e.up s1.g) s1.s fun u G2 H2 s2 du => hr G2 H2 v u _ s2.s (Dpu dv s2.g) du fun w G3 H3 s3 dw => by
    cases dw
    refine ⟨a, rfl, ?_⟩
    have s13 := (s1.trans s2).trans s3
    cases a with
    | true => exact iteT (hc rfl σ G3 H3 _ (e.up s13.g) s13.s fun x G4 H4 s4 dx => hr' rfl G4 H4 u x Q s4.s (Dpu du (s3.g.trans s4.g)) dx fun y G5 H5 s5 dy => q _ _ _ ((s13.trans s4).trans s5) dy)
    | false => exact iteF (q _ _ _ s13 (.bl _))
end

/-! ### the promise of a def, by data -/
def spD (K : PySem.W.Frag) (F : List Dt → Dt → Prop) : Sp := fun vs H Q _ => ∃ G ds d, Gr G H ∧ DpAll K G vs ds ∧ F ds d ∧ ∀ v G2 H2, Stp G H G2 H2 → Dp K G2 v d → Q v H2
theorem ev_call {K : PySem.W.Frag} {Δ : Sl} {t : TA} {ds : List Dt} {d : Dt} {F : List Dt → Dt → Prop} {E : XK} (ha : EvA K t Δ ds) (hF : F ds d) : Ev K (tCall (spD K F) [] E t) Δ d := fun σ G H Q e s q =>
  ha σ G H _ e s fun vs G1 H1 s1 dv => ⟨G1, ds, d, s1.s, by rw [List.append_nil]; exact dv, hF, fun v G2 H2 s2 d2 => q _ _ _ (s1.trans s2) d2⟩

/-! ### statements -/
inductive Out where
  | nx (Δ : Sl) | bk (Δ : Sl) | ct (Δ : Sl) | rt (d : Dt) | rl (ds : List Dt)
def Post (K : PySem.W.Frag) (D : Ends) (G H : Hp) : Out → Prop
  | .nx Δ => ∀ σ G2 H2, Stp G H G2 H2 → En K G2 σ Δ → D.nx σ H2
  | .bk Δ => ∀ σ G2 H2, Stp G H G2 H2 → En K G2 σ Δ → D.bk σ H2
  | .ct Δ => ∀ σ G2 H2, Stp G H G2 H2 → En K G2 σ Δ → D.ct σ H2
  | .rt d => ∀ v G2 H2, Stp G H G2 H2 → Dp K G2 v d → D.rt v H2
  | .rl ds => ∀ p vs G2 H2, Stp G H G2 H2 → G2 p = some (.lst vs) → DpAll K G2 vs ds → D.rt (.ref p) H2
def Sx (K : PySem.W.Frag) (ts : TS) (Δ : Sl) (o : Out) : Prop := ∀ (D : Ends) (σ : L2.St) (G H : Hp), En K G σ Δ → Gr G H → Post K D G H o → ts D σ H
section
variable {K : PySem.W.Frag} {Δ Δ1 Δ2 : Sl} {t u : TS} {te : TE} {o : Out} {d : Dt} {G H G1 H1 : Hp} {D : Ends}
theorem Post.step (s : Stp G H G1 H1) (p : Post K D G H o) : Post K D G1 H1 o := by
  cases o with
  | nx Δ => exact fun σ G2 H2 s2 e => p σ G2 H2 (s.trans s2) e
  | bk Δ => exact fun σ G2 H2 s2 e => p σ G2 H2 (s.trans s2) e
  | ct Δ => exact fun σ G2 H2 s2 e => p σ G2 H2 (s.trans s2) e
  | rt d => exact fun v G2 H2 s2 e => p v G2 H2 (s.trans s2) e
  | rl ds => exact fun a vs G2 H2 s2 h e => p a vs G2 H2 (s.trans s2) h e
theorem sx_nil : Sx K tNext Δ (.nx Δ) := fun D σ G H e s p => p σ G H (.refl s) e
theorem sx_seq (h1 : Sx K t Δ (.nx Δ1)) (h2 : Sx K u Δ1 o) : Sx K (tSeq t u) Δ o := fun D σ G H e s p =>
  h1 { D with nx := u D } σ G H e s fun σ1 G1 H1 s1 e1 => h2 D σ1 G1 H1 e1 s1.s (p.step s1)
theorem sx_seqR (h1 : Sx K t Δ (.rt d)) : Sx K (tSeq t u) Δ (.rt d) := fun D σ G H e s p => h1 { D with nx := u D } σ G H e s p
theorem sx_seqC (h1 : Sx K t Δ (.ct Δ1)) : Sx K (tSeq t u) Δ (.ct Δ1) := fun D σ G H e s p => h1 { D with nx := u D } σ G H e s p
theorem sx_seqB (h1 : Sx K t Δ (.bk Δ1)) : Sx K (tSeq t u) Δ (.bk Δ1) := fun D σ G H e s p => h1 { D with nx := u D } σ G H e s p
theorem sx_cut (h1 : Sx K t Δ (.nx Δ1)) (h2 : Sx K u Δ1 o) : Sx K (Evl.tCut t u) Δ o := fun D σ G H e s p =>
  ⟨fun σ' H' => ∃ G', Stp G H G' H' ∧ En K G' σ' Δ1, h1 _ σ G H e s fun σ1 G1 H1 s1 e1 => ⟨G1, s1, e1⟩, fun σ' H' ⟨G', s1, e1⟩ => h2 D σ' G' H' e1 s1.s (p.step s1)⟩
theorem sx_asg {i : Nat} (h : Ev K te Δ d) : Sx K (tAsg te (gName i)) Δ (.nx (Δ.set i (some (.d d)))) := fun D σ G H e s p =>
  h σ G H _ e s fun v G1 H1 s1 dv => p _ _ _ s1 ((e.up s1.g).set i dv)
theorem sx_asgL {i : Nat} {ds : List Dt} (h : EvN K te Δ ds) : Sx K (tAsg te (gName i)) Δ (.nx (Δ.set i (some (.l ds)))) := fun D σ G H e s p =>
  h σ G H _ e s fun a vs G1 H1 s1 h1 dv => p _ _ _ s1 ((e.up s1.g).set (w := .l ds) i ⟨a, vs, rfl, h1, dv⟩)
theorem sx_ret (h : Ev K te Δ d) : Sx K (tRet te) Δ (.rt d) := fun D σ G H e s p => h σ G H _ e s p
theorem sx_retL {ds : List Dt} (h : EvN K te Δ ds) : Sx K (tRet te) Δ (.rl ds) := fun D σ G H e s p => h σ G H _ e s p
theorem sx_seqRL {ds : List Dt} (h1 : Sx K t Δ (.rl ds)) : Sx K (tSeq t u) Δ (.rl ds) := fun D σ G H e s p => h1 { D with nx := u D } σ G H e s p
theorem sx_retN : Sx K tRetN Δ (.rt .none) := fun D σ G H e s p => p _ G H (.refl s) .non
theorem sx_drop (h : Ev K te Δ d) : Sx K (tDrop te) Δ (.nx Δ) := fun D σ G H e s p => h σ G H _ e s fun v G1 H1 s1 _ => p _ _ _ s1 (e.up s1.g)
theorem sx_brk : Sx K tBreak Δ (.bk Δ) := fun D σ G H e s p => p σ G H (.refl s) e
theorem sx_cont : Sx K tCont Δ (.ct Δ) := fun D σ G H e s p => p σ G H (.refl s) e
theorem sx_weak (h : Sx K t Δ (.nx Δ1)) (l : Lt Δ1 Δ2) : Sx K t Δ (.nx Δ2) := fun D σ G H e s p => h D σ G H e s fun σ1 G1 H1 s1 e1 => p σ1 G1 H1 s1 (e1.weak l)
theorem sx_if {tt : TT} {b : Bool} (h : EvT K tt Δ b) (h1 : b = true → Sx K t Δ o) (h2 : b = false → Sx K u Δ o) : Sx K (tIfS tt t u) Δ o := fun D σ G H e s p => h σ G H _ e s fun G1 H1 s1 => by
  cases b with
  | true => exact iteT (h1 rfl D σ G1 H1 (e.up s1.g) s1.s (p.step s1))
  | false => exact iteF (h2 rfl D σ G1 H1 (e.up s1.g) s1.s (p.step s1))
theorem sx_par {i j : Nat} {ta : TA} {d1 d2 : Dt} (h : EvA K ta Δ [d1, d2]) : Sx K (tPar i j ta) Δ (.nx ((Δ.set i (some (.d d1))).set j (some (.d d2)))) := fun D σ G H e s p =>
  h σ G H _ e s fun vs G1 H1 s1 dv => by
    cases dv with
    | cons a b =>
      cases b with
      | cons c b =>
        cases b
        exact ⟨_, _, rfl, p _ _ _ s1 ((En.set (e.up s1.g) i (w := .d d1) a).set j (w := .d d2) c)⟩
theorem sx_aug {i : Nat} {f : Int → Int → Int} {a b : Int} (hx : Δ[i]? = some (some (.d (.int a)))) (h : Ev K te Δ (.int b)) : Sx K (tAug i te (ipI f)) Δ (.nx (Δ.set i (some (.d (.int (f a b)))))) := fun D σ G H e s p => by
  obtain ⟨v, e1, dv⟩ := e.at_ i _ hx
  cases dv
  refine ⟨_, e1, h σ G H _ e s fun w G1 H1 s1 dw => ?_⟩
  cases dw
  exact ⟨a, b, rfl, rfl, p _ _ _ s1 ((e.up s1.g).set (w := .d (.int (f a b))) i (.int _))⟩

/-! ### what is walked, targets -/
/-- at turn i it yields the data ds[i], a step behind -/
structure WalkD (K : PySem.W.Frag) (J : It) (G0 : Hp) (ds : List Dt) : Prop where
  go : ∀ i G H, Gr G0 G → Gr G H → i < ds.length → J.go i H
  stop : ∀ G H, Gr G0 G → Gr G H → J.stop ds.length H
  yld : ∀ i G H x H2, Gr G0 G → Gr G H → i < ds.length → J.yld i H x H2 → ∃ G2 d, Stp G H G2 H2 ∧ ds[i]? = some d ∧ Dp K G2 x d
def EvI (K : PySem.W.Frag) (wi : TI) (Δ : Sl) (ds : List Dt) : Prop :=
  ∀ (σ : L2.St) (G H : Hp) (R : It → Hp → Prop), En K G σ Δ → Gr G H → (∀ J G2 H2, Stp G H G2 H2 → WalkD K J G2 ds → R J H2) → wi σ H R
theorem walkD_list {a : Addr} {vs : List V} {ds : List Dt} (h : SqL K G a vs) (hd : DpAll K G vs ds) : WalkD K (Itl K a) G ds where
  go := fun i G1 H1 a b hi => ⟨vs, vs[i]'(by rw [dps_len hd]; exact hi), gr_l b (gr_l a h), by simp [dps_len hd, hi]⟩
  stop := fun G1 H1 a b => ⟨vs, gr_l b (gr_l a h), by rw [dps_len hd]; exact Nat.le_refl _⟩
  yld := fun i G1 H1 x H2 a b hi y => by
    obtain ⟨e, y⟩ := y
    subst e
    obtain ⟨d, e1, e2⟩ := dps_get' hd (y vs (gr_l b (gr_l a h)))
    exact ⟨G1, d, .refl b, e1, Dpu e2 a⟩
theorem walkD_tup {a : Addr} {vs : List V} {ds : List Dt} (h : SqT K G a vs) (hd : DpAll K G vs ds) : WalkD K (Itt K a) G ds where
  go := fun i G1 H1 a b hi => ⟨vs, vs[i]'(by rw [dps_len hd]; exact hi), gr_t b (gr_t a h), by simp [dps_len hd, hi]⟩
  stop := fun G1 H1 a b => ⟨vs, gr_t b (gr_t a h), by rw [dps_len hd]; exact Nat.le_refl _⟩
  yld := fun i G1 H1 x H2 a b hi y => by
    obtain ⟨e, y⟩ := y
    subst e
    obtain ⟨d, e1, e2⟩ := dps_get' hd (y vs (gr_t b (gr_t a h)))
    exact ⟨G1, d, .refl b, e1, Dpu e2 a⟩
/-- lo, lo + 1, .. -/
def upto (lo : Int) (n : Nat) : List Dt := (List.range n).map fun (i : Nat) => PyData.int (lo + (i : Int))
theorem upto_len (lo : Int) (n : Nat) : (upto lo n).length = n := by unfold upto; rw [List.length_map, List.length_range]
theorem upto_get {lo : Int} {n i : Nat} (h : i < n) : (upto lo n)[i]? = some (.int (lo + (i : Int))) := by
  unfold upto; rw [List.getElem?_map, List.getElem?_range h]; rfl
theorem walkD_range {lo : Int} {n : Nat} : WalkD K (Itr lo n) G (upto lo n) where
  go := fun i G1 H1 a b hi => by rw [upto_len] at hi; exact hi
  stop := fun G1 H1 a b => by rw [upto_len]; exact Nat.le_refl _
  yld := fun i G1 H1 x H2 a b hi y => by
    obtain ⟨e, y⟩ := y
    subst e y
    rw [upto_len] at hi
    exact ⟨G1, _, .refl b, upto_get hi, .int _⟩
/-- a new pair (i, item) at each turn -/
def pairsFrom : Nat → List Dt → List Dt
  | _, [] => []
  | k, d :: ds => .tuple [.int (k : Nat), d] :: pairsFrom (k + 1) ds
theorem pairs_len : ∀ (ds : List Dt) (k : Nat), (pairsFrom k ds).length = ds.length
  | [], _ => rfl
  | _ :: ds, k => by show (pairsFrom (k + 1) ds).length + 1 = ds.length + 1; rw [pairs_len ds]
theorem pairs_get : ∀ {ds : List Dt} {k i : Nat} {d : Dt}, ds[i]? = some d → (pairsFrom k ds)[i]? = some (.tuple [.int ((k + i : Nat) : Int), d])
  | d0 :: ds, k, 0, d, h => by simp at h; subst h; rfl
  | d0 :: ds, k, i + 1, d, h => by
    show (pairsFrom (k + 1) ds)[i]? = _
    rw [pairs_get (k := k + 1) (by simpa using h), show k + 1 + i = k + (i + 1) by omega]
theorem walkD_enum {a : Addr} {vs : List V} {ds : List Dt} (h : SqL K G a vs) (hd : DpAll K G vs ds) : WalkD K (Ite K a) G (pairsFrom 0 ds) where
  go := fun i G1 H1 a b hi => by
    rw [pairs_len] at hi
    exact ⟨vs, vs[i]'(by rw [dps_len hd]; exact hi), gr_l b (gr_l a h), by simp [dps_len hd, hi]⟩
  stop := fun G1 H1 a b => ⟨vs, gr_l b (gr_l a h), by rw [dps_len hd, pairs_len]; exact Nat.le_refl _⟩
  yld := fun i G1 H1 x H2 a b hi y => by
    obtain ⟨T, v, e, hT, eH, y⟩ := y
    subst e eH
    obtain ⟨d, e1, e2⟩ := dps_get' hd (y vs (gr_l b (gr_l a h)))
    have n := new_t (ds := [.int (i : Nat), d]) b hT (.cons (.int _) (.cons (Dpu e2 a) .nil))
    exact ⟨_, _, n.1, by rw [pairs_get e1, Nat.zero_add], n.2⟩
theorem ei_list {tl : TE} {ds : List Dt} (h : Ev K tl Δ (.list ds)) : EvI K (iList K tl) Δ ds := fun σ G H R e s q => h σ G H _ e s fun v G1 H1 s1 dv => by
  cases dv with
  | lst h1 h2 => exact ⟨_, rfl, ⟨_, gr_l s1.s h1⟩, q _ _ _ s1 (walkD_list h1 h2)⟩
theorem ei_tup {tl : TE} {ds : List Dt} (h : Ev K tl Δ (.tuple ds)) : EvI K (iTup K tl) Δ ds := fun σ G H R e s q => h σ G H _ e s fun v G1 H1 s1 dv => by
  cases dv with
  | tup h1 h2 => exact ⟨_, rfl, ⟨_, gr_t s1.s h1⟩, q _ _ _ s1 (walkD_tup h1 h2)⟩
theorem ei_rng1 {ta : TA} {j : Int} (h : EvA K ta Δ [.int j]) (hj : -1000000 ≤ j ∧ j ≤ 1000000) : EvI K (iRng1 ta) Δ (upto 0 j.toNat) := fun σ G H R e s q => h σ G H _ e s fun vs G1 H1 s1 dv => by
  cases dv with
  | cons a b => cases b; cases a; exact ⟨j, rfl, by omega, by omega, q _ _ _ s1 walkD_range⟩
theorem ei_rng2 {ta : TA} {i j : Int} (h : EvA K ta Δ [.int i, .int j]) (hi : -1000000 ≤ i ∧ i ≤ 1000000) (hj : -1000000 ≤ j ∧ j ≤ 1000000) : EvI K (iRng2 ta) Δ (upto i (j - i).toNat) := fun σ G H R e s q => h σ G H _ e s fun vs G1 H1 s1 dv => by
  cases dv with
  | cons a b => cases b with | cons c b => cases b; cases a; cases c; exact ⟨i, j, rfl, ⟨by omega, by omega, by omega, by omega⟩, q _ _ _ s1 walkD_range⟩
theorem ei_enum {ta : TE} {ds : List Dt} (h : Ev K ta Δ (.list ds)) : EvI K (iEnum K (tCons ta tNil)) Δ (pairsFrom 0 ds) := fun σ G H R e s q => h σ G H _ e s fun v G1 H1 s1 dv => by
  cases dv with
  | lst h1 h2 => exact ⟨_, _, rfl, gr_l s1.s h1, q _ _ _ s1 (walkD_enum h1 h2)⟩
/-- a target stores a thing: the slots js alone may change -/
def EvG (K : PySem.W.Frag) (g : TG) (Δ : Sl) (d : Dt) (Δ' : Sl) (js : List Nat) : Prop :=
  ∀ (v : V) (σ : L2.St) (G H : Hp) (Q : L2.St → Hp → Prop), En K G σ Δ → Gr G H → Dp K G v d → (∀ σ', En K G σ' Δ' → (∀ vs : List Nat, (∀ j ∈ js, j ∈ vs) → wipe σ' vs = wipe σ vs) → Q σ' H) → g v σ H Q
theorem wipe_at (σ : L2.St) : ∀ (vs : List Nat) (i : Nat), (wipe σ vs)[i]? = if i ∈ vs then (if i < σ.length then some none else none) else σ[i]?
  | [], i => by simp [wipe]
  | v :: vs, i => by
    show ((wipe σ vs).set v none)[i]? = _
    rw [List.getElem?_set, wipe_at σ vs i, wipe_length]
    by_cases e : v = i
    · subst e; simp
    · rw [if_neg e]
      have : (i ∈ v :: vs) ↔ i ∈ vs := by simp [Ne.symm e]
      simp only [this]
theorem wipe_set (σ : L2.St) (j : Nat) (x : Option V) (vs : List Nat) (h : j ∈ vs) : wipe (σ.set j x) vs = wipe σ vs := by
  apply List.ext_getElem?
  intro i
  rw [wipe_at, wipe_at, List.length_set, List.getElem?_set]
  by_cases e : j = i
  · subst e; simp [h]
  · rw [if_neg e]
theorem eg_name {j : Nat} : EvG K (gName j) Δ d (Δ.set j (some (.d d))) [j] := fun v σ G H Q e s dv q => q _ (e.set (w := .d d) j dv) fun vs hv => wipe_set σ j _ vs (hv j (by simp))
theorem eg_pair {i j : Nat} {d1 d2 : Dt} : EvG K (gTup K 2 (gCons (gName i) (gCons (gName j) gNil))) Δ (.tuple [d1, d2]) ((Δ.set i (some (.d d1))).set j (some (.d d2))) [i, j] := fun v σ G H Q e s dv q => by
  cases dv with
  | tup h1 h2 =>
    cases h2 with
    | cons a b =>
      cases b with
      | cons c b =>
        cases b
        exact ⟨_, _, rfl, gr_t s h1, rfl, _, _, rfl, _, _, rfl, rfl, q _ ((e.set (w := .d d1) i a).set (w := .d d2) j c) fun vs hv => by
          rw [wipe_set _ j _ vs (hv j (by simp)), wipe_set _ i _ vs (hv i (by simp))]⟩
theorem sx_unp {te : TE} {g : TG} {js : List Nat} (h : Ev K te Δ d) (hg : EvG K g Δ d Δ1 js) : Sx K (tAsg te g) Δ (.nx Δ1) := fun D σ G H e s p =>
  h σ G H _ e s fun v G1 H1 s1 dv => hg v σ G1 H1 _ (e.up s1.g) s1.s dv fun σ' e' _ => p _ _ _ s1 e'
/-! ### for -/
/-- every turn goes on -/
theorem sx_for {wi : TI} {g : TG} {tb : TS} {ds : List Dt} {js : List Nat} (Δs Δt : Nat → Sl) (hi : EvI K wi (Δs 0) ds) (hg : ∀ i d, ds[i]? = some d → EvG K g (Δs i) d (Δt i) js)
    (hb : ∀ i, i < ds.length → Sx K tb (Δt i) (.nx (Δs (i + 1))) ∨ Sx K tb (Δt i) (.ct (Δs (i + 1)))) : Sx K (tFor wi g tb) (Δs 0) (.nx (Δs ds.length)) := fun D σ G H e s p =>
  hi σ G H _ e s fun J G1 H1 s1 w => by
    refine ⟨fun i m σ' H' => m = ds.length - i ∧ i ≤ ds.length ∧ ∃ G', Stp G H G' H' ∧ Gr G1 G' ∧ En K G' σ' (Δs i), ⟨ds.length, rfl, Nat.zero_le _, G1, s1, .refl _, e.up s1.g⟩, ?_⟩
    rintro i m σ' H' ⟨rfl, hle, G', s', g', e'⟩
    by_cases hlt : i < ds.length
    · refine .inr ⟨w.go i G' H' g' s'.s hlt, fun σ'' H'' => ∃ G'', Stp G H G'' H'' ∧ Gr G1 G'' ∧ En K G'' σ'' (Δs (i + 1)), fun σ'' H'' ⟨G'', a, b, c⟩ => ⟨ds.length - (i + 1), by omega, rfl, hlt, G'', a, b, c⟩, fun x H2 y => ?_⟩
      obtain ⟨G2, d, s2, hd, dx⟩ := w.yld i G' H' x H2 g' s'.s hlt y
      refine hg i d hd x σ' G2 H2 _ (e'.up s2.g) s2.s dx fun σ2 e2 _ => ?_
      rcases hb i hlt with h | h
      · exact h _ σ2 G2 H2 e2 s2.s fun σ3 G3 H3 s3 e3 => ⟨G3, (s'.trans s2).trans s3, (g'.trans s2.g).trans s3.g, e3⟩
      · exact h _ σ2 G2 H2 e2 s2.s fun σ3 G3 H3 s3 e3 => ⟨G3, (s'.trans s2).trans s3, (g'.trans s2.g).trans s3.g, e3⟩
    · have he : i = ds.length := by omega
      subst he
      exact .inl ⟨w.stop G' H' g' s'.s, p σ' G' H' s' e'⟩
/-- the m-th turn leaves by a return -/
theorem sx_forR {wi : TI} {g : TG} {tb : TS} {ds : List Dt} {js : List Nat} (Δs Δt : Nat → Sl) (m : Nat) (hm : m < ds.length) (hi : EvI K wi (Δs 0) ds) (hg : ∀ i d, ds[i]? = some d → EvG K g (Δs i) d (Δt i) js)
    (hb : ∀ i, i < m → Sx K tb (Δt i) (.nx (Δs (i + 1))) ∨ Sx K tb (Δt i) (.ct (Δs (i + 1)))) (he : Sx K tb (Δt m) (.rt d)) : Sx K (tFor wi g tb) (Δs 0) (.rt d) := fun D σ G H e s p =>
  hi σ G H _ e s fun J G1 H1 s1 w => by
    refine ⟨fun i k σ' H' => k = ds.length - i ∧ i ≤ m ∧ ∃ G', Stp G H G' H' ∧ Gr G1 G' ∧ En K G' σ' (Δs i), ⟨ds.length, rfl, Nat.zero_le _, G1, s1, .refl _, e.up s1.g⟩, ?_⟩
    rintro i k σ' H' ⟨rfl, hle, G', s', g', e'⟩
    have hlt : i < ds.length := by omega
    refine .inr ⟨w.go i G' H' g' s'.s hlt, fun σ'' H'' => i < m ∧ ∃ G'', Stp G H G'' H'' ∧ Gr G1 G'' ∧ En K G'' σ'' (Δs (i + 1)), fun σ'' H'' ⟨h0, G'', a, b, c⟩ => ⟨ds.length - (i + 1), by omega, rfl, h0, G'', a, b, c⟩, fun x H2 y => ?_⟩
    obtain ⟨G2, d', s2, hd, dx⟩ := w.yld i G' H' x H2 g' s'.s hlt y
    refine hg i d' hd x σ' G2 H2 _ (e'.up s2.g) s2.s dx fun σ2 e2 _ => ?_
    by_cases hq : i < m
    · rcases hb i hq with h | h
      · exact h _ σ2 G2 H2 e2 s2.s fun σ3 G3 H3 s3 e3 => ⟨hq, G3, (s'.trans s2).trans s3, (g'.trans s2.g).trans s3.g, e3⟩
      · exact h _ σ2 G2 H2 e2 s2.s fun σ3 G3 H3 s3 e3 => ⟨hq, G3, (s'.trans s2).trans s3, (g'.trans s2.g).trans s3.g, e3⟩
    · have ei : i = m := by omega
      subst ei
      exact he _ σ2 G2 H2 e2 s2.s fun v G3 H3 s3 d3 => p v G3 H3 ((s'.trans s2).trans s3) d3
/-! ### comprehensions -/
theorem take_f {α β : Type} (ds : List α) (p : α → Bool) (q : α → β) (i : Nat) (d : α) (h : ds[i]? = some d) : ((ds.take (i + 1)).filter p).map q = ((ds.take i).filter p).map q ++ (if p d = true then [q d] else []) := by
  rw [List.take_add_one, h]
  show ((ds.take i ++ [d]).filter p).map q = _
  rw [List.filter_append, List.map_append, List.filter_cons]
  split <;> rfl
theorem flen {α β : Type} (ds : List α) (p : α → Bool) (q : α → β) (i : Nat) : (((ds.take i).filter p).map q).length ≤ i := by
  rw [List.length_map]
  exact Nat.le_trans (List.length_filter_le _ _) (by rw [List.length_take]; exact Nat.min_le_left _ _)
theorem en_lc {wi : TI} {g : TG} {tt : TT} {te : TE} {ds : List Dt} {js vs : List Nat} (p : Dt → Bool) (q : Dt → Dt) (Δt : Dt → Sl) (hi : EvI K wi Δ ds) (hl : ds.length ≤ 50000) (hj : ∀ j ∈ js, j ∈ vs)
    (hg : ∀ d, d ∈ ds → EvG K g (wipeD Δ vs) d (Δt d) js) (ht : ∀ d, d ∈ ds → EvT K tt (Δt d) (p d)) (he : ∀ d, d ∈ ds → p d = true → Ev K te (Δt d) (q d)) : EvN K (tLc wi g tt te vs) Δ ((ds.filter p).map q) := fun σ G H Q e s k =>
  hi σ G H _ e s fun J G1 H1 s1 w => fun L hL => by
    refine ⟨fun i m H' => m = ds.length - i ∧ i ≤ ds.length ∧ ∃ G' vs', Stp G H G' H' ∧ Gr G1 G' ∧ G' L = none ∧ H' L = some (.lst vs') ∧ DpAll K G' vs' (((ds.take i).filter p).map q), ⟨ds.length, rfl, Nat.zero_le _, G1, [], s1.trans (.hid s1.s hL), .refl _, s1.s.back hL, upd_same, .nil⟩, ?_⟩
    rintro i m H' ⟨rfl, hle, G', vs', s', g', n', h', d'⟩
    have hH : H L = none := s1.h.back hL
    by_cases hlt : i < ds.length
    · refine .inr ⟨w.go i G' H' g' s'.s hlt, fun H'' => ∃ G'' vs'', Stp G H G'' H'' ∧ Gr G1 G'' ∧ G'' L = none ∧ H'' L = some (.lst vs'') ∧ DpAll K G'' vs'' (((ds.take (i + 1)).filter p).map q), fun H'' ⟨G'', vs'', a, b, c, f, g⟩ => ⟨ds.length - (i + 1), by omega, rfl, hlt, G'', vs'', a, b, c, f, g⟩, fun x H2 y => ?_⟩
      obtain ⟨G2, d, s2, hd, dx⟩ := w.yld i G' H' x H2 g' s'.s hlt y
      have hmem : d ∈ ds := List.mem_of_getElem? hd
      have n2 : G2 L = none := s2.f L (by rw [h']; simp) n'
      refine hg d hmem x _ G2 H2 _ ((e.up ((s1.g.trans g').trans s2.g)).wipe vs) s2.s dx fun σ2 e2 w2 => ⟨?_, ?_⟩
      · rw [w2 vs hj]
        apply List.ext_getElem?
        intro k
        rw [wipe_at, wipe_at, wipe_length]
        split <;> rfl
      · refine ht d hmem σ2 G2 H2 _ e2 s2.s fun G3 H3 s3 => ?_
        have h2 : H2 L = some (.lst vs') := s2.h _ _ h'
        have h3 : H3 L = some (.lst vs') := s3.h _ _ h2
        have n3 : G3 L = none := s3.f L (by rw [h2]; simp) n2
        have st3 := (s'.trans s2).trans s3
        cases hp : p d with
        | true =>
          refine iteT (he d hmem hp σ2 G3 H3 _ (e2.up s3.g) s3.s fun v G4 H4 s4 dv => ⟨vs', s4.h _ _ h3, ?_, G4, vs' ++ [v], ?_, ((g'.trans s2.g).trans s3.g).trans s4.g, ?_, upd_same, ?_⟩)
          · rw [dps_len d']
            exact Evl.sz_lt (Nat.lt_of_le_of_lt (flen ds p q i) (by omega))
          · exact (st3.trans s4).put hH (s4.f L (by rw [h3]; simp) n3)
          · exact s4.f L (by rw [h3]; simp) n3
          · rw [take_f ds p q i d hd, if_pos hp]
            exact dps_app (Dpsu d' ((s2.g.trans s3.g).trans s4.g)) (.cons dv .nil)
        | false =>
          refine iteF ⟨G3, vs', st3, (g'.trans s2.g).trans s3.g, n3, h3, ?_⟩
          rw [take_f ds p q i d hd, if_neg (by rw [hp]; decide), List.append_nil]
          exact Dpsu d' (s2.g.trans s3.g)
    · have he' : i = ds.length := by omega
      subst he'
      refine .inl ⟨w.stop G' H' g' s'.s, ?_⟩
      rw [List.take_length] at d'
      exact k L vs' _ H' (s'.show hH n' h') upd_same (Dpsu d' (.new n'))
end
end Sb

/-! Seamboard, layer 3: enumerate over a tuple, xs[i] += n, stars, isinstance, two clauses. -/
namespace Sb
open PySem PySem.Spec PyProof.Rows L2

/-! ### enumerate(t), t a tuple -/
section
open Sem (wp)
open AutoSeq1 (wpAny_loadPart')
set_option maxHeartbeats 1000000 in
theorem enum_new1 {v : Value} {ob : Obj} {J : Heap → Prop} (B : Begins v ob J) : Meets (Builtin.«enumerate.__new__» ⟨[.type "enumerate", v], []⟩) (fun _ R s => J s.heap ∧
    R (.ok (.ret (.ref (s.heap.push ob).objs.size))) { s with heap := (s.heap.push ob).push { cls := .type "enumerate", data := .fields #[.none, .bool false, .ref s.heap.objs.size, rawInt 0, .none, .none] } }) :=
  .of_wp fun prog w A R s hh => by
    obtain ⟨hp, gn, dr, tok, os⟩ := s
    obtain ⟨j1, hR⟩ := hh
    have hsb := sub_enumerate
    have again : ∀ {A1 : Around} {E1 : Value → Shared → Prop} {Q1 : Value → Shared → Prop}, Q1 (.ref hp.objs.size) ⟨hp.push ob, gn, dr, tok, os⟩ →
        wpAny (model prog w) A1 (pyIter v) Q1 E1 ⟨hp, gn, dr, tok, os⟩ := fun q => B.iter prog w _ _ ⟨hp, gn, dr, tok, os⟩ _ j1 q
    wp_walk using again
    refine wpAny_stack_any fun _ => wpAny_pure ?_
    split
    · rename_i cl _ _ _ _ _
      cases (cl == Value.type "enumerate") <;> (wp_walk using again; exact ⟨_, rfl, hR⟩)
    · wp_walk using again
      exact ⟨_, rfl, hR⟩
theorem enum_call1 {prog : Program} {w : World} {A : Around} {E : Value → Shared → Prop} {s : Shared} {v : Value} {ob : Obj} {J : Heap → Prop} {Q : Value → Shared → Prop} (B : Begins v ob J) (hj : J s.heap)
    (k : ∀ h', IsEnum h' (s.heap.objs.size + 1) s.heap.objs.size 0 .none → h'.get? s.heap.objs.size = some ob → (∀ b u, s.heap.get? b = some u → h'.get? b = some u) → Q (.ref (s.heap.objs.size + 1)) { s with heap := h' }) :
    wpAny (model prog w) A (call (.type "enumerate") [v]) Q E s := by
  refine callType_new F.called_enumerate (by decide) (F.typeCall_enumerate_1 _) (F.newCall_enumerate_1 _) (fun obj => F.args_object_init_2 obj _) F.entry_enumerate_new (enum_new1 B) ⟨hj, ?_⟩
  have hz : (s.heap.push ob).objs.size = s.heap.objs.size + 1 := Heap.size_push ..
  have at2 := Heap.get?_push_size (s.heap.push ob) (o := { cls := .type "enumerate", data := .fields #[.none, .bool false, .ref s.heap.objs.size, rawInt 0, .none, .none] }) rfl
  rw [hz] at at2
  show _ ∧ _
  rw [hz]
  exact ⟨⟨_, at2, rfl⟩, k _ at2 (Heap.get?_push_of_some _ (Heap.get?_push_size _ B.free)) fun b u q => Heap.get?_push_of_some _ (Heap.get?_push_of_some _ q)⟩
end
def Iteu (K : PySem.W.Frag) (a : Addr) : It :=
  ⟨fun i H => ∃ (xs : List V) (x : V), SqT K H a xs ∧ xs[i]? = some x,
   fun i H v H' => ∃ T x, v = .ref T ∧ H T = none ∧ H' = upd H T (.tup [.int (i : Nat), x]) ∧ ∀ xs, SqT K H a xs → xs[i]? = some x,
   fun i H => ∃ xs : List V, SqT K H a xs ∧ xs.length = i⟩
theorem turn_enumT {P : Program} {w : World} {K : PySem.W.Frag} {elts : List Expr} {kk : Nat} {tpos : Pos} (a e it : Addr) (its : List Value) (hia : a ≠ it) (hea : a ≠ e) :
    Turn P w K (.Tuple elts kk tpos) (Iteu K a) [e, it] e (fun i h => (∃ old, IsEnum h e it ((i : Nat) : Int) old) ∧ h.IsTupleIter it a i ∧ e ≠ it) where
  mem := List.mem_cons_self
  obj := fun i h st b hb => by
    obtain ⟨⟨old, he⟩, ⟨ob, ho, _, hd⟩, _⟩ := st
    rcases List.mem_cons.mp hb with z | z
    · subst z; exact ⟨_, he, fun v q => nomatch q⟩
    · have z' : b = it := by simpa using z
      subst z'
      exact ⟨ob, ho, fun v q => by rw [hd] at q; cases q⟩
  keep := fun i h h' st k => by
    obtain ⟨⟨old, he⟩, ⟨ob, ho, hc, hd⟩, hne⟩ := st
    exact ⟨⟨old, k e (by simp) _ he⟩, ⟨ob, k it (by simp) _ ho, hc, hd⟩, hne⟩
  item := by
    intro X hP hw hK hc i pins s σ H E I hf st hg
    subst hP hw hK
    obtain ⟨⟨old, he⟩, hit, hne⟩ := st
    obtain ⟨xs, x, hq, hx⟩ := hg
    obtain ⟨jts, rv, tp, hz⟩ := I.tuple hq
    obtain ⟨u, hu, ru⟩ := rv.get hx
    have ht : s.heap.IsTuple a jts.toArray := tp
    have hlt : i < jts.toArray.size := by
      have := (List.getElem?_eq_some_iff.mp hu).1
      simpa using this
    have hel : e < s.heap.objs.size := Heap.lt_size he
    have hil : it < s.heap.objs.size := by obtain ⟨_, q, _⟩ := hit; exact Heap.lt_size q
    have hal : a < s.heap.objs.size := by obtain ⟨_, q, _⟩ := ht; exact Heap.lt_size q
    have hh : (Around.in1 X.A).handled = none := I.ok.hd hc
    refine wpAny_pyNext_enum_itemD (Draws.tuple hh it a hia jts.toArray) he ⟨hit, ht⟩ hlt hne (by simp [hne, Ne.symm hea]) fun y h' tk hP ho hst hT hsz hk => ?_
    have ey : y = u := by
      have e1 : jts.toArray[i]? = some y := hP
      have e2 : jts.toArray[i]? = some u := by simpa using hu
      rw [e1] at e2; exact Option.some.inj e2
    subst ey
    refine ⟨_, rfl, wpAny_letOwnedTupleGo_enum (s := { s with heap := h', toks := tk + 1 }) ho fun h'' he' sb => ?_⟩
    have hT2 : h''.get? s.heap.objs.size = some { cls := .type "tuple", data := .seq #[.int i tk, y] } := (sb.2 _ (Nat.ne_of_gt hel)).trans hT
    have new : ObjOk X.prog X.w (upd H s.heap.objs.size (.tup [.int (i : Nat), x])) h'' s.heap.objs.size (.tup [.int (i : Nat), x]) :=
      ⟨by show 2 ≤ sizeLine; decide, [.int i tk, y], .cons ⟨_, rfl⟩ (.cons ru .nil), ⟨_, hT2, rfl, _, rfl⟩⟩
    have I1 : Inv X pins σ (upd H s.heap.objs.size (.tup [.int (i : Nat), x])) { s with heap := h'', toks := tk + 1 } :=
      I.turnedNew (ch := [e, it]) (fun b ob hb q => (sb.2 b (fun z => hb (by simp [z]))).trans (hk b ob (fun z => hb (by simp [z])) (fun z => hb (by simp [z])) q)) hf (Nat.le_refl _) new
    obtain ⟨⟨oi, hoi, hci, hdi⟩, _⟩ := hst
    refine ⟨.ref s.heap.objs.size, _, I1, rfl, ⟨_, x, rfl, I.hok.fresh (Nat.le_refl _), rfl, fun ys hy => by rw [I.tuple_inj hy hq]; exact hx⟩, ⟨⟨y, ?_⟩, ⟨oi, (sb.2 it (Ne.symm hne)).trans hoi, hci, hdi⟩, hne⟩, fun b hb => ?_⟩
    · have e1 : ((i + 1 : Nat) : Int) = (i : Int) + 1 := by omega
      rw [e1]; exact he'
    · have hb' : b < s.heap.objs.size := by
        rcases List.mem_cons.mp hb with z | z
        · rw [z]; exact hel
        · have z' : b = it := by simpa using z
          rw [z']; exact hil
      rw [upd_ne (Nat.ne_of_lt hb')]
      exact (hf b hb).1
  done := by
    intro X hP hw hK hc i pins s σ H E I hf st hg
    subst hP hw hK
    obtain ⟨⟨old, he⟩, hit, hne⟩ := st
    obtain ⟨xs, hq, hx⟩ := hg
    obtain ⟨jts, rv, tp, hz⟩ := I.tuple hq
    have ht : s.heap.IsTuple a jts.toArray := tp
    have hn : i = jts.toArray.size := by rw [List.size_toArray, ← rv.length]; exact hx.symm
    obtain ⟨f0, f1, f2, f3, f4, f5⟩ := hf it (by simp)
    have hh : (Around.in1 X.A).handled = none := I.ok.hd hc
    subst hn
    exact wpAny_pyNext_enum_endD (Draws.tuple hh it a hia jts.toArray) he ⟨hit, ht⟩ fun h' eb => ⟨rfl, I.turned (t' := s.toks) (fun b o hb q => eb b o hb q) f0 f1 f3 f4 f5⟩
  self := fun A i s Q E st h => by
    obtain ⟨⟨_, he⟩, _⟩ := st
    exact wpAny_pyIter_enum he h
def iEnumT (K : PySem.W.Frag) (te : TE) : TI := fun σ H R => te σ H fun x H1 => ∃ a xs, x = .ref a ∧ SqT K H1 a xs ∧ R (Iteu K a) H1
theorem pi_enumT {X : Cx} {e : Expr} {te : TE} {p pos tpos : Pos} {elts : List Expr} {kk : Nat} (hg : Gl X "enumerate") (hm : X.mg "enumerate" = none) (ha : PA X [e] (tCons te tNil)) (hs : starEach [e] X.env = [(false, eval e X.env)] := by rfl) :
    PI X (.Tuple elts kk tpos) (.Call (.Name "enumerate" p) [e] [] pos) (iEnumT X.K te) := by
  refine ⟨fun pins s σ H R I h => ?_⟩
  refine Call_ (ld_blt I hg hm boot_enumerate (PyProof.Rows.callWith_type1 (thn (ha.run pos pins s σ H (fun vs H1 => ∃ x, vs = [x] ∧ ∃ a xs, x = .ref a ∧ SqT X.K H1 a xs ∧ R (Iteu X.K a) H1) I ?_) fun us s1 ⟨vs, H1, I1, r1, q1⟩ => ?_) hs rfl))
  · have mono : ∀ (x : V) (H1 : Hp), (∃ a xs, x = .ref a ∧ SqT X.K H1 a xs ∧ R (Iteu X.K a) H1) → (∃ y, [x] = [y] ∧ ∃ a xs, y = .ref a ∧ SqT X.K H1 a xs ∧ R (Iteu X.K a) H1) := fun x H1 q => ⟨x, rfl, q⟩
    have e2 : (fun x H1 => ∃ y, [x] = [y] ∧ ∃ a xs, y = .ref a ∧ SqT X.K H1 a xs ∧ R (Iteu X.K a) H1) = (fun (x : V) (H1 : Hp) => ∃ a xs, x = .ref a ∧ SqT X.K H1 a xs ∧ R (Iteu X.K a) H1) := by
      funext x H1
      exact propext ⟨fun ⟨y, ey, q⟩ => by cases ey; exact q, mono x H1⟩
    show te σ H (fun x H1 => ∃ y, [x] = [y] ∧ ∃ a xs, y = .ref a ∧ SqT X.K H1 a xs ∧ R (Iteu X.K a) H1)
    rw [e2]
    exact h
  obtain ⟨x, ex, a, xs, e2, hq, q⟩ := q1
  subst ex
  cases r1 with
  | cons r rr =>
    cases rr
    subst e2
    cases r
    obtain ⟨jts, rv, tp, hz⟩ := I1.tuple hq
    have ht : s1.heap.IsTuple a jts.toArray := tp
    have hal : a < s1.heap.objs.size := by obtain ⟨_, z, _⟩ := ht; exact Heap.lt_size z
    refine enum_call1 (begins_tuple a jts.toArray) ht fun h' hE hI hk => wpAny_pyIter_enum hE ?_
    have I2 : Inv X pins σ H1 { s1 with heap := h' } := I1.kept (t' := s1.toks) hk
    refine ⟨s1.heap.objs.size + 1, [s1.heap.objs.size + 1, s1.heap.objs.size], _, _, H1, rfl, I2,
      turn_enumT a (s1.heap.objs.size + 1) s1.heap.objs.size jts (Nat.ne_of_lt hal) (Nat.ne_of_lt (Nat.lt_succ_of_lt hal)), ⟨⟨.none, hE⟩, ⟨_, hI, rfl, rfl⟩, Nat.succ_ne_self _⟩, fun b hb => ?_, q⟩
    have hle : s1.heap.objs.size ≤ b := by
      rcases List.mem_cons.mp hb with z | z
      · rw [z]; exact Nat.le_succ _
      · have z' : b = s1.heap.objs.size := by simpa using z
        rw [z']; exact Nat.le_refl _
    exact I1.fpOk hle (I1.hok.fresh hle)
section
variable {K : PySem.W.Frag} {Δ : Sl} {ta tb te : TE} {t : TA} {ds : List Dt}
theorem walkD_enumT {G : Hp} {a : Addr} {vs : List V} {ds : List Dt} (h : SqT K G a vs) (hd : DpAll K G vs ds) : WalkD K (Iteu K a) G (pairsFrom 0 ds) where
  go := fun i G1 H1 a b hi => by
    rw [pairs_len] at hi
    exact ⟨vs, vs[i]'(by rw [dps_len hd]; exact hi), gr_t b (gr_t a h), by simp [dps_len hd, hi]⟩
  stop := fun G1 H1 a b => ⟨vs, gr_t b (gr_t a h), by rw [dps_len hd, pairs_len]⟩
  yld := fun i G1 H1 x H2 a b hi y => by
    obtain ⟨T, v, e, hT, eH, y⟩ := y
    subst e eH
    obtain ⟨d, e1, e2⟩ := dps_get' hd (y vs (gr_t b (gr_t a h)))
    have n := new_t (ds := [.int (i : Nat), d]) b hT (.cons (.int _) (.cons (Dpu e2 a) .nil))
    exact ⟨_, _, n.1, by rw [pairs_get e1, Nat.zero_add], n.2⟩
theorem ei_enumT (h : Ev K te Δ (.tuple ds)) : EvI K (iEnumT K te) Δ (pairsFrom 0 ds) := fun σ G H R e s q => h σ G H _ e s fun v G1 H1 s1 dv => by
  cases dv with
  | tup h1 h2 => exact ⟨_, _, rfl, gr_t s1.s h1, q _ _ _ s1 (walkD_enumT h1 h2)⟩
/-! ### stars in a display -/
theorem ea_starT {xs : List Dt} (h : Ev K te Δ (.tuple xs)) (ht : EvA K t Δ ds) : EvA K (StX.tStar K te t) Δ (xs ++ ds) := fun σ G H Q e s q => h σ G H _ e s fun v G1 H1 s1 dv => by
  cases dv with
  | tup h1 h2 => exact ⟨_, _, rfl, .inl (gr_t s1.s h1), ht σ G1 H1 _ (e.up s1.g) s1.s fun vs G2 H2 s2 dvs => q _ G2 H2 (s1.trans s2) (dps_app (Dpsu h2 s2.g) dvs)⟩
theorem ea_starL {xs : List Dt} (h : Ev K te Δ (.list xs)) (ht : EvA K t Δ ds) : EvA K (StX.tStar K te t) Δ (xs ++ ds) := fun σ G H Q e s q => h σ G H _ e s fun v G1 H1 s1 dv => by
  cases dv with
  | lst h1 h2 => exact ⟨_, _, rfl, .inr (gr_l s1.s h1), ht σ G1 H1 _ (e.up s1.g) s1.s fun vs G2 H2 s2 dvs => q _ G2 H2 (s1.trans s2) (dps_app (Dpsu h2 s2.g) dvs)⟩
/-! ### isinstance -/
def tyN : Dt → String
  | .none => "NoneType"
  | .bool _ => "bool"
  | .int _ => "int"
  | .str _ => "str"
  | .list _ => "list"
  | .tuple _ => "tuple"
  | .dict _ => "dict"
theorem tyx_of {G H : Hp} {v : V} {d : Dt} (s : Gr G H) (h : Dp K G v d) : TyX K H v (.type (tyN d)) := by
  cases h with
  | non => exact .base .non
  | bl b => exact .base (.bl b)
  | int i => exact .base (.int i)
  | str x => exact .base (.str x)
  | lst h1 h2 =>
    rcases gr_l s h1 with (e | ⟨o, e⟩) | ⟨o, its, n, e, hc, _⟩
    · exact .base (.lst e)
    · exact .base (.frz e)
    · exact .kList e hc
  | tup h1 h2 =>
    rcases gr_t s h1 with (e | ⟨o, e⟩) | ⟨o, its, n, e, hc, _⟩
    · exact .base (.tup e)
    · exact .fTuple e
    · exact .kTuple e hc
def tCls (n : String) : TE := tC (.ty n)
theorem ev_isi {n : String} {d : Dt} {b : Bool} (h : Ev K te Δ d) (hk : kitB (tyN d) n = some b) : Ev K (tCB (rIsi K) (tCons te (tCons (tC (.ty n)) tNil))) Δ (.bool b) := fun σ G H Q e s q => h σ G H _ e s fun v G1 H1 s1 dv =>
  ⟨v, .ty n, _, _, b, rfl, .ty n, tyx_of s1.s dv, kit_ty hk, q _ _ _ s1 (.bl b)⟩
/-! ### xs[i] += .., a list -/
theorem get_list {X : Cx} : PGet X (rIxL X.K) := by
  intro pins s σ H x y v u Q I rx ry h
  obtain ⟨p, xs, i, z, rfl, rfl, hq, he, q⟩ := h
  cases rx
  obtain ⟨t, rfl⟩ := ry
  obtain ⟨its, r, pl, hz⟩ := I.list hq
  obtain ⟨j, h1, h2, h3, h4, h5⟩ := atI_get he
  obtain ⟨w, ew, rw'⟩ := r.get h2
  have hl := r.length
  have hn := line63
  by_cases h0 : 0 ≤ i
  · have hj : i.toNat = j := by
      rw [seqIndex_of h0 h5] at h1
      exact Option.some.inj h1
    exact wpAny_getItem_list pl.isList h0 (by omega) (by rw [hj]; simpa using ew) ⟨z, H, I, rw', q⟩
  · have hj : (i + (its.toArray.size : Int)).toNat = j := by
      rw [seqIndex_neg (by omega) h4] at h1
      rw [List.size_toArray, ← hl]
      exact Option.some.inj h1
    exact wpAny_getItem_list_neg pl.isList (by omega) (by rw [List.size_toArray] <;> omega) (by omega) (by rw [hj]; simpa using ew) ⟨z, H, I, rw', q⟩
/-! ### two clauses: [e for a in xs for b in f(a)] -/
theorem flen2 (ds : List Dt) (f : Dt → List Dt) (n : Nat) (h : ∀ d, d ∈ ds → (f d).length ≤ n) (i : Nat) : ((ds.take i).flatMap f).length ≤ i * n := by
  induction ds generalizing i with
  | nil => rw [List.take_nil]; exact Nat.zero_le _
  | cons d ds ih =>
    cases i with
    | zero => exact Nat.zero_le _
    | succ i =>
      rw [List.take_succ_cons, List.flatMap_cons, List.length_append, Nat.succ_mul]
      have h1 := h d (List.mem_cons_self)
      have h2 := ih (fun e he => h e (List.mem_cons_of_mem _ he)) i
      omega
theorem en_lc2 {wi wi1 : TI} {g g1 : TG} {te : TE} {ds : List Dt} {js vs js1 vs1 : List Nat} (es : Dt → List Dt) (q : Dt → Dt → Dt) (Δt : Dt → Sl) (Δu : Dt → Dt → Sl) (hi : EvI K wi Δ ds) (hl : ds.length ≤ 1000) (hl1 : ∀ d, d ∈ ds → (es d).length ≤ 100) (hj : ∀ j ∈ js, j ∈ vs) (hj1 : ∀ j ∈ js1, j ∈ vs1)
    (hg : ∀ d, d ∈ ds → EvG K g (wipeD Δ vs) d (Δt d) js) (hi1 : ∀ d, d ∈ ds → EvI K wi1 (Δt d) (es d)) (hg1 : ∀ d, d ∈ ds → ∀ e, e ∈ es d → EvG K g1 (wipeD (Δt d) vs1) e (Δu d e) js1)
    (he : ∀ d, d ∈ ds → ∀ e, e ∈ es d → Ev K te (Δu d e) (q d e)) : EvN K (tLc2 wi g tYes wi1 g1 tYes te vs vs1) Δ (ds.flatMap fun d => (es d).map (q d)) := fun σ G H Q e s k =>
  hi σ G H _ e s fun J G1 H1 s1 w => fun L hL => by
    have hH : H L = none := s1.h.back hL
    have hlen : ∀ d, d ∈ ds → ((es d).map (q d)).length ≤ 100 := fun d hd => by rw [List.length_map]; exact hl1 d hd
    refine ⟨fun i m H' => m = ds.length - i ∧ i ≤ ds.length ∧ ∃ G' vs', Stp G H G' H' ∧ Gr G1 G' ∧ G' L = none ∧ H' L = some (.lst vs') ∧ DpAll K G' vs' ((ds.take i).flatMap fun d => (es d).map (q d)), ⟨ds.length, rfl, Nat.zero_le _, G1, [], s1.trans (.hid s1.s hL), .refl _, s1.s.back hL, upd_same, .nil⟩, ?_⟩
    rintro i m H' ⟨rfl, hle, G', vs', s', g', n', h', d'⟩
    by_cases hlt : i < ds.length
    · refine .inr ⟨w.go i G' H' g' s'.s hlt, fun H'' => ∃ G'' vs'', Stp G H G'' H'' ∧ Gr G1 G'' ∧ G'' L = none ∧ H'' L = some (.lst vs'') ∧ DpAll K G'' vs'' ((ds.take (i + 1)).flatMap fun d => (es d).map (q d)), fun H'' ⟨G'', vs'', a, b, c, f, g⟩ => ⟨ds.length - (i + 1), by omega, rfl, hlt, G'', vs'', a, b, c, f, g⟩, fun x H2 y => ?_⟩
      obtain ⟨G2, d, s2, hd, dx⟩ := w.yld i G' H' x H2 g' s'.s hlt y
      have hmem : d ∈ ds := List.mem_of_getElem? hd
      have n2 : G2 L = none := s2.f L (by rw [h']; simp) n'
      refine hg d hmem x _ G2 H2 _ ((e.up ((s1.g.trans g').trans s2.g)).wipe vs) s2.s dx fun σ2 e2 w2 => ⟨?_, ?_⟩
      · rw [w2 vs hj]
        apply List.ext_getElem?
        intro k
        rw [wipe_at, wipe_at, wipe_length]
        split <;> rfl
      refine hi1 d hmem σ2 G2 H2 _ e2 s2.s fun J1 G3 H3 s3 w1 => ?_
      have h2 : H2 L = some (.lst vs') := s2.h _ _ h'
      have h3 : H3 L = some (.lst vs') := s3.h _ _ h2
      have n3 : G3 L = none := s3.f L (by rw [h2]; simp) n2
      have st3 := (s'.trans s2).trans s3
      refine ⟨fun j m H4 => m = (es d).length - j ∧ j ≤ (es d).length ∧ ∃ G4 vs4, Stp G H G4 H4 ∧ Gr G3 G4 ∧ G4 L = none ∧ H4 L = some (.lst vs4) ∧ DpAll K G4 vs4 (((ds.take i).flatMap fun d => (es d).map (q d)) ++ ((es d).take j).map (q d)),
        ⟨(es d).length, rfl, Nat.zero_le _, G3, vs', st3, .refl _, n3, h3, by rw [List.take_zero, List.map_nil, List.append_nil]; exact Dpsu d' (s2.g.trans s3.g)⟩, ?_⟩
      rintro j m H4 ⟨rfl, hle4, G4, vs4, s4, g4, n4, h4, d4⟩
      by_cases hlt4 : j < (es d).length
      · refine .inr ⟨w1.go j G4 H4 g4 s4.s hlt4, fun H'' => ∃ G'' vs'', Stp G H G'' H'' ∧ Gr G3 G'' ∧ G'' L = none ∧ H'' L = some (.lst vs'') ∧ DpAll K G'' vs'' (((ds.take i).flatMap fun d => (es d).map (q d)) ++ ((es d).take (j + 1)).map (q d)), fun H'' ⟨G'', vs'', a, b, c, f, g⟩ => ⟨(es d).length - (j + 1), by omega, rfl, hlt4, G'', vs'', a, b, c, f, g⟩, fun x5 H5 y5 => ?_⟩
        obtain ⟨G5, d5, s5, hd5, dx5⟩ := w1.yld j G4 H4 x5 H5 g4 s4.s hlt4 y5
        have hmem5 : d5 ∈ es d := List.mem_of_getElem? hd5
        have n5 : G5 L = none := s5.f L (by rw [h4]; simp) n4
        have h5 : H5 L = some (.lst vs4) := s5.h _ _ h4
        refine hg1 d hmem d5 hmem5 x5 _ G5 H5 _ ((e2.up ((s3.g.trans g4).trans s5.g)).wipe vs1) s5.s dx5 fun σ6 e6 w6 => ⟨?_, ?_⟩
        · rw [w6 vs1 hj1]
          apply List.ext_getElem?
          intro k
          rw [wipe_at, wipe_at, wipe_length]
          split <;> rfl
        refine he d hmem d5 hmem5 σ6 G5 H5 _ e6 s5.s fun v G7 H7 s7 dv => ⟨vs4, s7.h _ _ h5, ?_, G7, vs4 ++ [v], ?_, (g4.trans s5.g).trans s7.g, ?_, upd_same, ?_⟩
        · rw [dps_len d4, List.length_append, List.length_map, List.length_take]
          have b1 := flen2 ds (fun d => (es d).map (q d)) 100 hlen i
          have b2 := hl1 d hmem
          have b3 : min j (es d).length ≤ 100 := Nat.le_trans (Nat.min_le_right _ _) b2
          have b4 : i * 100 ≤ 1000 * 100 := Nat.mul_le_mul_right _ (by omega)
          exact Nat.lt_of_le_of_lt (Nat.add_le_add (Nat.le_trans b1 b4) b3) (by decide)
        · exact ((s4.trans s5).trans s7).put hH (s7.f L (by rw [h5]; simp) n5)
        · exact s7.f L (by rw [h5]; simp) n5
        · have e8 : ((es d).take (j + 1)).map (q d) = ((es d).take j).map (q d) ++ [q d d5] := by
            rw [List.take_add_one, hd5, List.map_append]; rfl
          rw [e8, ← List.append_assoc]
          exact dps_app (Dpsu d4 (s5.g.trans s7.g)) (.cons dv .nil)
      · have he4 : j = (es d).length := by omega
        subst he4
        refine .inl ⟨w1.stop G4 H4 g4 s4.s, G4, vs4, s4, (g'.trans s2.g).trans (s3.g.trans g4), n4, h4, ?_⟩
        rw [List.take_length] at d4
        have e9 : (ds.take (i + 1)).flatMap (fun d => (es d).map (q d)) = ((ds.take i).flatMap fun d => (es d).map (q d)) ++ (es d).map (q d) := by
          rw [List.take_add_one, hd, List.flatMap_append]; simp
        rw [e9]
        exact d4
    · have he' : i = ds.length := by omega
      subst he'
      refine .inl ⟨w.stop G' H' g' s'.s, ?_⟩
      rw [List.take_length] at d'
      exact k L vs' _ H' (s'.show hH n' h') upd_same (Dpsu d' (.new n'))
end
end Sb

/-! Seamboard, layer 4: what a row of drawn numbers gives: any number below its bound. -/
namespace Sb
open PySem PySem.Spec PyProof.Rows L2

/-! ### the row: [the script, a count, a mix, a rest] -/
structure RowOk (K : PySem.W.Frag) (G H : Hp) (L : Addr) : Prop where
  g : G L = none
  at_ : ∃ (a : Addr) (ns : List Int) (i s r : Int), H L = some (.lst [.ref a, .int i, .int s, .int r]) ∧ SqL K G a (ns.map V.int) ∧ 0 ≤ i
structure StpR (L : Addr) (G H G2 H2 : Hp) : Prop where
  g : Gr G G2
  s : Gr G2 H2
  h : ∀ a o, a ≠ L → H a = some o → H2 a = some o
  f : ∀ a, H a ≠ none → G a = none → G2 a = none
section
variable {K : PySem.W.Frag} {L : Addr} {G H G1 H1 G2 H2 : Hp}
theorem Stp.row (s : Stp G H G2 H2) : StpR L G H G2 H2 := ⟨s.g, s.s, fun a o _ e => s.h a o e, s.f⟩
theorem StpR.refl (s : Gr G H) : StpR L G H G H := (Stp.refl s).row
theorem StpR.trans (a : StpR L G H G1 H1) (b : StpR L G1 H1 G2 H2) (hL : H1 L ≠ none) : StpR L G H G2 H2 :=
  ⟨a.g.trans b.g, b.s, fun x o n e => b.h x o n (a.h x o n e), fun x h1 h2 => b.f x (fun q => by
    by_cases e : x = L
    · exact hL (e ▸ q)
    · cases e2 : H x with
      | none => exact h1 e2
      | some o => rw [a.h x o e e2] at q; cases q) (a.f x h1 h2)⟩
theorem RowOk.there (r : RowOk K G H L) : H L ≠ none := by
  obtain ⟨a, ns, i, s, g, e, _⟩ := r.at_
  rw [e]; simp
theorem RowOk.step (r : RowOk K G H L) (s : Stp G H G2 H2) : RowOk K G2 H2 L := by
  refine ⟨s.f L r.there r.g, ?_⟩
  obtain ⟨a, ns, i, m, g, e, h1, h2⟩ := r.at_
  exact ⟨a, ns, i, m, g, s.h _ _ e, gr_l s.g h1, h2⟩
end
def ER (K : PySem.W.Frag) (L : Addr) (te : TE) (Δ : Sl) (P : Dt → Prop) : Prop :=
  ∀ (σ : L2.St) (G H : Hp) (Q : VK), En K G σ Δ → Gr G H → RowOk K G H L → (∀ v d G2 H2, StpR L G H G2 H2 → RowOk K G2 H2 L → P d → Dp K G2 v d → Q v H2) → te σ H Q
def ERA (K : PySem.W.Frag) (L : Addr) (ta : TA) (Δ : Sl) (P : List Dt → Prop) : Prop :=
  ∀ (σ : L2.St) (G H : Hp) (Q : List V → Hp → Prop), En K G σ Δ → Gr G H → RowOk K G H L → (∀ vs ds G2 H2, StpR L G H G2 H2 → RowOk K G2 H2 L → P ds → DpAll K G2 vs ds → Q vs H2) → ta σ H Q
def ERT (K : PySem.W.Frag) (L : Addr) (tt : TT) (Δ : Sl) (P : Bool → Prop) : Prop :=
  ∀ (σ : L2.St) (G H : Hp) (Q : Bool → Hp → Prop), En K G σ Δ → Gr G H → RowOk K G H L → (∀ b G2 H2, StpR L G H G2 H2 → RowOk K G2 H2 L → P b → Q b H2) → tt σ H Q
/-- a new list -/
def ERN (K : PySem.W.Frag) (L : Addr) (te : TE) (Δ : Sl) (P : List Dt → Prop) : Prop :=
  ∀ (σ : L2.St) (G H : Hp) (Q : VK), En K G σ Δ → Gr G H → RowOk K G H L → (∀ p vs ds G2 H2, StpR L G H G2 H2 → RowOk K G2 H2 L → P ds → G2 p = some (.lst vs) → DpAll K G2 vs ds → Q (.ref p) H2) → te σ H Q
section
variable {K : PySem.W.Frag} {L : Addr} {Δ : Sl} {ta tb te : TE} {t : TA} {tt tu : TT} {d : Dt} {ds : List Dt} {r : R2} {P PA PB : Dt → Prop} {PL PM : List Dt → Prop}
theorem er_of (h : Ev K te Δ d) (p : P d) : ER K L te Δ P := fun σ G H Q e s ro q => h σ G H Q e s fun v G2 H2 s2 dv => q v d G2 H2 s2.row (ro.step s2) p dv
theorem ern_of (h : EvN K te Δ ds) (p : PL ds) : ERN K L te Δ PL := fun σ G H Q e s ro q => h σ G H Q e s fun a vs G2 H2 s2 h2 dv => q a vs ds G2 H2 s2.row (ro.step s2) p h2 dv
theorem er_ofN (h : ERN K L te Δ PL) (p : ∀ ds, PL ds → P (.list ds)) : ER K L te Δ P := fun σ G H Q e s ro q => h σ G H Q e s ro fun a vs ds G2 H2 s2 r2 pp h2 dv => q _ _ G2 H2 s2 r2 (p ds pp) (.lst (.inl (.inl h2)) dv)
theorem er_mono (h : ER K L te Δ PA) (p : ∀ d, PA d → P d) : ER K L te Δ P := fun σ G H Q e s ro q => h σ G H Q e s ro fun v d G2 H2 s2 r2 pd dv => q v d G2 H2 s2 r2 (p d pd) dv
theorem er_op (ha : ER K L ta Δ PA) (hb : ER K L tb Δ PB) (hr : ∀ x y, PA x → PB y → ∃ z, RV K r x y z ∧ P z) : ER K L (tOp r ta tb) Δ P := fun σ G H Q e s ro q =>
  ha σ G H _ e s ro fun v x G1 H1 s1 r1 px dv => hb σ G1 H1 _ (e.up s1.g) s1.s r1 fun u y G2 H2 s2 r2 py du => by
    obtain ⟨z, hz, pz⟩ := hr x y px py
    refine hz G2 H2 v u Q s2.s (Dpu dv s2.g) du fun w G3 H3 s3 dw => ?_
    exact q w z G3 H3 ((s1.trans s2 r1.there).trans s3.row r2.there) (r2.step s3) pz dw
theorem era_nil (p : PL []) : ERA K L tNil Δ PL := fun σ G H Q e s ro q => q [] [] G H (.refl s) ro p .nil
theorem era_cons (ha : ER K L ta Δ PA) (ht : ERA K L t Δ PM) (p : ∀ x xs, PA x → PM xs → PL (x :: xs)) : ERA K L (tCons ta t) Δ PL := fun σ G H Q e s ro q =>
  ha σ G H _ e s ro fun v x G1 H1 s1 r1 px dv => ht σ G1 H1 _ (e.up s1.g) s1.s r1 fun vs ds G2 H2 s2 r2 pm dvs => q _ _ G2 H2 (s1.trans s2 r1.there) r2 (p x ds px pm) (.cons (Dpu dv s2.g) dvs)
theorem era_of {ta : TA} (h : EvA K ta Δ ds) (p : PL ds) : ERA K L ta Δ PL := fun σ G H Q e s ro q => h σ G H Q e s fun v G2 H2 s2 dv => q v ds G2 H2 s2.row (ro.step s2) p dv
theorem er_tup (ha : ERA K L t Δ PL) (p : ∀ ds, PL ds → ds.length ≤ 100000 ∧ P (.tuple ds)) : ER K L (tTup t) Δ P := fun σ G H Q e s ro q =>
  ha σ G H _ e s ro fun vs ds G1 H1 s1 r1 pd dv => ⟨by rw [dps_len dv]; exact Evl.sz_of (p ds pd).1, fun a hp => by
    have n := new_t s1.s hp dv
    exact q _ _ _ _ (s1.trans n.1.row r1.there) (r1.step n.1) (p ds pd).2 n.2⟩
theorem ern_lst (ha : ERA K L t Δ PL) (p : ∀ ds, PL ds → ds.length ≤ 100000 ∧ PM ds) : ERN K L (tLst t) Δ PM := fun σ G H Q e s ro q =>
  ha σ G H _ e s ro fun vs ds G1 H1 s1 r1 pd dv => ⟨by rw [dps_len dv]; exact Evl.sz_of (p ds pd).1, fun a hp => by
    have n := new_n s1.s hp dv
    exact q _ _ _ _ _ (s1.trans n.1.row r1.there) (r1.step n.1) (p ds pd).2 n.2.1 n.2.2⟩
theorem er_cb {r : List V → Hp → VK → Prop} (ha : ERA K L t Δ PL) (hr : ∀ xs, PL xs → ∃ z, RC K r xs z ∧ P z) : ER K L (tCB r t) Δ P := fun σ G H Q e s ro q =>
  ha σ G H _ e s ro fun vs xs G1 H1 s1 r1 px dv => by
    obtain ⟨z, hz, pz⟩ := hr xs px
    exact hz G1 H1 vs Q s1.s dv fun w G3 H3 s3 dw => q w z G3 H3 (s1.trans s3.row r1.there) (r1.step s3) pz dw
theorem ert_test {p : Bool → Prop} (h : ER K L te Δ fun d => ∃ b, d = .bool b ∧ p b) : ERT K L (tTest te) Δ p := fun σ G H Q e s ro q => h σ G H _ e s ro fun v d G1 H1 s1 r1 pd dv => by
  obtain ⟨b, rfl, pb⟩ := pd
  cases dv
  exact ⟨b, rfl, q b _ _ s1 r1 pb⟩
theorem ert_B {p : Bool → Prop} (h : ER K L te Δ fun d => ∃ b, d = .bool b ∧ p b) : ERT K L (tB te) Δ p := fun σ G H Q e s ro q => h σ G H _ e s ro fun v d G1 H1 s1 r1 pd dv => by
  obtain ⟨b, rfl, pb⟩ := pd
  cases dv
  exact ⟨b, rfl, q b _ _ s1 r1 pb⟩
theorem ert_of {b : Bool} {p : Bool → Prop} (h : EvT K tt Δ b) (pb : p b) : ERT K L tt Δ p := fun σ G H Q e s ro q => h σ G H Q e s fun G2 H2 s2 => q b G2 H2 s2.row (ro.step s2) pb
/-- the promise of a def that draws: the row first -/
def spR (K : PySem.W.Frag) (Pre : List Dt → Prop) (F : List Dt → Dt → Prop) : Sp := fun vs H Q _ => ∃ G L ws ds, vs = .ref L :: ws ∧ Gr G H ∧ RowOk K G H L ∧ DpAll K G ws ds ∧ Pre ds ∧
  ∀ v d G2 H2, F ds d → StpR L G H G2 H2 → RowOk K G2 H2 L → Dp K G2 v d → Q v H2
theorem er_call {i : Nat} {Pre : List Dt → Prop} {F : List Dt → Dt → Prop} {E : XK} (hL : Δ[i]? = some (some (.r L))) (ha : ERA K L t Δ PL) (p : ∀ ds, PL ds → Pre ds ∧ ∀ d, F ds d → P d) : ER K L (tCall (spR K Pre F) [] E (tCons (tVar i) t)) Δ P := fun σ G H Q e s ro q => by
  obtain ⟨v, a, b⟩ := e.at_ i _ hL
  cases b
  refine ⟨_, a, ha σ G H _ e s ro fun vs ds G1 H1 s1 r1 pd dv => ⟨G1, L, vs, ds, by rw [List.append_nil], s1.s, r1, dv, (p ds pd).1, fun v d G2 H2 f s2 r2 d2 => ?_⟩⟩
  exact q v d G2 H2 (s1.trans s2 r1.there) r2 ((p ds pd).2 d f) d2
end
/-! ### statements that draw -/
def PostR (K : PySem.W.Frag) (L : Addr) (D : Ends) (G H : Hp) : Out → Prop
  | .nx Δ => ∀ σ G2 H2, StpR L G H G2 H2 → RowOk K G2 H2 L → En K G2 σ Δ → D.nx σ H2
  | .bk Δ => ∀ σ G2 H2, StpR L G H G2 H2 → RowOk K G2 H2 L → En K G2 σ Δ → D.bk σ H2
  | .ct Δ => ∀ σ G2 H2, StpR L G H G2 H2 → RowOk K G2 H2 L → En K G2 σ Δ → D.ct σ H2
  | .rt d => ∀ v G2 H2, StpR L G H G2 H2 → RowOk K G2 H2 L → Dp K G2 v d → D.rt v H2
  | .rl ds => ∀ p vs G2 H2, StpR L G H G2 H2 → RowOk K G2 H2 L → G2 p = some (.lst vs) → DpAll K G2 vs ds → D.rt (.ref p) H2
def SR (K : PySem.W.Frag) (L : Addr) (ts : TS) (Δ : Sl) (P : Out → Prop) : Prop := ∀ (D : Ends) (σ : L2.St) (G H : Hp), En K G σ Δ → Gr G H → RowOk K G H L → (∀ o, P o → PostR K L D G H o) → ts D σ H
section
variable {K : PySem.W.Frag} {L : Addr} {Δ Δ1 Δ2 : Sl} {t u w : TS} {te : TE} {o : Out} {d : Dt} {G H G1 H1 : Hp} {D : Ends} {P : Out → Prop} {PA : Dt → Prop} {PL : List Dt → Prop}
theorem PostR.step (s : StpR L G H G1 H1) (r : RowOk K G1 H1 L) (p : PostR K L D G H o) : PostR K L D G1 H1 o := by
  cases o with
  | nx Δ => exact fun σ G2 H2 s2 r2 e => p σ G2 H2 (s.trans s2 r.there) r2 e
  | bk Δ => exact fun σ G2 H2 s2 r2 e => p σ G2 H2 (s.trans s2 r.there) r2 e
  | ct Δ => exact fun σ G2 H2 s2 r2 e => p σ G2 H2 (s.trans s2 r.there) r2 e
  | rt d => exact fun v G2 H2 s2 r2 e => p v G2 H2 (s.trans s2 r.there) r2 e
  | rl ds => exact fun a vs G2 H2 s2 r2 h e => p a vs G2 H2 (s.trans s2 r.there) r2 h e
theorem sr_of (h : Sx K t Δ o) (p : P o) : SR K L t Δ P := fun D σ G H e s ro q => by
  have q' := q o p
  refine h D σ G H e s ?_
  cases o with
  | nx Δ => exact fun σ G2 H2 s2 e => q' σ G2 H2 s2.row (ro.step s2) e
  | bk Δ => exact fun σ G2 H2 s2 e => q' σ G2 H2 s2.row (ro.step s2) e
  | ct Δ => exact fun σ G2 H2 s2 e => q' σ G2 H2 s2.row (ro.step s2) e
  | rt d => exact fun v G2 H2 s2 e => q' v G2 H2 s2.row (ro.step s2) e
  | rl ds => exact fun a vs G2 H2 s2 h e => q' a vs G2 H2 s2.row (ro.step s2) h e
/-- a pure statement, then the rest -/
theorem sr_pure (h : Sx K t Δ (.nx Δ1)) (k : SR K L u Δ1 P) : SR K L (tSeq t u) Δ P := fun D σ G H e s ro q =>
  h { D with nx := u D } σ G H e s fun σ1 G1 H1 s1 e1 => k D σ1 G1 H1 e1 s1.s (ro.step s1) fun o po => (q o po).step s1.row (ro.step s1)
theorem sr_seq {PM : Sl → Prop} (h : SR K L t Δ fun o => ∃ Δ1, o = .nx Δ1 ∧ PM Δ1) (k : ∀ Δ1, PM Δ1 → SR K L u Δ1 P) : SR K L (tSeq t u) Δ P := fun D σ G H e s ro q =>
  h { D with nx := u D } σ G H e s ro fun o ⟨Δ1, e1, p1⟩ => by
    subst e1
    exact fun σ1 G1 H1 s1 r1 e1 => k Δ1 p1 D σ1 G1 H1 e1 s1.s r1 fun o po => (q o po).step s1 r1
theorem sr_cut {PM : Sl → Prop} (h : SR K L t Δ fun o => ∃ Δ1, o = .nx Δ1 ∧ PM Δ1) (k : ∀ Δ1, PM Δ1 → SR K L u Δ1 P) : SR K L (Evl.tCut t u) Δ P := fun D σ G H e s ro q =>
  ⟨fun σ' H' => ∃ G' Δ1, PM Δ1 ∧ StpR L G H G' H' ∧ RowOk K G' H' L ∧ En K G' σ' Δ1, h _ σ G H e s ro (fun o ⟨Δ1, e1, p1⟩ => by
    subst e1
    exact fun σ1 G1 H1 s1 r1 e1 => ⟨G1, Δ1, p1, s1, r1, e1⟩), fun σ' H' ⟨G', Δ1, p1, s1, r1, e1⟩ => k Δ1 p1 D σ' G' H' e1 s1.s r1 fun o po => (q o po).step s1 r1⟩
theorem sr_asg1 {i : Nat} (h : ER K L te Δ PA) (k : ∀ d, PA d → P (.nx (Δ.set i (some (.d d))))) : SR K L (tAsg te (gName i)) Δ P := fun D σ G H e s ro q =>
  h σ G H _ e s ro fun v d G1 H1 s1 r1 pd dv => q _ (k d pd) _ G1 H1 s1 r1 ((e.up s1.g).set (w := .d d) i dv)
theorem sr_asg {i : Nat} (h : ER K L te Δ PA) (k : ∀ d, PA d → SR K L u (Δ.set i (some (.d d))) P) : SR K L (tSeq (tAsg te (gName i)) u) Δ P := fun D σ G H e s ro q =>
  h σ G H _ e s ro fun v d G1 H1 s1 r1 pd dv => k d pd D _ G1 H1 ((e.up s1.g).set (w := .d d) i dv) s1.s r1 fun o po => (q o po).step s1 r1
theorem sr_asgN {i : Nat} (h : ERN K L te Δ PL) (k : ∀ ds, PL ds → SR K L u (Δ.set i (some (.l ds))) P) : SR K L (tSeq (tAsg te (gName i)) u) Δ P := fun D σ G H e s ro q =>
  h σ G H _ e s ro fun p vs ds G1 H1 s1 r1 pd h1 dv => k ds pd D _ G1 H1 ((e.up s1.g).set (w := .l ds) i ⟨p, vs, rfl, h1, dv⟩) s1.s r1 fun o po => (q o po).step s1 r1
theorem sr_asgN1 {i : Nat} (h : ERN K L te Δ PL) (k : ∀ ds, PL ds → P (.nx (Δ.set i (some (.l ds))))) : SR K L (tAsg te (gName i)) Δ P := fun D σ G H e s ro q =>
  h σ G H _ e s ro fun p vs ds G1 H1 s1 r1 pd h1 dv => q _ (k ds pd) _ G1 H1 s1 r1 ((e.up s1.g).set (w := .l ds) i ⟨p, vs, rfl, h1, dv⟩)
theorem sr_par {i j : Nat} {ta : TA} {PP : Dt → Dt → Prop} (h : ERA K L ta Δ fun ds => ∃ a b, ds = [a, b] ∧ PP a b) (k : ∀ a b, PP a b → SR K L u ((Δ.set i (some (.d a))).set j (some (.d b))) P) : SR K L (tSeq (tPar i j ta) u) Δ P := fun D σ G H e s ro q =>
  h σ G H _ e s ro fun vs ds G1 H1 s1 r1 pd dv => by
    obtain ⟨a, b, rfl, p⟩ := pd
    cases dv with
    | cons x y =>
      cases y with
      | cons z y =>
        cases y
        exact ⟨_, _, rfl, k a b p D _ G1 H1 (((e.up s1.g).set (w := .d a) i x).set (w := .d b) j z) s1.s r1 fun o po => (q o po).step s1 r1⟩
theorem sr_par3 {i j l : Nat} {ta : TA} {PP : Dt → Dt → Dt → Prop} (h : ERA K L ta Δ fun ds => ∃ a b c, ds = [a, b, c] ∧ PP a b c) (k : ∀ a b c, PP a b c → SR K L u (((Δ.set i (some (.d a))).set j (some (.d b))).set l (some (.d c))) P) : SR K L (tSeq (tPar3 i j l ta) u) Δ P := fun D σ G H e s ro q =>
  h σ G H _ e s ro fun vs ds G1 H1 s1 r1 pd dv => by
    obtain ⟨a, b, c, rfl, p⟩ := pd
    cases dv with
    | cons x y =>
      cases y with
      | cons z y =>
        cases y with
        | cons z2 y =>
          cases y
          exact ⟨_, _, _, rfl, k a b c p D _ G1 H1 ((((e.up s1.g).set (w := .d a) i x).set (w := .d b) j z).set (w := .d c) l z2) s1.s r1 fun o po => (q o po).step s1 r1⟩
theorem sr_ret (h : ER K L te Δ PA) (k : ∀ d, PA d → P (.rt d)) : SR K L (tRet te) Δ P := fun D σ G H e s ro q =>
  h σ G H _ e s ro fun v d G1 H1 s1 r1 pd dv => q _ (k d pd) v G1 H1 s1 r1 dv
theorem sr_if {tt : TT} {p : Bool → Prop} (h : ERT K L tt Δ p) (h1 : p true → SR K L t Δ P) (h2 : p false → SR K L u Δ P) : SR K L (tIfS tt t u) Δ P := fun D σ G H e s ro q =>
  h σ G H _ e s ro fun b G1 H1 s1 r1 pb => by
    cases b with
    | true => exact iteT (h1 pb D σ G1 H1 (e.up s1.g) s1.s r1 fun o po => (q o po).step s1 r1)
    | false => exact iteF (h2 pb D σ G1 H1 (e.up s1.g) s1.s r1 fun o po => (q o po).step s1 r1)
/-- if c: .. that is not taken, then the rest -/
theorem sr_skip {tt : TT} (h : EvT K tt Δ false) (k : SR K L u Δ P) : SR K L (tSeq (tIfS tt t tNext) u) Δ P := fun D σ G H e s ro q =>
  h σ G H _ e s fun G1 H1 s1 => iteF (k D σ G1 H1 (e.up s1.g) s1.s (ro.step s1) fun o po => (q o po).step s1.row (ro.step s1))
/-- if c: .. , both ways on to the rest -/
theorem sr_when {tt : TT} {p : Bool → Prop} {PM : Sl → Prop} (h : ERT K L tt Δ p) (h1 : p true → SR K L t Δ fun o => ∃ Δ1, o = .nx Δ1 ∧ PM Δ1) (h0 : p false → PM Δ) (k : ∀ Δ1, PM Δ1 → SR K L u Δ1 P) : SR K L (tSeq (tIfS tt t tNext) u) Δ P :=
  sr_seq (sr_if h h1 (fun pf => sr_of sx_nil ⟨Δ, rfl, h0 pf⟩)) k
theorem sr_weak (h : SR K L t Δ2 P) (l : Lt Δ Δ2) : SR K L t Δ P := fun D σ G H e s ro q => h D σ G H (e.weak l) s ro q
/-- a loop whose turns draw -/
theorem sr_for {wi : TI} {tb : TS} {j : Nat} {PD : List Dt → Prop} (Iv : List Dt → Nat → Sl → Prop)
    (hi : ∀ (σ : L2.St) (G H : Hp) (R : It → Hp → Prop), En K G σ Δ → Gr G H → RowOk K G H L → (∀ J ds G2 H2, PD ds → StpR L G H G2 H2 → RowOk K G2 H2 L → WalkD K J G2 ds → R J H2) → wi σ H R)
    (h0 : ∀ ds, PD ds → Iv ds 0 Δ) (hb : ∀ ds i d Δi, PD ds → ds[i]? = some d → Iv ds i Δi → SR K L tb (Δi.set j (some (.d d))) fun o => ∃ Δ', (o = .nx Δ' ∨ o = .ct Δ') ∧ Iv ds (i + 1) Δ')
    (k : ∀ ds Δ', PD ds → Iv ds ds.length Δ' → SR K L u Δ' P) : SR K L (tSeq (tFor wi (gName j) tb) u) Δ P := fun D σ G H e s ro q =>
  hi σ G H _ e s ro fun J ds G1 H1 pd s1 r1 w => by
    refine ⟨fun i m σ' H' => m = ds.length - i ∧ i ≤ ds.length ∧ ∃ G' Δ', StpR L G H G' H' ∧ RowOk K G' H' L ∧ Gr G1 G' ∧ Iv ds i Δ' ∧ En K G' σ' Δ', ⟨ds.length, rfl, Nat.zero_le _, G1, Δ, s1, r1, .refl _, h0 ds pd, e.up s1.g⟩, ?_⟩
    rintro i m σ' H' ⟨rfl, hle, G', Δ', s', r', g', iv, e'⟩
    by_cases hlt : i < ds.length
    · refine .inr ⟨w.go i G' H' g' s'.s hlt, fun σ'' H'' => ∃ G'' Δ'', StpR L G H G'' H'' ∧ RowOk K G'' H'' L ∧ Gr G1 G'' ∧ Iv ds (i + 1) Δ'' ∧ En K G'' σ'' Δ'', fun σ'' H'' ⟨G'', Δ'', a, b, c, f, g⟩ => ⟨ds.length - (i + 1), by omega, rfl, hlt, G'', Δ'', a, b, c, f, g⟩, fun x H2 y => ?_⟩
      obtain ⟨G2, d, s2, hd, dx⟩ := w.yld i G' H' x H2 g' s'.s hlt y
      have r2 := r'.step s2
      refine hb ds i d Δ' pd hd iv _ _ G2 H2 ((e'.up s2.g).set (w := .d d) j dx) s2.s r2 fun o ⟨Δ'', ho, iv'⟩ => ?_
      have st : ∀ {G3 H3}, StpR L G2 H2 G3 H3 → StpR L G H G3 H3 := fun s3 => (s'.trans s2.row r'.there).trans s3 r2.there
      rcases ho with ho | ho
      · subst ho
        exact fun σ3 G3 H3 s3 r3 e3 => ⟨G3, Δ'', st s3, r3, (g'.trans s2.g).trans s3.g, iv', e3⟩
      · subst ho
        exact fun σ3 G3 H3 s3 r3 e3 => ⟨G3, Δ'', st s3, r3, (g'.trans s2.g).trans s3.g, iv', e3⟩
    · have he : i = ds.length := by omega
      subst he
      exact .inl ⟨w.stop G' H' g' s'.s, k ds Δ' pd iv D σ' G' H' e' s'.s r' fun o po => (q o po).step s' r'⟩
theorem ri_of {wi : TI} {ds : List Dt} {PD : List Dt → Prop} (h : EvI K wi Δ ds) (p : PD ds) (σ : L2.St) (G H : Hp) (R : It → Hp → Prop) (e : En K G σ Δ) (s : Gr G H) (ro : RowOk K G H L) (q : ∀ J ds G2 H2, PD ds → StpR L G H G2 H2 → RowOk K G2 H2 L → WalkD K J G2 ds → R J H2) : wi σ H R :=
  h σ G H R e s fun J G2 H2 s2 w => q J ds G2 H2 p s2.row (ro.step s2) w
theorem ri_rng1 {ta : TA} {PD : List Dt → Prop} (h : ERA K L ta Δ fun ds => ∃ j : Int, ds = [.int j] ∧ -1000000 ≤ j ∧ j ≤ 1000000 ∧ PD (upto 0 j.toNat)) (σ : L2.St) (G H : Hp) (R : It → Hp → Prop) (e : En K G σ Δ) (s : Gr G H) (ro : RowOk K G H L)
    (q : ∀ J ds G2 H2, PD ds → StpR L G H G2 H2 → RowOk K G2 H2 L → WalkD K J G2 ds → R J H2) : iRng1 ta σ H R := h σ G H _ e s ro fun vs ds G1 H1 s1 r1 pd dv => by
  obtain ⟨j, rfl, h1, h2, pj⟩ := pd
  cases dv with
  | cons a b => cases b; cases a; exact ⟨j, rfl, by omega, by omega, q _ _ _ _ pj s1 r1 walkD_range⟩
end
/-! ### a def of the text, told by its promise -/
structure Has (P : Program) (w : World) (K : PySem.W.Frag) (mg : Str → Option Value) (base : Heap) (x : Str) (k : Nat) (ps : List Str) (sp : Sp) : Prop where
  ex : ∃ f fd, FnOk P w K mg base CX0 k f fd ps sp ∧ mg x = some (.ref f) ∧ PySem.W.keepIn K (.ref f) = true ∧ Binds K fd ps []
structure TextFn (K : PySem.W.Frag) (x : Str) (st : Stmt) : Prop where
  ex : ∃ (f : Addr) (oc : Value) (od : Option Addr) (osl : Array (Option Value)) (kV dc pm : Value) (an : Option Addr) (cd ct : Value), PySem.W.nsIn K mainGlobals x = some (some (.ref f)) ∧
    K.lookup f = some ⟨oc, od, .func (PySem.W.fnOf x x (defArgs st) (defBody st) (defScope st) .none kV dc pm an cd ct), osl⟩ ∧ PySem.W.codeIn K cd x = true ∧ PySem.W.keepIn K (.ref f) = true
theorem textFn_mk {K : PySem.W.Frag} {x : Str} {st : Stmt} {f : Addr} {oc : Value} {od : Option Addr} {osl : Array (Option Value)} {kV dc pm : Value} {an : Option Addr} {cd ct : Value} (a : PySem.W.nsIn K mainGlobals x = some (some (.ref f)))
    (l : K.lookup f = some ⟨oc, od, .func (PySem.W.fnOf x x (defArgs st) (defBody st) (defScope st) .none kV dc pm an cd ct), osl⟩) (c : PySem.W.codeIn K cd x = true) (k : PySem.W.keepIn K (.ref f) = true) : TextFn K x st :=
  ⟨f, oc, od, osl, kV, dc, pm, an, cd, ct, a, l, c, k⟩
structure FnAt (K : PySem.W.Frag) (mg : Str → Option Value) (x : Str) (st : Stmt) : Prop where
  ex : ∃ f fd, Fun K x x st f fd ∧ mg x = some (.ref f)
theorem TextFn.at_ {K : PySem.W.Frag} {mg : Str → Option Value} {h : Heap} {x : Str} {st : Stmt} (t : TextFn K x st) (X : K.In h) (G : h.Ns mainGlobals mg) : FnAt K mg x st := by
  obtain ⟨f, oc, od, osl, kV, dc, pm, an, cd, ct, a, l, c, k⟩ := t.ex
  exact ⟨f, _, fun_mk (st := st) l c k, PySem.W.mg_of X G a⟩
/-- how the arguments bind: one word a def -/
def BindsAt (x : Str) (st : Stmt) (ps : List Str) : Prop :=
  ∀ (kV doc pm : Value) (an : Option Addr) (cdv ct : Value) (us : List Value), us.length = ps.length → bindArgs (PySem.W.fnOf x x (defArgs st) (defBody st) (defScope st) .none kV doc pm an cdv ct) ⟨us, []⟩ = pure (ps.zip us)
section
variable {P : Program} {w : World} {K : PySem.W.Frag} {mg : Str → Option Value} {base : Heap} {x : Str} {st : Stmt} {N ps : List Str} {k : Nat}
theorem start_env {G : Hp} {vs : List V} {ds : List Dt} (N : List Str) (h : DpAll K G vs ds) : En K G (L2.start N vs) (ds.map (fun d => some (.d d)) ++ List.replicate (N.length - ds.length) none) := by
  have hl := dps_len h
  refine ⟨by unfold L2.start; simp [hl], fun i w hi => ?_⟩
  unfold L2.start
  by_cases h1 : i < ds.length
  · rw [List.getElem?_append_left (by simpa using h1), List.getElem?_map, List.getElem?_eq_getElem h1] at hi
    have e : w = .d ds[i] := by
      have := Option.some.inj hi
      exact (Option.some.inj this).symm
    subst e
    obtain ⟨v, e1, e2⟩ := dps_get h (List.getElem?_eq_getElem h1)
    exact ⟨v, by rw [List.getElem?_append_left (by simpa [hl] using h1), List.getElem?_map, e1]; rfl, e2⟩
  · rw [List.getElem?_append_right (by simpa using h1), List.getElem?_replicate] at hi
    split at hi <;> cases hi
/-- THE RULE for a def that draws nothing: every way out is told -/
theorem has_pure {F : List Dt → Dt → Prop} (A : FnAt K mg x st) (B : BindsAt x st ps) (S : FnScope N ps (defScope st)) (hlen : ∀ ds d, F ds d → ds.length = ps.length)
    (hb : ∀ (cdv : Value) (f : Addr) (A : Around) (outer : List Env) (s : Shared) (H : Hp) (E : XK), Room k (A.deeper (envOfC x (defScope st) s.heap.objs.size f cdv)) →
      ∃ t, PSs (cxOf CX0 P w K mg base N x (defScope st) f cdv A outer s H E).nox (defBody st) t ∧ ∀ ds d, F ds d → Sx K t (ds.map (fun d => some (.d d)) ++ List.replicate (N.length - ds.length) none) (.rt d) ∨
        (d = .none ∧ ∃ Δ, Sx K t (ds.map (fun d => some (.d d)) ++ List.replicate (N.length - ds.length) none) (.nx Δ))) : Has P w K mg base x (k + 1) ps (spD K F) := by
  obtain ⟨f, fd, hF, hm⟩ := A.ex
  refine ⟨f, fd, ?_, hm, hF.kp, hF.binds fun kV doc pm an cdv ct us hl => B kV doc pm an cdv ct us hl⟩
  refine hF.ok S (fun vs H Q E h => ?_) (fun cdv A outer s H vs Q E hr h => ?_)
  · obtain ⟨G, ds, d, _, dv, f, _⟩ := h
    rw [dps_len dv, hlen ds d f]
  · obtain ⟨G, ds, d, g, dv, fd, q⟩ := h
    obtain ⟨t, ht, hx⟩ := hb cdv f A outer s H E hr
    refine ⟨t, ht, ?_⟩
    rcases hx ds d fd with hx | ⟨rfl, Δ, hx⟩
    · exact hx _ _ G H (start_env N dv) g fun v G2 H2 s2 d2 => q v G2 H2 s2 d2
    · exact hx _ _ G H (start_env N dv) g fun σ G2 H2 s2 e2 => q .non G2 H2 s2 .non
/-- .. for one that hands back a new list -/
def spDL (K : PySem.W.Frag) (F : List Dt → List Dt → Prop) : Sp := fun vs H Q _ => ∃ G ds es, Gr G H ∧ DpAll K G vs ds ∧ F ds es ∧ ∀ p us G2 H2, Stp G H G2 H2 → G2 p = some (.lst us) → DpAll K G2 us es → Q (.ref p) H2
theorem has_list {F : List Dt → List Dt → Prop} (A : FnAt K mg x st) (B : BindsAt x st ps) (S : FnScope N ps (defScope st)) (hlen : ∀ ds d, F ds d → ds.length = ps.length)
    (hb : ∀ (cdv : Value) (f : Addr) (A : Around) (outer : List Env) (s : Shared) (H : Hp) (E : XK), Room k (A.deeper (envOfC x (defScope st) s.heap.objs.size f cdv)) →
      ∃ t, PSs (cxOf CX0 P w K mg base N x (defScope st) f cdv A outer s H E).nox (defBody st) t ∧ ∀ ds es, F ds es → Sx K t (ds.map (fun d => some (.d d)) ++ List.replicate (N.length - ds.length) none) (.rl es)) : Has P w K mg base x (k + 1) ps (spDL K F) := by
  obtain ⟨f, fd, hF, hm⟩ := A.ex
  refine ⟨f, fd, ?_, hm, hF.kp, hF.binds fun kV doc pm an cdv ct us hl => B kV doc pm an cdv ct us hl⟩
  refine hF.ok S (fun vs H Q E h => ?_) (fun cdv A outer s H vs Q E hr h => ?_)
  · obtain ⟨G, ds, d, _, dv, f, _⟩ := h
    rw [dps_len dv, hlen ds d f]
  · obtain ⟨G, ds, es, g, dv, fd, q⟩ := h
    obtain ⟨t, ht, hx⟩ := hb cdv f A outer s H E hr
    exact ⟨t, ht, hx ds es fd _ _ G H (start_env N dv) g fun p us G2 H2 s2 h2 d2 => q p us G2 H2 s2 h2 d2⟩
theorem en_call {K : PySem.W.Frag} {Δ : Sl} {t : TA} {ds es : List Dt} {F : List Dt → List Dt → Prop} {E : XK} (ha : EvA K t Δ ds) (hF : F ds es) : EvN K (tCall (spDL K F) [] E t) Δ es := fun σ G H Q e s q =>
  ha σ G H _ e s fun vs G1 H1 s1 dv => ⟨G1, ds, es, s1.s, by rw [List.append_nil]; exact dv, hF, fun p us G2 H2 s2 h2 d2 => q p us G2 H2 (s1.trans s2) h2 d2⟩
/-- a def that is never come to here -/
theorem has_none (A : FnAt K mg x st) (B : BindsAt x st ps) (k : Nat) : Has P w K mg base x k ps (spD K fun _ _ => False) := by
  obtain ⟨f, fd, hF, hm⟩ := A.ex
  exact ⟨f, fd, ⟨fun vs H Q E ⟨_, _, _, _, _, h, _⟩ => h.elim, fun _ _ _ _ _ _ _ _ _ _ _ _ _ ⟨_, _, _, _, _, h, _⟩ => h.elim⟩, hm, hF.kp, hF.binds fun kV doc pm an cdv ct us hl => B kV doc pm an cdv ct us hl⟩
/-- .. for one that draws: the row is its first parameter -/
theorem has_row {Pre : List Dt → Prop} {F : List Dt → Dt → Prop} (A : FnAt K mg x st) (B : BindsAt x st ps) (S : FnScope N ps (defScope st)) (hlen : ∀ ds, Pre ds → ds.length + 1 = ps.length)
    (hb : ∀ (cdv : Value) (f : Addr) (A : Around) (outer : List Env) (s : Shared) (H : Hp) (E : XK), Room k (A.deeper (envOfC x (defScope st) s.heap.objs.size f cdv)) →
      ∃ t, PSs (cxOf CX0 P w K mg base N x (defScope st) f cdv A outer s H E).nox (defBody st) t ∧ ∀ L ds, Pre ds → SR K L t (some (.r L) :: (ds.map (fun d => some (.d d)) ++ List.replicate (N.length - (ds.length + 1)) none)) (fun o => ∃ d, o = .rt d ∧ F ds d)) :
    Has P w K mg base x (k + 1) ps (spR K Pre F) := by
  obtain ⟨f, fd, hF, hm⟩ := A.ex
  refine ⟨f, fd, ?_, hm, hF.kp, hF.binds fun kV doc pm an cdv ct us hl => B kV doc pm an cdv ct us hl⟩
  refine hF.ok S (fun vs H Q E h => ?_) (fun cdv A outer s H vs Q E hr h => ?_)
  · obtain ⟨G, L, ws, ds, rfl, _, _, dv, pre, _⟩ := h
    rw [List.length_cons, dps_len dv, hlen ds pre]
  · obtain ⟨G, L, ws, ds, rfl, g, ro, dv, pre, q⟩ := h
    obtain ⟨t, ht, hx⟩ := hb cdv f A outer s H E hr
    refine ⟨t, ht, ?_⟩
    have e0 : En K G (L2.start N (.ref L :: ws)) (some (.r L) :: (ds.map (fun d => some (.d d)) ++ List.replicate (N.length - (ds.length + 1)) none)) := by
      have hl := dps_len dv
      refine ⟨by unfold L2.start; simp [hl], fun i w hi => ?_⟩
      cases i with
      | zero =>
        have e : w = .r L := by
          have := Option.some.inj hi
          exact (Option.some.inj this).symm
        subst e
        exact ⟨.ref L, rfl, rfl⟩
      | succ i =>
        have hi' : (ds.map (fun d => some (Wd.d d)) ++ List.replicate (N.length - (ds.length + 1)) none)[i]? = some (some w) := by simpa using hi
        show ∃ v, ((some (V.ref L) :: ws.map some) ++ List.replicate (N.length - (ws.length + 1)) none)[i + 1]? = some (some v) ∧ _
        rw [List.cons_append, List.getElem?_cons_succ]
        by_cases h1 : i < ds.length
        · rw [List.getElem?_append_left (by simpa using h1), List.getElem?_map, List.getElem?_eq_getElem h1] at hi'
          have e : w = .d ds[i] := by
            have := Option.some.inj hi'
            exact (Option.some.inj this).symm
          subst e
          obtain ⟨v, e1, e2⟩ := dps_get dv (List.getElem?_eq_getElem h1)
          exact ⟨v, by rw [List.getElem?_append_left (by simpa [hl] using h1), List.getElem?_map, e1]; rfl, e2⟩
        · rw [List.getElem?_append_right (by simpa using h1), List.getElem?_replicate] at hi'
          split at hi' <;> cases hi'
    exact hx L ds pre _ _ G H e0 g ro fun o ⟨d, ho, hf⟩ => by
      subst ho
      exact fun v G2 H2 s2 r2 d2 => q v d G2 H2 hf s2 r2 d2
end
section
variable {X : Cx} {x : Str} {k : Nat} {ps : List Str} {sp : Sp} {p pos : Pos} {e : Expr} {es : List Expr} {t : TA}
/-- a call of such a def -/
theorem ca (h : Has X.prog X.w X.K X.mg X.base x k ps sp) (hr : Room k X.A) (hg : Gl X x) (ha : PA X (e :: es) t) (hdb : (x == ("__debug__" : Str)) = false := by decide) (he : starEach (e :: es) X.env = (false, eval e X.env) :: starEach es X.env := by rfl)
    (hpl : (backTo pos (starEach es X.env)).any (·.1) = false := by rfl) : PE X (.Call (.Name x p) (e :: es) [] pos) (tCall sp [] E0 t) := by
  obtain ⟨f, fd, F, hm, hk, hb⟩ := h.ex
  exact pe_call F hr hg hm hk hb .nil pass0 ha hdb he hpl
end
/-! ### the law itself -/
def spLaw (K : PySem.W.Frag) : Sp := fun vs H Q _ => ∃ (a : Addr) (ns : List Int), vs = [.ref a] ∧ SqL K H a (ns.map V.int) ∧ ns.length ≤ 63 ∧ ∀ H', Q (.bl true) H'
theorem law_go {K : PySem.W.Frag} {u : TS} {a : Addr} {ns : List Int} {H : Hp} {n : Nat} {Q : VK} {nx : L2.St → Hp → Prop} (hs : SqL K H a (ns.map V.int)) (q : ∀ H', Q (.bl true) H')
    (h : ∀ L, SR K L u (none :: some (.r L) :: List.replicate n none) fun o => o = .rt (.bool true)) :
    tSeq (tAsg (tLst (tCons (tVar 0) (tCons (tC (.int 0)) (tCons (tC (.int 0)) (tCons (tC (.int 0)) tNil))))) (gName 1)) u { nx := nx, rt := Q } (some (.ref a) :: none :: List.replicate n none) H := by
  refine ⟨.ref a, rfl, by show 4 ≤ sizeLine; decide, fun L hL => ?_⟩
  have g : Gr H (upd H L (.lst [.ref a, .int 0, .int 0, .int 0])) := .new hL
  refine h L _ _ H _ ⟨by simp, fun i w hi => ?_⟩ g ⟨hL, a, ns, 0, 0, 0, upd_same, hs, Int.le_refl _⟩ fun o ho => ?_
  · match i with
    | 0 => cases hi
    | 1 => cases hi; exact ⟨.ref L, rfl, rfl⟩
    | i + 2 =>
      have hi' : (List.replicate n (none : Option Wd))[i]? = some (some w) := by simpa using hi
      rw [List.getElem?_replicate] at hi'
      split at hi' <;> cases hi'
  · subst ho
    exact fun v G2 H2 _ _ dv => by
      cases dv
      exact q H2
end Sb

/-! Seamboard, layer 5: shapes of data, sets as chosen numbers. -/
namespace Sb
open PySem PySem.Spec PyProof.Rows L2
theorem PIor {X : Cx} {tg l : Expr} {wi wj : TI} (h1 : PI X tg l wi) (h2 : PI X tg l wj) : PI X tg l (fun σ H R => wi σ H R ∨ wj σ H R) :=
  ⟨fun pins s σ H R I h => h.elim (fun h => h1.run pins s σ H R I h) (fun h => h2.run pins s σ H R I h)⟩
theorem pi_or {X : Cx} {tg l : Expr} {wi wj : TI} (h1 : PI X tg l wi) (h2 : PI X tg l wj) : PI X tg l (fun σ H R => wi σ H R ∨ wj σ H R) := PIor h1 h2
theorem ei_or1 {K : PySem.W.Frag} {Δ : Sl} {wi wj : TI} {ds : List Dt} (h : EvI K wi Δ ds) : EvI K (fun σ H R => wi σ H R ∨ wj σ H R) Δ ds := fun σ G H R e s q => .inl (h σ G H R e s q)
theorem ei_or2 {K : PySem.W.Frag} {Δ : Sl} {wi wj : TI} {ds : List Dt} (h : EvI K wj Δ ds) : EvI K (fun σ H R => wi σ H R ∨ wj σ H R) Δ ds := fun σ G H R e s q => .inr (h σ G H R e s q)

/-! ### the rules that name the written part, by K itself (a block of a comprehension has the same one) -/
section
variable {X : Cx} {K : PySem.W.Frag} {tg l e o : Expr} {es : List Expr} {tl te to : TE} {t : TA}
theorem pi_tupK (q : X.K = K) (h : PE X l tl) : PI X tg l (iTup K tl) := q ▸ pi_tup h
theorem pi_listK (q : X.K = K) (h : PE X l tl) : PI X tg l (iList K tl) := q ▸ pi_list h
theorem pi_enumTK {p pos tpos : Pos} {elts : List Expr} {kk : Nat} (q : X.K = K) (hg : Gl X "enumerate") (hm : X.mg "enumerate" = none) (ha : PA X [e] (tCons te tNil)) (hs : starEach [e] X.env = [(false, eval e X.env)] := by rfl) :
    PI X (.Tuple elts kk tpos) (.Call (.Name "enumerate" p) [e] [] pos) (iEnumT K te) := q ▸ pi_enumT hg hm ha hs
theorem pi_enumK {p pos tpos : Pos} {elts : List Expr} {kk : Nat} (q : X.K = K) (hg : Gl X "enumerate") (hm : X.mg "enumerate" = none) (ha : PA X [e] t) (hs : starEach [e] X.env = [(false, eval e X.env)] := by rfl) :
    PI X (.Tuple elts kk tpos) (.Call (.Name "enumerate" p) [e] [] pos) (iEnum K t) := q ▸ pi_enum hg hm ha hs
theorem op_eqK (q : X.K = K) (hu : X.A.units + 64 < cLine) : OpR X (compareOp .Eq) (rEqD K) := q ▸ op_eqD hu
theorem op_neK (q : X.K = K) (hu : X.A.units + 64 < cLine) : OpR X (compareOp .NotEq) (rNeD K) := q ▸ op_neD hu
theorem op_inK (q : X.K = K) : OpR X (compareOp .In) (rIn K false) := q ▸ op_in_seq
theorem op_niK (q : X.K = K) : OpR X (compareOp .NotIn) (rIn K true) := q ▸ op_notIn_seq
theorem op_catAK (q : X.K = K) : OpR X (binaryOp .Add) (rCatA K) := q ▸ op_catA
theorem ix_tupK (q : X.K = K) : IxR X (rIxT K) := q ▸ ix_tup
theorem ix_listK (q : X.K = K) : IxR X (rIxL K) := q ▸ ix_list
def rIxO (K : PySem.W.Frag) : R2 := fun x y H Q => rIxT K x y H Q ∨ rIxL K x y H Q
theorem ix_orK (q : X.K = K) : IxR X (rIxO K) := q ▸ ix_tup.or ix_list
theorem get_listK (q : X.K = K) : PGet X (rIxL K) := q ▸ get_list
def rLen (K : PySem.W.Frag) : List V → Hp → VK → Prop := fun xs H Q => ∃ p ys, xs = [.ref p] ∧ (SqL K H p ys ∨ SqT K H p ys) ∧ Q (.int ys.length) H
def rTupOf (K : PySem.W.Frag) : List V → Hp → VK → Prop := fun xs H Q => ∃ p ys, xs = [.ref p] ∧ ((SqL K H p ys ∧ ∀ l, H l = none → Q (.ref l) (upd H l (.tup ys))) ∨ (SqT K H p ys ∧ Q (.ref p) H))
def rListOf (K : PySem.W.Frag) : List V → Hp → VK → Prop := fun xs H Q => ∃ p ys, xs = [.ref p] ∧ (SqL K H p ys ∨ SqT K H p ys) ∧ ∀ l, H l = none → Q (.ref l) (upd H l (.lst ys))
theorem kc_len (q : X.K = K) : CallR X (.builtin "len") (rLen K) := q ▸ call_len_seq
theorem kc_tup (q : X.K = K) : CallR X (.type "tuple") (rTupOf K) := q ▸ call_tuple_of
theorem kc_list (q : X.K = K) : CallR X (.type "list") (rListOf K) := q ▸ call_list_of
theorem kc_isi (q : X.K = K) : CallR X (.builtin "isinstance") (rIsi K) := q ▸ call_isi
theorem kc_isiT (q : X.K = K) : CallR X (.builtin "isinstance") (rIsiT K) := q ▸ call_isiT
theorem kc_sorted (q : X.K = K) : CallR X (.builtin "sorted") (rSortedI K) := q ▸ cr_sortedI
theorem kc_sum (q : X.K = K) (hc : X.calm = true) : CallR X (.builtin "sum") (rSum K) := q ▸ cr_sum hc
theorem pe_countK {apos cpos : Pos} (q : X.K = K) (ho : PE X o to) (ha : PA X (e :: es) t) (hbase : attributeBase o "count" X.env (eval o X.env) = eval o X.env := by rfl)
    (hfew : ((backTo cpos (starEach (e :: es) X.env)).all (fun x => !x.1) && (backToKw cpos (keywordEach [] X.env)).all (fun x => x.1.isSome) && decide ((e :: es).length + ([] : List Keyword).length + (if ([] : List Keyword).isEmpty then 0 else 1) < 30)) = true := by rfl)
    (hline : (apos.endLine == cpos.line) = true := by rfl) (hs : starEach (e :: es) X.env = (false, eval e X.env) :: starEach es X.env := by rfl) (hplain : (backTo cpos (starEach es X.env)).any (·.1) = false := by rfl) :
    PE X (.Call (.Attribute o "count" apos) (e :: es) [] cpos) (tBM K "list" (rCntI K) to t) := q ▸ pe_bm PySem.F.plainAttrs_list PySem.F.slot_list_count PySem.F.type_list_count mt_lcount ho ha hbase hfew hline hs hplain
theorem pa_starK {p : Pos} (q : X.K = K) (he : PE X e te) (hr : PA X es t) (hs : starEach (.Starred e p :: es) X.env = (true, eval e X.env) :: starEach es X.env := by rfl) : PA X (.Starred e p :: es) (StX.tStar K te t) := q ▸ StX.pa_star he hr hs
end
section
variable {K : PySem.W.Frag} {Δ : Sl} {t u : TS} {te : TE} {o : Out} {d : Dt} {ds : List Dt}
theorem sx_let {i : Nat} (h : Ev K te Δ d) (k : Sx K u (Δ.set i (some (.d d))) o) : Sx K (tSeq (tAsg te (gName i)) u) Δ o := sx_seq (sx_asg h) k
theorem sx_letL {i : Nat} (h : EvN K te Δ ds) (k : Sx K u (Δ.set i (some (.l ds))) o) : Sx K (tSeq (tAsg te (gName i)) u) Δ o := sx_seq (sx_asgL h) k
theorem sx_do (h : Ev K te Δ d) (k : Sx K u Δ o) : Sx K (tSeq (tDrop te) u) Δ o := sx_seq (sx_drop h) k
theorem sx_un {g : TG} {js : List Nat} {Δ1 : Sl} (h : Ev K te Δ d) (hg : EvG K g Δ d Δ1 js) (k : Sx K u Δ1 o) : Sx K (tSeq (tAsg te g) u) Δ o := sx_seq (sx_unp h hg) k
theorem sx_par3 {i j l : Nat} {ta : TA} {d1 d2 d3 : Dt} (h : EvA K ta Δ [d1, d2, d3]) : Sx K (tPar3 i j l ta) Δ (.nx (((Δ.set i (some (.d d1))).set j (some (.d d2))).set l (some (.d d3)))) := fun D σ G H e s p =>
  h σ G H _ e s fun vs G1 H1 s1 dv => by
    cases dv with
    | cons a b =>
      cases b with
      | cons c b =>
        cases b with
        | cons x b =>
          cases b
          exact ⟨_, _, _, rfl, p _ _ _ s1 (En.set (En.set (En.set (e.up s1.g) i (w := .d d1) a) j (w := .d d2) c) l (w := .d d3) x)⟩
theorem eg_triple {i j l : Nat} {d1 d2 d3 : Dt} : EvG K (gTup K 3 (gCons (gName i) (gCons (gName j) (gCons (gName l) gNil)))) Δ (.tuple [d1, d2, d3]) (((Δ.set i (some (.d d1))).set j (some (.d d2))).set l (some (.d d3))) [i, j, l] := fun v σ G H Q e s dv q => by
  cases dv with
  | tup h1 h2 =>
    cases h2 with
    | cons a b =>
      cases b with
      | cons c b =>
        cases b with
        | cons x b =>
          cases b
          exact ⟨_, _, rfl, gr_t s h1, rfl, _, _, rfl, _, _, rfl, _, _, rfl, rfl, q _ (((e.set (w := .d d1) i a).set (w := .d d2) j c).set (w := .d d3) l x) fun vs hv => by
            rw [wipe_set _ l _ vs (hv l (by simp)), wipe_set _ j _ vs (hv j (by simp)), wipe_set _ i _ vs (hv i (by simp))]⟩
/-- if c: .. , not taken, then the rest; taken, and it leaves -/
theorem sx_skip {tt : TT} (h : EvT K tt Δ false) (k : Sx K u Δ o) : Sx K (tSeq (tIfS tt t tNext) u) Δ o := sx_seq (sx_if h (fun e => nomatch e) fun _ => sx_nil) k
theorem sx_take {tt : TT} (h : EvT K tt Δ true) (k : Sx K t Δ (.rt d)) : Sx K (tSeq (tIfS tt t tNext) u) Δ (.rt d) := sx_seqR (sx_if h (fun _ => k) fun e => nomatch e)
theorem sx_pass1 {tt : TT} (h : EvT K tt Δ false) : Sx K (tIfS tt t tNext) Δ (.nx Δ) := sx_if h (fun e => nomatch e) fun _ => sx_nil
end
theorem cmul {i j : Int} (h : -1000000000000 ≤ i ∧ i ≤ 1000000000000) : CMul i j := by
  have e : (2 : Int) ^ 64 = 18446744073709551616 := by decide
  refine .inl ⟨?_, ?_⟩ <;> rw [e] <;> omega
theorem cmul' {i j : Int} (h : -1000000000000 ≤ j ∧ j ≤ 1000000000000) : CMul i j := by
  have e : (2 : Int) ^ 64 = 18446744073709551616 := by decide
  refine .inr ⟨?_, ?_⟩ <;> rw [e] <;> omega
theorem cdiv {i j : Int} (h : 0 < j ∧ j < 1073741824) : CDiv i j := h
theorem Sx.go {K : PySem.W.Frag} {ts : TS} {Δ : Sl} {o : Out} {D : Ends} {σ : L2.St} {G H : Hp} (h : Sx K ts Δ o) (e : En K G σ Δ) (s : Gr G H) (p : Post K D G H o) : ts D σ H := h D σ G H e s p
/-- x = xs * k: a new list that will change -/
theorem sx_hidRep {K : PySem.W.Frag} {Δ : Sl} {ta tb : TE} {u : TS} {xs : List Dt} {k : Int} {i : Nat} {D : Ends} {σ : L2.St} {G H : Hp} (ha : EvN K ta Δ xs) (hb : Ev K tb Δ (.int k)) (h0 : 0 ≤ k) (hk : k ≤ 1000) (hl : xs.length ≤ 100) (e : En K G σ Δ) (s : Gr G H)
    (q : ∀ c vs G1 H1, Stp G H G1 H1 → H1 c = none → DpAll K G1 vs xs → u D (σ.set i (some (.ref c))) (upd H1 c (.lst (List.replicate k.toNat vs).flatten))) : tSeq (tAsg (tOp rRep ta tb) (gName i)) u D σ H := by
  show tOp rRep ta tb σ H _
  show ta σ H _
  refine ha σ G H _ e s fun a vs G1 H1 s1 h1 d1 => hb σ G1 H1 _ (e.up s1.g) s1.s fun u2 G2 H2 s2 du => ?_
  cases du
  refine ⟨a, k, vs, rfl, rfl, s2.s _ _ (s2.g _ _ h1), by omega, by omega, ?_, fun c hc => q c vs G2 H2 (s1.trans s2) hc (Dpsu d1 s2.g)⟩
  rw [dps_len d1]
  have h3 : k.toNat ≤ 1000 := by omega
  exact Evl.sz_of (Nat.le_trans (Nat.mul_le_mul hl h3) (by decide))
theorem for_go {K : PySem.W.Frag} {Δ : Sl} {wi : TI} {g : TG} {tb u : TS} {ds : List Dt} {D : Ends} {σ : L2.St} {G H : Hp} (hi : EvI K wi Δ ds) (e : En K G σ Δ) (s : Gr G H)
    (k : ∀ J G1 H1, Stp G H G1 H1 → WalkD K J G1 ds → ∃ W : Nat → Nat → L2.St → Hp → Prop, (∃ m, W 0 m σ H1) ∧ ∀ i m σ' H', W i m σ' H' → (J.stop i H' ∧ u D σ' H') ∨
      (J.go i H' ∧ ∃ N : L2.St → Hp → Prop, (∀ σ'' H'', N σ'' H'' → ∃ m', m' < m ∧ W (i + 1) m' σ'' H'') ∧ ∀ x H'', J.yld i H' x H'' → g x σ' H'' fun σ2 H2 => tb { D with nx := N, ct := N, bk := u D } σ2 H2)) : tSeq (tFor wi g tb) u D σ H :=
  hi σ G H _ e s fun J G1 H1 s1 w => k J G1 H1 s1 w
/-- x = [..]: a new list that will change -/
theorem sx_hidLst {K : PySem.W.Frag} {Δ : Sl} {ta : TA} {u : TS} {xs : List Dt} {i : Nat} {D : Ends} {σ : L2.St} {G H : Hp} (ha : EvA K ta Δ xs) (hl : xs.length ≤ 100000) (e : En K G σ Δ) (s : Gr G H)
    (q : ∀ c vs G1 H1, Stp G H G1 H1 → H1 c = none → DpAll K G1 vs xs → u D (σ.set i (some (.ref c))) (upd H1 c (.lst vs))) : tSeq (tAsg (tLst ta) (gName i)) u D σ H := by
  show tLst ta σ H (fun x H1 => gName i x σ H1 (u D))
  exact ha σ G H _ e s fun vs G1 H1 s1 dv => ⟨by rw [dps_len dv]; exact Evl.sz_of hl, fun c hc => q c vs G1 H1 s1 hc dv⟩
/-- a tuple of ints; a board -/
abbrev ti (ns : List Int) : Dt := .tuple (ns.map .int)
abbrev li (ns : List Int) : Dt := .list (ns.map .int)
abbrev bd (r c : Int) : Dt := .tuple [.int r, .int c]
/-- the numbers below n that f takes -/
def sel (n : Nat) (f : Nat → Bool) : List Int := ((List.range n).filter f).map fun (k : Nat) => (k : Int)
theorem sel_len (n : Nat) (f : Nat → Bool) : (sel n f).length ≤ n := by
  unfold sel
  rw [List.length_map]
  exact Nat.le_trans (List.length_filter_le _ _) (by rw [List.length_range]; exact Nat.le_refl _)
theorem mem_sel {n : Nat} {f : Nat → Bool} {x : Int} : x ∈ sel n f ↔ ∃ k : Nat, x = k ∧ k < n ∧ f k = true := by
  unfold sel
  rw [List.mem_map]
  constructor
  · rintro ⟨k, hk, rfl⟩
    rw [List.mem_filter, List.mem_range] at hk
    exact ⟨k, rfl, hk.1, hk.2⟩
  · rintro ⟨k, rfl, h1, h2⟩
    exact ⟨k, by rw [List.mem_filter, List.mem_range]; exact ⟨h1, h2⟩, rfl⟩
theorem mem_sel_nat {n : Nat} {f : Nat → Bool} {k : Nat} : (k : Int) ∈ sel n f ↔ k < n ∧ f k = true := by
  rw [mem_sel]
  constructor
  · rintro ⟨j, e, h1, h2⟩
    have : k = j := by omega
    subst this
    exact ⟨h1, h2⟩
  · rintro ⟨h1, h2⟩
    exact ⟨k, rfl, h1, h2⟩
theorem sel_congr {n : Nat} {f g : Nat → Bool} (h : ∀ k, k < n → f k = g k) : sel n f = sel n g := by
  unfold sel
  congr 1
  apply List.filter_congr
  intro k hk
  rw [List.mem_range] at hk
  rw [h k hk]
theorem sel_inj {n : Nat} {f g : Nat → Bool} (h : sel n f = sel n g) : ∀ k, k < n → f k = g k := fun k hk => by
  have h1 : (k : Int) ∈ sel n f ↔ (k : Int) ∈ sel n g := by rw [h]
  rw [mem_sel_nat, mem_sel_nat] at h1
  cases e1 : f k <;> cases e2 : g k <;> simp_all
theorem sel_rise (n : Nat) (f : Nat → Bool) : (sel n f).Pairwise (· < ·) := by
  unfold sel
  refine List.Pairwise.map _ (fun a b (h : a < b) => ?_) (List.Pairwise.filter _ List.pairwise_lt_range)
  omega
theorem sel_nodup (n : Nat) (f : Nat → Bool) : (sel n f).Nodup := (sel_rise n f).imp fun h => Int.ne_of_lt h
theorem hasI_sel {n : Nat} {f : Nat → Bool} {k : Nat} (h : k < n) : hasI (k : Int) (sel n f) = f k := by
  unfold hasI
  cases e : f k with
  | true => exact List.elem_eq_true_of_mem (mem_sel_nat.mpr ⟨h, e⟩)
  | false =>
    cases e2 : (sel n f).contains (k : Int) with
    | false => rfl
    | true =>
      have := mem_sel_nat.mp (List.mem_of_elem_eq_true e2)
      rw [e] at this
      exact absurd this.2 (by decide)
/-- a rising list is what its members choose -/
theorem rise_eq : ∀ {l m : List Int}, l.Pairwise (· < ·) → m.Pairwise (· < ·) → (∀ x, x ∈ l ↔ x ∈ m) → l = m := fun {l m} h1 h2 h => by
  have n1 : l.Nodup := h1.imp fun h => Int.ne_of_lt h
  have n2 : m.Nodup := h2.imp fun h => Int.ne_of_lt h
  exact pw_uniq ((List.perm_ext_iff_of_nodup n1 n2).mpr h) (h1.imp fun h => Int.le_of_lt h) (h2.imp fun h => Int.le_of_lt h)
theorem sel_of {n : Nat} {l : List Int} (h : l.Pairwise (· < ·)) (hb : ∀ x ∈ l, 0 ≤ x ∧ x < n) : l = sel n fun k => hasI (k : Int) l := rise_eq h (sel_rise _ _) fun x => by
  rw [mem_sel]
  constructor
  · intro hx
    obtain ⟨h0, h1⟩ := hb x hx
    refine ⟨x.toNat, by omega, by omega, ?_⟩
    have e : ((x.toNat : Nat) : Int) = x := by omega
    rw [e]
    exact List.elem_eq_true_of_mem hx
  · rintro ⟨k, rfl, _, hk⟩
    exact List.mem_of_elem_eq_true hk
/-! ### equal data -/
theorem can_ints : ∀ ns : List Int, PyData.canLayAll0 (ns.map PyData.int) = true
  | [] => rfl
  | n :: ns => by
    rw [List.map_cons]
    show (PyData.canLay0 (.int n) && PyData.canLayAll0 (ns.map PyData.int)) = true
    rw [can_ints ns]; rfl
theorem depth_ints : ∀ ns : List Int, PyData.depthAll (ns.map PyData.int) = 0
  | [] => rfl
  | n :: ns => by
    rw [List.map_cons]
    show max 0 (PyData.depthAll (ns.map PyData.int)) = 0
    rw [depth_ints ns]; rfl
theorem shaped_ti (ns : List Int) : SeqAt.shaped (ti ns) = true := by
  show (PyData.canLayAll0 (ns.map PyData.int) && decide (PyData.depthAll (ns.map PyData.int) + 1 ≤ 64)) = true
  rw [can_ints, depth_ints]; rfl
theorem shaped_int (i : Int) : SeqAt.shaped (.int i) = true := rfl
theorem shaped_none : SeqAt.shaped .none = true := rfl
theorem shaped_bool (b : Bool) : SeqAt.shaped (.bool b) = true := rfl
theorem shaped_bd (i j : Int) : SeqAt.shaped (bd i j) = true := rfl
theorem eqv_ints : ∀ (a b : List Int), PyData.eqvAll (a.map .int) (b.map .int) = decide (a = b)
  | [], [] => rfl
  | [], _ :: _ => rfl
  | _ :: _, [] => rfl
  | x :: a, y :: b => by
    rw [List.map_cons, List.map_cons]
    show (x == y && PyData.eqvAll (a.map .int) (b.map .int)) = _
    rw [eqv_ints a b]
    by_cases h1 : x = y
    · subst h1
      by_cases h2 : a = b
      · subst h2; simp
      · simp [h2]
    · simp [h1]
theorem eqv_ti (a b : List Int) : PyData.eqv (ti a) (ti b) = decide (a = b) := eqv_ints a b
theorem eqv_int (a b : Int) : PyData.eqv (.int a) (.int b) = decide (a = b) := by
  show (a == b) = decide (a = b)
  exact Bool.beq_eq_decide_eq a b
theorem eqv_bd (a b c d : Int) : PyData.eqv (bd a b) (bd c d) = (decide (a = c) && decide (b = d)) := by
  show (a == c && (b == d && true)) = _
  rw [Bool.and_true, Bool.beq_eq_decide_eq, Bool.beq_eq_decide_eq]
theorem eqv_bool (a b : Bool) : PyData.eqv (.bool a) (.bool b) = (a == b) := rfl
/-! ### draws within calls that draw nothing; tests that draw -/
section
variable {K : PySem.W.Frag} {L : Addr} {Δ Δ1 : Sl} {ta te : TE} {t : TA} {tt tu : TT} {u v : TS} {P : Out → Prop}
theorem er_callD {PL : List Dt → Prop} {PA : Dt → Prop} {F : List Dt → Dt → Prop} {E : XK} (ha : ERA K L t Δ PL) (p : ∀ ds, PL ds → ∃ d, F ds d ∧ PA d) : ER K L (tCall (spD K F) [] E t) Δ PA := fun σ G H Q e s ro q =>
  ha σ G H _ e s ro fun vs ds G1 H1 s1 r1 pd dv => by
    obtain ⟨d, hF, pa⟩ := p ds pd
    exact ⟨G1, ds, d, s1.s, by rw [List.append_nil]; exact dv, hF, fun v G2 H2 s2 d2 => q v d G2 H2 (s1.trans s2.row r1.there) (r1.step s2) pa d2⟩
theorem ert_not {p q : Bool → Prop} (h : ERT K L tt Δ p) (hq : ∀ b, p b → q (!b)) : ERT K L (tNot tt) Δ q := fun σ G H Q e s ro k => h σ G H _ e s ro fun b G1 H1 s1 r1 pb => k _ G1 H1 s1 r1 (hq b pb)
theorem sr_skipR {t : TS} (h : ERT K L tt Δ (fun b => b = false)) (k : SR K L u Δ P) : SR K L (tSeq (tIfS tt t tNext) u) Δ P := fun D σ G H e s ro q =>
  h σ G H _ e s ro fun b G1 H1 s1 r1 pb => by
    subst pb
    exact iteF (k D σ G1 H1 (e.up s1.g) s1.s r1 fun o po => (q o po).step s1 r1)
theorem sr_pass1R {t : TS} (h : ERT K L tt Δ (fun b => b = false)) (k : P (.nx Δ)) : SR K L (tIfS tt t tNext) Δ P := fun D σ G H e s ro q =>
  h σ G H _ e s ro fun b G1 H1 s1 r1 pb => by
    subst pb
    exact iteF (q _ k σ G1 H1 s1 r1 (e.up s1.g))
/-- a target of several names, of a tuple that is drawn -/
theorem sr_unp {g : TG} {PA : Dt → Prop} (h : ER K L te Δ PA) (k : ∀ d, PA d → ∃ Δ1 js, EvG K g Δ d Δ1 js ∧ SR K L u Δ1 P) : SR K L (tSeq (tAsg te g) u) Δ P := fun D σ G H e s ro q =>
  h σ G H _ e s ro fun v d G1 H1 s1 r1 pd dv => by
    obtain ⟨Δ1, js, hg, hu⟩ := k d pd
    exact hg v σ G1 H1 _ (e.up s1.g) s1.s dv fun σ' e' _ => hu D σ' G1 H1 e' s1.s r1 fun o po => (q o po).step s1 r1
/-- tuple(range(n)) -/
theorem ev_tupRg {n : Nat} (h : Ev K te Δ (.int (n : Int))) (hn : n ≤ 100000) : Ev K (tTupRg (tRg1 te)) Δ (ti (sel n fun _ => true)) := fun σ G H Q e s q => h σ G H _ e s fun v G1 H1 s1 dv => by
  cases dv
  refine ⟨(n : Int), rfl, .of_le (by omega) (by omega) (by omega) (by omega), fun p hp => ?_⟩
  have e1 : rgV 0 (n : Int) = (sel n fun _ => true).map V.int := by
    unfold rgV sel
    rw [List.filter_eq_self.mpr fun _ _ => rfl, List.map_map, show ((n : Int) - 0).toNat = n by omega]
    apply List.map_congr_left
    intro i _
    show V.int (0 + (i : Int)) = V.int (i : Int)
    rw [Int.zero_add]
  rw [e1]
  have nn := new_t (ds := (sel n fun _ => true).map PyData.int) s1.s hp (dps_ints (K := K) _)
  exact q _ _ _ (s1.trans nn.1) nn.2
end
section
variable {K : PySem.W.Frag} {Δ : Sl} {te : TE} {x z : Dt} {xs : List Dt} {t u : TS}
theorem rv_ixOT {i : Int} (e : atI xs i = some z) : RV K (rIxO K) (.tuple xs) (.int i) z := fun G H v u Q s a b q => .inl (rv_ixT e G H v u Q s a b q)
theorem rv_ixOL {i : Int} (e : atI xs i = some z) : RV K (rIxO K) (.list xs) (.int i) z := fun G H v u Q s a b q => .inr (rv_ixL e G H v u Q s a b q)
def kTL : Dt → Bool
  | .tuple _ => true
  | .list _ => true
  | _ => false
theorem kit_TL (K : PySem.W.Frag) : ∀ x : Dt, PySem.W.kitAny K (.type (tyN x)) [.type "tuple", .type "list"] = some (kTL x)
  | .none => kitAny_cons (kit_ty (by decide +kernel : kitB "NoneType" "tuple" = some false)) (fun _ => kitAny_cons (kit_ty (by decide +kernel : kitB "NoneType" "list" = some false)) (fun _ => rfl) fun h => nomatch h) fun h => nomatch h
  | .bool _ => kitAny_cons (kit_ty (by decide +kernel : kitB "bool" "tuple" = some false)) (fun _ => kitAny_cons (kit_ty (by decide +kernel : kitB "bool" "list" = some false)) (fun _ => rfl) fun h => nomatch h) fun h => nomatch h
  | .int _ => kitAny_cons (kit_ty (by decide +kernel : kitB "int" "tuple" = some false)) (fun _ => kitAny_cons (kit_ty (by decide +kernel : kitB "int" "list" = some false)) (fun _ => rfl) fun h => nomatch h) fun h => nomatch h
  | .str _ => kitAny_cons (kit_ty (by decide +kernel : kitB "str" "tuple" = some false)) (fun _ => kitAny_cons (kit_ty (by decide +kernel : kitB "str" "list" = some false)) (fun _ => rfl) fun h => nomatch h) fun h => nomatch h
  | .list _ => kitAny_cons (kit_ty (by decide +kernel : kitB "list" "tuple" = some false)) (fun _ => kitAny_cons (kit_ty (by decide +kernel : kitB "list" "list" = some true)) (fun h => nomatch h) fun _ => rfl) fun h => nomatch h
  | .tuple _ => kitAny_cons (kit_ty (by decide +kernel : kitB "tuple" "tuple" = some true)) (fun h => nomatch h) fun _ => rfl
  | .dict _ => kitAny_cons (kit_ty (by decide +kernel : kitB "dict" "tuple" = some false)) (fun _ => kitAny_cons (kit_ty (by decide +kernel : kitB "dict" "list" = some false)) (fun _ => rfl) fun h => nomatch h) fun h => nomatch h
/-- isinstance(x, (tuple, list)) -/
theorem ev_isiTL (h : Ev K te Δ x) : Ev K (tCB (rIsiT K) (tCons te (tCons (tTup (tCons (tC (.ty "tuple")) (tCons (tC (.ty "list")) tNil))) tNil))) Δ (.bool (kTL x)) := fun σ G H Q e s q => h σ G H _ e s fun v G1 H1 s1 dv =>
  ⟨by show 2 ≤ sizeLine; decide, fun p hp => ⟨v, p, [.ty "tuple", .ty "list"], _, [.type "tuple", .type "list"], kTL x, rfl, upd_same, .cons (.ty _) (.cons (.ty _) .nil), tyx_of (s1.s.trans (.new hp)) dv, kit_TL K x, q _ _ _ (s1.trans (.hid s1.s hp)) (.bl _)⟩⟩
end
end Sb

namespace Sb
open PySem PySem.Spec PyProof.Rows L2
def topS (i : Nat) : Stmt := PySem.Challenge.pw_seamboard_k04_led_by_faces.main.body.getD i (.Pass ⟨0, 0, 0, 0⟩)
end Sb

namespace Sb
open PySem PySem.Spec PyProof.Rows L2
section
variable {P : Program} {w : World} {K : PySem.W.Frag} {mg : Str → Option Value} {base : Heap}

/-! ### numbers -/
def isI : Dt → Bool
  | .int _ => true
  | _ => false
def kI : Dt → Bool
  | .int _ => true
  | .bool _ => true
  | _ => false
def kB : Dt → Bool
  | .bool _ => true
  | _ => false
def kT : Dt → Bool
  | .tuple _ => true
  | _ => false
theorem kit_I : ∀ x : Dt, kitB (tyN x) "int" = some (kI x)
  | .none => (by decide +kernel : kitB "NoneType" "int" = some false)
  | .bool _ => (by decide +kernel : kitB "bool" "int" = some true)
  | .int _ => (by decide +kernel : kitB "int" "int" = some true)
  | .str _ => (by decide +kernel : kitB "str" "int" = some false)
  | .list _ => (by decide +kernel : kitB "list" "int" = some false)
  | .tuple _ => (by decide +kernel : kitB "tuple" "int" = some false)
  | .dict _ => (by decide +kernel : kitB "dict" "int" = some false)
theorem kit_B : ∀ x : Dt, kitB (tyN x) "bool" = some (kB x)
  | .none => (by decide +kernel : kitB "NoneType" "bool" = some false)
  | .bool _ => (by decide +kernel : kitB "bool" "bool" = some true)
  | .int _ => (by decide +kernel : kitB "int" "bool" = some false)
  | .str _ => (by decide +kernel : kitB "str" "bool" = some false)
  | .list _ => (by decide +kernel : kitB "list" "bool" = some false)
  | .tuple _ => (by decide +kernel : kitB "tuple" "bool" = some false)
  | .dict _ => (by decide +kernel : kitB "dict" "bool" = some false)
theorem kit_T : ∀ x : Dt, kitB (tyN x) "tuple" = some (kT x)
  | .none => (by decide +kernel : kitB "NoneType" "tuple" = some false)
  | .bool _ => (by decide +kernel : kitB "bool" "tuple" = some false)
  | .int _ => (by decide +kernel : kitB "int" "tuple" = some false)
  | .str _ => (by decide +kernel : kitB "str" "tuple" = some false)
  | .list _ => (by decide +kernel : kitB "list" "tuple" = some false)
  | .tuple _ => (by decide +kernel : kitB "tuple" "tuple" = some true)
  | .dict _ => (by decide +kernel : kitB "dict" "tuple" = some false)
abbrev s_is_whole : Stmt := topS 8
abbrev N_is_whole : List Str := ["thing"]
theorem sc_is_whole : FnScope N_is_whole ["thing"] (defScope s_is_whole) := ⟨rfl, rfl, rfl, by decide +kernel, rfl, by decide +kernel, by decide +kernel⟩
theorem bi_is_whole : BindsAt "is_whole" s_is_whole ["thing"] := fun _ _ _ _ _ _ us hl => match us, hl with | [_], _ => rfl

def F_is_whole (ds : List Dt) (d : Dt) : Prop := ∃ x, ds = [x] ∧ d = .bool (isI x)
theorem ok_is_whole (A : FnAt K mg "is_whole" s_is_whole) (b_isinstance : mg "isinstance" = none) (b_int : mg "int" = none) (b_bool : mg "bool" = none) : Has P w K mg base "is_whole" 1 ["thing"] (spD K F_is_whole) := by
  have nd := sc_is_whole.nd
  refine has_pure A bi_is_whole sc_is_whole (fun ds d ⟨_, h, _⟩ => by rw [h]; rfl) fun cdv f A outer s H E hr => ⟨_, (pss_one (ps_ret (pe_and (pe_callB (kc_isi (K := K) (by rfl)) (by rfl) b_isinstance (by decide +kernel) (pa_cons (pv 0) (pa_cons (pe_bltn (v := .ty "int") (by rfl) b_int (by decide +kernel) rfl) pa_nil))) (pe_one (pe_not (pe_callB (kc_isi (K := K) (by rfl)) (by rfl) b_isinstance (by decide +kernel) (pa_cons (pv 0) (pa_cons (pe_bltn (v := .ty "bool") (by rfl) b_bool (by decide +kernel) rfl) pa_nil)))))))), fun ds d hF => .inl ?_⟩
  obtain ⟨x, rfl, rfl⟩ := hF
  refine sx_ret (ev_is (ev_andV (ev_isi (ev_var rfl) (kit_I x)) fun _ => ev_notV (ev_isi (ev_var rfl) (kit_B x))) ?_)
  cases x <;> rfl
abbrev s_is_side : Stmt := topS 9
abbrev N_is_side : List Str := ["thing"]
theorem sc_is_side : FnScope N_is_side ["thing"] (defScope s_is_side) := ⟨rfl, rfl, rfl, by decide +kernel, rfl, by decide +kernel, by decide +kernel⟩
theorem bi_is_side : BindsAt "is_side" s_is_side ["thing"] := fun _ _ _ _ _ _ us hl => match us, hl with | [_], _ => rfl

def sideB : Dt → Bool
  | .int i => decide (2 ≤ i) && decide (i ≤ 5)
  | _ => false
def F_is_side (ds : List Dt) (d : Dt) : Prop := ∃ x, ds = [x] ∧ d = .bool (sideB x)
theorem ok_is_side {t1 t2 : Tok} (A : FnAt K mg "is_side" s_is_side) (m_LEAST_SIDE : mg "LEAST_SIDE" = some (.int 2 t1)) (m_MOST_SIDE : mg "MOST_SIDE" = some (.int 5 t2)) (h_is_whole : Has P w K mg base "is_whole" 1 ["thing"] (spD K F_is_whole)) : Has P w K mg base "is_side" 2 ["thing"] (spD K F_is_side) := by
  have nd := sc_is_side.nd
  refine has_pure A bi_is_side sc_is_side (fun ds d ⟨_, h, _⟩ => by rw [h]; rfl) fun cdv f A outer s H E hr => ⟨_, (pss_one (ps_ret (pe_and (ca h_is_whole hr (by rfl) (pa_cons (pv 0) pa_nil)) (pe_one (pe_chain op_le op_le (pe_glob (v := .int 2) (by rfl) m_LEAST_SIDE ⟨_, rfl⟩) (pv 0) (pe_glob (v := .int 5) (by rfl) m_MOST_SIDE ⟨_, rfl⟩)))))), fun ds d hF => .inl ?_⟩
  obtain ⟨x, rfl, rfl⟩ := hF
  cases hx : isI x with
  | true =>
    obtain ⟨i, rfl⟩ : ∃ i, x = .int i := by cases x <;> first | exact ⟨_, rfl⟩ | cases hx
    exact sx_ret (ev_is (ev_andV (ev_call (F := F_is_whole) (ea_cons (ev_var rfl) ea_nil) ⟨_, rfl, rfl⟩) fun _ => ev_chain ev_int (ev_var rfl) rv_B0 (fun _ => ev_int) fun _ => rv_B0) rfl)
  | false =>
    refine sx_ret (ev_is (ev_andV (b := false) (ev_call (F := F_is_whole) (ea_cons (ev_var rfl) ea_nil) ⟨_, rfl, rfl⟩) fun h => absurd (hx.symm.trans h) (by decide)) ?_)
    rw [hx]
    cases x <;> first | rfl | cases hx
abbrev s_require_board : Stmt := topS 10
abbrev N_require_board : List Str := ["board"]
theorem sc_require_board : FnScope N_require_board ["board"] (defScope s_require_board) := ⟨rfl, rfl, rfl, by decide +kernel, rfl, by decide +kernel, by decide +kernel⟩
theorem bi_require_board : BindsAt "require_board" s_require_board ["board"] := fun _ _ _ _ _ _ us hl => match us, hl with | [_], _ => rfl

def F_require_board (ds : List Dt) (d : Dt) : Prop := ∃ r c : Int, ds = [bd r c] ∧ 2 ≤ r ∧ r ≤ 5 ∧ 2 ≤ c ∧ c ≤ 5 ∧ d = .none
theorem ok_require_board (A : FnAt K mg "require_board" s_require_board) (b_isinstance : mg "isinstance" = none) (b_tuple : mg "tuple" = none) (b_len : mg "len" = none) (h_is_side : Has P w K mg base "is_side" 2 ["thing"] (spD K F_is_side)) : Has P w K mg base "require_board" 3 ["board"] (spD K F_require_board) := by
  have nd := sc_require_board.nd
  refine has_pure A bi_require_board sc_require_board (fun ds d ⟨_, _, h, _⟩ => by rw [h]; rfl) fun cdv f A outer s H E hr => ⟨_, (pss_cons (ps_if (PW.pt (pw_or (pt_not (pt_val (pe_callB (kc_isi (K := K) (by rfl)) (by rfl) b_isinstance (by decide +kernel) (pa_cons (pv 0) (pa_cons (pe_bltn (v := .ty "tuple") (by rfl) b_tuple (by decide +kernel) rfl) pa_nil))))) (pw_or1 (pt_cmpR (op_neK (K := K) (by rfl) (by exact hr.units)) (pe_callB (kc_len (K := K) (by rfl)) (by rfl) b_len (by decide +kernel) (pa_cons (pv 0) pa_nil)) pe_int (nomark _))))) (pss_one ps_never) pss_nil)
    (pss_one (ps_if (PW.pt (pw_or (pt_not (pt_val (ca h_is_side hr (by rfl) (pa_cons (pe_ix (ix_tupK (K := K) (by rfl)) (pv 0) pe_int (fun _ _ => rfl)) pa_nil)))) (pw_or1 (pt_not (pt_val (ca h_is_side hr (by rfl) (pa_cons (pe_ix (ix_tupK (K := K) (by rfl)) (pv 0) pe_int (fun _ _ => rfl)) pa_nil))))))) (pss_one ps_never) pss_nil))), fun ds d hF => .inr ?_⟩
  obtain ⟨r, c, rfl, h1, h2, h3, h4, rfl⟩ := hF
  refine ⟨rfl, _, sx_seq (sx_pass1 (et_is (et_or (et_not (et_B (ev_isi (ev_var rfl) (kit_T _)))) fun _ => et_test (ev_op (ev_cb (ea_cons (ev_var rfl) ea_nil) rc_lenT) ev_int (rv_neD rfl rfl))) ?_))
    (sx_pass1 (et_is (et_or (et_not (et_B (ev_call (F := F_is_side) (ea_cons (ev_op (ev_var rfl) ev_int (rv_ixT rfl)) ea_nil) ⟨_, rfl, rfl⟩))) fun _ => et_not (et_B (ev_call (F := F_is_side) (ea_cons (ev_op (ev_var rfl) ev_int (rv_ixT rfl)) ea_nil) ⟨_, rfl, rfl⟩))) ?_))⟩
  · rfl
  · show (!(decide (2 ≤ r) && decide (r ≤ 5)) || !(decide (2 ≤ c) && decide (c ≤ 5))) = false
    rw [decide_eq_true h1, decide_eq_true h2, decide_eq_true h3, decide_eq_true h4]
    rfl
/-! ### rising -/
def Rise (n : Int) (l : List Int) : Prop := l.Pairwise (· < ·) ∧ ∀ x ∈ l, 0 ≤ x ∧ x < n
theorem rise_sel (n : Nat) (f : Nat → Bool) : Rise (n : Int) (sel n f) := ⟨sel_rise n f, fun x hx => by
  obtain ⟨k, rfl, h, _⟩ := mem_sel.mp hx
  omega⟩
def low (l : List Int) : Nat → Int
  | 0 => 0
  | i + 1 => l.getD i 0 + 1
theorem low_le {n : Int} {l : List Int} (h : Rise n l) {i : Nat} {x : Int} (hx : l[i]? = some x) : low l i ≤ x := by
  cases i with
  | zero => exact (h.2 x (List.mem_of_getElem? hx)).1
  | succ i =>
    obtain ⟨hi, e⟩ := List.getElem?_eq_some_iff.mp hx
    have h1 := List.pairwise_iff_getElem.mp h.1 i (i + 1) (by omega) hi (by omega)
    show l.getD i 0 + 1 ≤ x
    rw [List.getD_eq_getElem?_getD, List.getElem?_eq_getElem (show i < l.length by omega)]
    show l[i] + 1 ≤ x
    omega
abbrev s_first_misplaced : Stmt := topS 11
abbrev N_first_misplaced : List Str := ["things", "many", "lowest", "place", "thing"]
theorem sc_first_misplaced : FnScope N_first_misplaced ["things", "many"] (defScope s_first_misplaced) := ⟨rfl, rfl, rfl, by decide +kernel, rfl, by decide +kernel, by decide +kernel⟩
theorem bi_first_misplaced : BindsAt "first_misplaced" s_first_misplaced ["things", "many"] := fun _ _ _ _ _ _ us hl => match us, hl with | [_, _], _ => rfl

def F_first_misplaced (ds : List Dt) (d : Dt) : Prop := ∃ (l : List Int) (n : Int), ds = [ti l, .int n] ∧ Rise n l ∧ d = .none
theorem ok_first_misplaced (A : FnAt K mg "first_misplaced" s_first_misplaced) (b_isinstance : mg "isinstance" = none) (b_tuple : mg "tuple" = none) (b_enumerate : mg "enumerate" = none) (h_is_whole : Has P w K mg base "is_whole" 1 ["thing"] (spD K F_is_whole)) : Has P w K mg base "first_misplaced" 2 ["things", "many"] (spD K F_first_misplaced) := by
  have nd := sc_first_misplaced.nd
  refine has_pure A bi_first_misplaced sc_first_misplaced (fun ds d ⟨_, _, h, _⟩ => by rw [h]; rfl) fun cdv f A outer s H E hr => ⟨_, (pss_cons (ps_if (pt_not (pt_val (pe_callB (kc_isi (K := K) (by rfl)) (by rfl) b_isinstance (by decide +kernel) (pa_cons (pv 0) (pa_cons (pe_bltn (v := .ty "tuple") (by rfl) b_tuple (by decide +kernel) rfl) pa_nil))))) (pss_one (ps_ret pe_int)) pss_nil)
    (pss_cons (ps_set (i := 2) nd rfl (by first | exact .inl rfl | exact .inr rfl) pe_int)
    (pss_cons (ps_for PassesOwn.never rfl (pi_enumTK (K := K) (by rfl) (by rfl) b_enumerate (pa_cons (pv 0) pa_nil)) (pg_tup (by rfl) (pgs_cons (pg_name (i := 3) nd rfl (by first | exact .inl rfl | exact .inr rfl)) (pgs_cons (pg_name (i := 4) nd rfl (by first | exact .inl rfl | exact .inr rfl)) pgs_nil))) (pss_cons (ps_if (PW.pt (pw_or (pt_not (pt_val (ca h_is_whole hr (by rfl) (pa_cons (pv 4) pa_nil)))) (pw_or (pt_cmpR op_lt (pv 4) (pv 2) (nomark _)) (pw_or1 (pt_cmpR op_ge (pv 4) (pv 1) (nomark _)))))) (pss_one (ps_ret (pv 3))) pss_nil)
    (pss_one (ps_set (i := 2) nd rfl (by first | exact .inl rfl | exact .inr rfl) (pe_op op_add (pv 4) pe_int)))))
    (pss_one (ps_ret pe_non))))), fun ds d hF => .inl ?_⟩
  obtain ⟨l, n, rfl, hR, rfl⟩ := hF
  refine sx_skip (et_is (et_not (et_B (ev_isi (ev_var rfl) (kit_T _)))) rfl) (sx_let ev_int ?_)
  refine sx_seq (sx_for (ds := pairsFrom 0 (l.map .int)) (js := [3, 4]) (fun i => [some (.d (ti l)), some (.d (.int n)), some (.d (.int (low l i))), none, none]) (fun i => [some (.d (ti l)), some (.d (.int n)), some (.d (.int (low l i))), some (.d (.int (i : Nat))), some (.d (.int (l.getD i 0)))])
    (ei_enumT (ev_var rfl)) (fun i d hd => ?_) (fun i hi => .inl ?_)) (sx_ret ev_non)
  · obtain ⟨hi, _⟩ := List.getElem?_eq_some_iff.mp hd
    rw [pairs_len, List.length_map] at hi
    have e := pairs_get (ds := l.map PyData.int) (k := 0) (i := i) (d := .int l[i]) (by rw [List.getElem?_map, List.getElem?_eq_getElem hi]; rfl)
    rw [hd] at e
    cases e
    have e2 : l.getD i 0 = l[i] := by rw [List.getD_eq_getElem?_getD, List.getElem?_eq_getElem hi]; rfl
    rw [e2]
    simp only [Nat.zero_add]
    exact eg_pair
  · rw [pairs_len, List.length_map] at hi
    have hx : l[i]? = some l[i] := List.getElem?_eq_getElem hi
    have e2 : l.getD i 0 = l[i] := by rw [List.getD_eq_getElem?_getD, hx]; rfl
    have b1 := low_le hR hx
    have b2 := hR.2 _ (List.mem_of_getElem? hx)
    refine sx_skip (et_is (et_or (et_not (et_B (ev_call (F := F_is_whole) (ea_cons (ev_var rfl) ea_nil) ⟨_, rfl, rfl⟩))) fun _ => et_or (et_test (ev_op (ev_var rfl) (ev_var rfl) rv_B0)) fun _ => et_test (ev_op (ev_var rfl) (ev_var rfl) rv_B0)) ?_)
      (sx_weak (sx_asg (ev_op (ev_var rfl) ev_int rv_I0)) ⟨rfl, fun j w hj => ?_⟩)
    · rw [e2, decide_eq_false (by omega), decide_eq_false (by omega)]; rfl
    · match j with
      | 0 => exact hj
      | 1 => exact hj
      | 2 => exact hj
      | 3 => cases hj
      | 4 => cases hj
      | j + 5 => exact hj
abbrev s_require_flips : Stmt := topS 12
abbrev N_require_flips : List Str := ["board", "flips", "place"]
theorem sc_require_flips : FnScope N_require_flips ["board", "flips"] (defScope s_require_flips) := ⟨rfl, rfl, rfl, by decide +kernel, rfl, by decide +kernel, by decide +kernel⟩
theorem bi_require_flips : BindsAt "require_flips" s_require_flips ["board", "flips"] := fun _ _ _ _ _ _ us hl => match us, hl with | [_, _], _ => rfl

def F_require_flips (ds : List Dt) (d : Dt) : Prop := ∃ (r c : Int) (l : List Int), ds = [bd r c, ti l] ∧ 2 ≤ r ∧ r ≤ 5 ∧ 2 ≤ c ∧ c ≤ 5 ∧ Rise (2 * (r * c)) l ∧ d = .none
/-! ### site_count -/
abbrev s_site_count : Stmt := topS 13
abbrev N_site_count : List Str := ["board"]
theorem sc_site_count : FnScope N_site_count ["board"] (defScope s_site_count) := ⟨rfl, rfl, rfl, by decide +kernel, rfl, by decide +kernel, by decide +kernel⟩
theorem bi_site_count : BindsAt "site_count" s_site_count ["board"] := fun _ _ _ _ _ _ us hl => match us, hl with | [_], _ => rfl

def F_site_count (ds : List Dt) (d : Dt) : Prop := ∃ r c : Int, ds = [bd r c] ∧ 2 ≤ r ∧ r ≤ 5 ∧ 2 ≤ c ∧ c ≤ 5 ∧ d = .int (r * c)
theorem ok_site_count (A : FnAt K mg "site_count" s_site_count) : Has P w K mg base "site_count" 1 ["board"] (spD K F_site_count) := by
  have nd := sc_site_count.nd
  refine has_pure A bi_site_count sc_site_count (fun ds d ⟨_, _, h, _⟩ => by rw [h]; rfl) fun cdv f A outer s H E hr => ⟨_, (pss_one (ps_ret (pe_op op_mul (pe_ix (ix_tupK (K := K) (by rfl)) (pv 0) pe_int (fun _ _ => rfl)) (pe_ix (ix_tupK (K := K) (by rfl)) (pv 0) pe_int (fun _ _ => rfl))))), fun ds d hF => .inl ?_⟩
  obtain ⟨r, c, rfl, h1, h2, h3, h4, rfl⟩ := hF
  exact sx_ret (ev_op (ev_op (ev_var rfl) ev_int (rv_ixT rfl)) (ev_op (ev_var rfl) ev_int (rv_ixT rfl)) (rv_I (cmul ⟨by omega, by omega⟩)))
abbrev s_edge_count : Stmt := topS 14
abbrev N_edge_count : List Str := ["board"]
theorem sc_edge_count : FnScope N_edge_count ["board"] (defScope s_edge_count) := ⟨rfl, rfl, rfl, by decide +kernel, rfl, by decide +kernel, by decide +kernel⟩
theorem bi_edge_count : BindsAt "edge_count" s_edge_count ["board"] := fun _ _ _ _ _ _ us hl => match us, hl with | [_], _ => rfl

def F_edge_count (ds : List Dt) (d : Dt) : Prop := ∃ r c : Int, ds = [bd r c] ∧ 2 ≤ r ∧ r ≤ 5 ∧ 2 ≤ c ∧ c ≤ 5 ∧ d = .int (2 * (r * c))
theorem ok_edge_count (A : FnAt K mg "edge_count" s_edge_count) (h_site_count : Has P w K mg base "site_count" 1 ["board"] (spD K F_site_count)) : Has P w K mg base "edge_count" 2 ["board"] (spD K F_edge_count) := by
  have nd := sc_edge_count.nd
  refine has_pure A bi_edge_count sc_edge_count (fun ds d ⟨_, _, h, _⟩ => by rw [h]; rfl) fun cdv f A outer s H E hr => ⟨_, (pss_one (ps_ret (pe_op op_mul pe_int (ca h_site_count hr (by rfl) (pa_cons (pv 0) pa_nil))))), fun ds d hF => .inl ?_⟩
  obtain ⟨r, c, rfl, h1, h2, h3, h4, rfl⟩ := hF
  exact sx_ret (ev_op ev_int (ev_call (F := F_site_count) (ea_cons (ev_var rfl) ea_nil) ⟨r, c, rfl, h1, h2, h3, h4, rfl⟩) (rv_I (cmul ⟨by decide, by decide⟩)))
abbrev s_site_right_of : Stmt := topS 15
abbrev N_site_right_of : List Str := ["board", "site", "columns"]
theorem sc_site_right_of : FnScope N_site_right_of ["board", "site"] (defScope s_site_right_of) := ⟨rfl, rfl, rfl, by decide +kernel, rfl, by decide +kernel, by decide +kernel⟩
theorem bi_site_right_of : BindsAt "site_right_of" s_site_right_of ["board", "site"] := fun _ _ _ _ _ _ us hl => match us, hl with | [_, _], _ => rfl

def F_site_right_of (ds : List Dt) (d : Dt) : Prop := ∃ r c s : Int, ds = [bd r c, .int s] ∧ 2 ≤ c ∧ c ≤ 5 ∧ d = .int (s - s % c + (s + 1) % c)
theorem ok_site_right_of (A : FnAt K mg "site_right_of" s_site_right_of) : Has P w K mg base "site_right_of" 1 ["board", "site"] (spD K F_site_right_of) := by
  have nd := sc_site_right_of.nd
  refine has_pure A bi_site_right_of sc_site_right_of (fun ds d ⟨_, _, _, h, _⟩ => by rw [h]; rfl) fun cdv f A outer s H E hr => ⟨_, (pss_cons (ps_set (i := 2) nd rfl (by first | exact .inl rfl | exact .inr rfl) (pe_ix (ix_tupK (K := K) (by rfl)) (pv 0) pe_int (fun _ _ => rfl)))
    (pss_one (ps_ret (pe_op op_add (pe_op op_sub (pv 1) (pe_op op_mod (pv 1) (pv 2))) (pe_op op_mod (pe_op op_add (pv 1) pe_int) (pv 2)))))), fun ds d hF => .inl ?_⟩
  obtain ⟨r, c, s, rfl, h1, h2, rfl⟩ := hF
  exact sx_let (ev_op (ev_var rfl) ev_int (rv_ixT rfl)) (sx_ret (ev_op (ev_op (ev_var rfl) (ev_op (ev_var rfl) (ev_var rfl) (rv_I (by show (0 : Int) < c; omega))) rv_I0) (ev_op (ev_op (ev_var rfl) ev_int rv_I0) (ev_var rfl) (rv_I (by show (0 : Int) < c; omega))) rv_I0))

theorem ok_require_flips (A : FnAt K mg "require_flips" s_require_flips) (h_first_misplaced : Has P w K mg base "first_misplaced" 2 ["things", "many"] (spD K F_first_misplaced)) (h_edge_count : Has P w K mg base "edge_count" 2 ["board"] (spD K F_edge_count)) : Has P w K mg base "require_flips" 3 ["board", "flips"] (spD K F_require_flips) := by
  have nd := sc_require_flips.nd
  refine has_pure A bi_require_flips sc_require_flips (fun ds d ⟨_, _, _, h, _⟩ => by rw [h]; rfl) fun cdv f A outer s H E hr => ⟨_, (pss_cons (ps_set (i := 2) nd rfl (by first | exact .inl rfl | exact .inr rfl) (ca h_first_misplaced hr (by rfl) (pa_cons (pv 1) (pa_cons (ca h_edge_count hr (by rfl) (pa_cons (pv 0) pa_nil)) pa_nil))))
    (pss_one (ps_if (pt_cmpR op_notN (pv 2) pe_non (nomark _)) (pss_one ps_never) pss_nil))), fun ds d hF => .inr ?_⟩
  obtain ⟨r, c, l, rfl, h1, h2, h3, h4, hR, rfl⟩ := hF
  exact ⟨rfl, _, sx_let (ev_call (F := F_first_misplaced) (ea_cons (ev_var rfl) (ea_cons (ev_call (F := F_edge_count) (ea_cons (ev_var rfl) ea_nil) ⟨r, c, rfl, h1, h2, h3, h4, rfl⟩) ea_nil)) ⟨l, _, rfl, hR, rfl⟩)
    (sx_pass1 (et_test (ev_op (ev_var rfl) ev_non rv_notN)))⟩
abbrev s_site_below : Stmt := topS 16
abbrev N_site_below : List Str := ["board", "site"]
theorem sc_site_below : FnScope N_site_below ["board", "site"] (defScope s_site_below) := ⟨rfl, rfl, rfl, by decide +kernel, rfl, by decide +kernel, by decide +kernel⟩
theorem bi_site_below : BindsAt "site_below" s_site_below ["board", "site"] := fun _ _ _ _ _ _ us hl => match us, hl with | [_, _], _ => rfl

def F_site_below (ds : List Dt) (d : Dt) : Prop := ∃ r c s : Int, ds = [bd r c, .int s] ∧ 2 ≤ r ∧ r ≤ 5 ∧ 2 ≤ c ∧ c ≤ 5 ∧ d = .int ((s + c) % (r * c))
theorem ok_site_below (A : FnAt K mg "site_below" s_site_below) (h_site_count : Has P w K mg base "site_count" 1 ["board"] (spD K F_site_count)) : Has P w K mg base "site_below" 2 ["board", "site"] (spD K F_site_below) := by
  have nd := sc_site_below.nd
  refine has_pure A bi_site_below sc_site_below (fun ds d ⟨_, _, _, h, _⟩ => by rw [h]; rfl) fun cdv f A outer s H E hr => ⟨_, (pss_one (ps_ret (pe_op op_mod (pe_op op_add (pv 1) (pe_ix (ix_tupK (K := K) (by rfl)) (pv 0) pe_int (fun _ _ => rfl))) (ca h_site_count hr (by rfl) (pa_cons (pv 0) pa_nil))))), fun ds d hF => .inl ?_⟩
  obtain ⟨r, c, s, rfl, h1, h2, h3, h4, rfl⟩ := hF
  have hp : 0 < r * c := Int.mul_pos (by omega) (by omega)
  exact sx_ret (ev_op (ev_op (ev_var rfl) (ev_op (ev_var rfl) ev_int (rv_ixT rfl)) rv_I0) (ev_call (F := F_site_count) (ea_cons (ev_var rfl) ea_nil) ⟨r, c, rfl, h1, h2, h3, h4, rfl⟩) (rv_I hp))
abbrev s_goes_down : Stmt := topS 17
abbrev N_goes_down : List Str := ["edge"]
theorem sc_goes_down : FnScope N_goes_down ["edge"] (defScope s_goes_down) := ⟨rfl, rfl, rfl, by decide +kernel, rfl, by decide +kernel, by decide +kernel⟩
theorem bi_goes_down : BindsAt "goes_down" s_goes_down ["edge"] := fun _ _ _ _ _ _ us hl => match us, hl with | [_], _ => rfl

def F_goes_down (ds : List Dt) (d : Dt) : Prop := ∃ e : Int, ds = [.int e] ∧ d = .bool (decide (e % 2 = 1))
theorem ok_goes_down (A : FnAt K mg "goes_down" s_goes_down) : Has P w K mg base "goes_down" 1 ["edge"] (spD K F_goes_down) := by
  have nd := sc_goes_down.nd
  refine has_pure A bi_goes_down sc_goes_down (fun ds d ⟨_, h, _⟩ => by rw [h]; rfl) fun cdv f A outer s H E hr => ⟨_, (pss_one (ps_ret (pe_cmpR (op_eqK (K := K) (by rfl) (by exact hr.units)) (pe_op op_mod (pv 0) pe_int) pe_int (nomark _)))), fun ds d hF => .inl ?_⟩
  obtain ⟨e, rfl, rfl⟩ := hF
  rw [← eqv_int]
  exact sx_ret (ev_op (ev_op (ev_var rfl) ev_int (rv_I (by show (0 : Int) < 2; decide))) ev_int (rv_eqD rfl rfl))
def rightI (c s : Int) : Int := s - s % c + (s + 1) % c
def belowI (r c s : Int) : Int := (s + c) % (r * c)
def endB (r c e : Int) : Int := if e % 2 = 1 then belowI r c (e / 2) else rightI c (e / 2)
abbrev s_edge_ends : Stmt := topS 18
abbrev N_edge_ends : List Str := ["board", "edge", "site"]
theorem sc_edge_ends : FnScope N_edge_ends ["board", "edge"] (defScope s_edge_ends) := ⟨rfl, rfl, rfl, by decide +kernel, rfl, by decide +kernel, by decide +kernel⟩
theorem bi_edge_ends : BindsAt "edge_ends" s_edge_ends ["board", "edge"] := fun _ _ _ _ _ _ us hl => match us, hl with | [_, _], _ => rfl

def F_edge_ends (ds : List Dt) (d : Dt) : Prop := ∃ r c e : Int, ds = [bd r c, .int e] ∧ 2 ≤ r ∧ r ≤ 5 ∧ 2 ≤ c ∧ c ≤ 5 ∧ d = .tuple [.int (e / 2), .int (endB r c e)]
theorem ok_edge_ends (A : FnAt K mg "edge_ends" s_edge_ends) (h_goes_down : Has P w K mg base "goes_down" 1 ["edge"] (spD K F_goes_down)) (h_site_below : Has P w K mg base "site_below" 2 ["board", "site"] (spD K F_site_below)) (h_site_right_of : Has P w K mg base "site_right_of" 1 ["board", "site"] (spD K F_site_right_of)) : Has P w K mg base "edge_ends" 3 ["board", "edge"] (spD K F_edge_ends) := by
  have nd := sc_edge_ends.nd
  refine has_pure A bi_edge_ends sc_edge_ends (fun ds d ⟨_, _, _, h, _⟩ => by rw [h]; rfl) fun cdv f A outer s H E hr => ⟨_, (pss_cons (ps_set (i := 2) nd rfl (by first | exact .inl rfl | exact .inr rfl) (pe_op op_fdiv (pv 1) pe_int))
    (pss_cons (ps_if (pt_val (ca h_goes_down (hr.mono (by decide)) (by rfl) (pa_cons (pv 1) pa_nil))) (pss_one (ps_ret (pe_tup (pa_cons (pv 2) (pa_cons (ca h_site_below hr (by rfl) (pa_cons (pv 0) (pa_cons (pv 2) pa_nil))) pa_nil))))) pss_nil)
    (pss_one (ps_ret (pe_tup (pa_cons (pv 2) (pa_cons (ca h_site_right_of (hr.mono (by decide)) (by rfl) (pa_cons (pv 0) (pa_cons (pv 2) pa_nil))) pa_nil))))))), fun ds d hF => .inl ?_⟩
  obtain ⟨r, c, e, rfl, h1, h2, h3, h4, rfl⟩ := hF
  refine sx_let (ev_op (ev_var rfl) ev_int (rv_I (cdiv ⟨by decide, by decide⟩))) ?_
  by_cases hd : e % 2 = 1
  · have e1 : endB r c e = (e / 2 + c) % (r * c) := by unfold endB; rw [if_pos hd]; rfl
    rw [e1]
    exact sx_take (et_is (et_B (ev_call (F := F_goes_down) (ea_cons (ev_var rfl) ea_nil) ⟨e, rfl, rfl⟩)) (decide_eq_true hd))
      (sx_ret (ev_tup (ea_cons (ev_var rfl) (ea_cons (ev_call (F := F_site_below) (ea_cons (ev_var rfl) (ea_cons (ev_var rfl) ea_nil)) ⟨r, c, e / 2, rfl, h1, h2, h3, h4, rfl⟩) ea_nil)) (by show 2 ≤ 100000; decide)))
  · have e1 : endB r c e = e / 2 - e / 2 % c + (e / 2 + 1) % c := by unfold endB; rw [if_neg hd]; rfl
    rw [e1]
    exact sx_skip (et_is (et_B (ev_call (F := F_goes_down) (ea_cons (ev_var rfl) ea_nil) ⟨e, rfl, rfl⟩)) (decide_eq_false hd))
      (sx_ret (ev_tup (ea_cons (ev_var rfl) (ea_cons (ev_call (F := F_site_right_of) (ea_cons (ev_var rfl) (ea_cons (ev_var rfl) ea_nil)) ⟨r, c, e / 2, rfl, h3, h4, rfl⟩) ea_nil)) (by show 2 ≤ 100000; decide)))
abbrev s_crosses_first_seam : Stmt := topS 19
abbrev N_crosses_first_seam : List Str := ["board", "edge", "columns"]
theorem sc_crosses_first_seam : FnScope N_crosses_first_seam ["board", "edge"] (defScope s_crosses_first_seam) := ⟨rfl, rfl, rfl, by decide +kernel, rfl, by decide +kernel, by decide +kernel⟩
theorem bi_crosses_first_seam : BindsAt "crosses_first_seam" s_crosses_first_seam ["board", "edge"] := fun _ _ _ _ _ _ us hl => match us, hl with | [_, _], _ => rfl

def crA (r c e : Int) : Bool := !(decide (e % 2 = 1)) && decide (e / 2 % c = c - 1)
def crB (r c e : Int) : Bool := decide (e % 2 = 1) && decide (e / 2 / c = r - 1)
def F_crA (ds : List Dt) (d : Dt) : Prop := ∃ r c e : Int, ds = [bd r c, .int e] ∧ 2 ≤ c ∧ c ≤ 5 ∧ d = .bool (crA r c e)
def F_crB (ds : List Dt) (d : Dt) : Prop := ∃ r c e : Int, ds = [bd r c, .int e] ∧ 2 ≤ c ∧ c ≤ 5 ∧ d = .bool (crB r c e)
theorem ok_crosses_first_seam (A : FnAt K mg "crosses_first_seam" s_crosses_first_seam) (h_goes_down : Has P w K mg base "goes_down" 1 ["edge"] (spD K F_goes_down)) : Has P w K mg base "crosses_first_seam" 2 ["board", "edge"] (spD K F_crA) := by
  have nd := sc_crosses_first_seam.nd
  refine has_pure A bi_crosses_first_seam sc_crosses_first_seam (fun ds d ⟨_, _, _, h, _⟩ => by rw [h]; rfl) fun cdv f A outer s H E hr => ⟨_, (pss_cons (ps_set (i := 2) nd rfl (by first | exact .inl rfl | exact .inr rfl) (pe_ix (ix_tupK (K := K) (by rfl)) (pv 0) pe_int (fun _ _ => rfl)))
    (pss_one (ps_ret (pe_and (pe_not (ca h_goes_down hr (by rfl) (pa_cons (pv 1) pa_nil))) (pe_one (pe_cmpR (op_eqK (K := K) (by rfl) (by exact hr.units)) (pe_op op_mod (pe_op op_fdiv (pv 1) pe_int) (pv 2)) (pe_op op_sub (pv 2) pe_int) (nomark _))))))), fun ds d hF => .inl ?_⟩
  obtain ⟨r, c, e, rfl, h3, h4, rfl⟩ := hF
  refine sx_let (ev_op (ev_var rfl) ev_int (rv_ixT rfl)) (sx_ret (ev_is (ev_andV (ev_notV (ev_call (F := F_goes_down) (ea_cons (ev_var rfl) ea_nil) ⟨e, rfl, rfl⟩)) fun _ =>
    ev_op (ev_op (ev_op (ev_var rfl) ev_int (rv_I (cdiv ⟨by decide, by decide⟩))) (ev_var rfl) (rv_I (by show 0 < c; omega))) (ev_op (ev_var rfl) ev_int rv_I0) (rv_eqD rfl rfl)) ?_))
  rw [eqv_int]; rfl
abbrev s_crosses_second_seam : Stmt := topS 20
abbrev N_crosses_second_seam : List Str := ["board", "edge", "rows", "columns"]
theorem sc_crosses_second_seam : FnScope N_crosses_second_seam ["board", "edge"] (defScope s_crosses_second_seam) := ⟨rfl, rfl, rfl, by decide +kernel, rfl, by decide +kernel, by decide +kernel⟩
theorem bi_crosses_second_seam : BindsAt "crosses_second_seam" s_crosses_second_seam ["board", "edge"] := fun _ _ _ _ _ _ us hl => match us, hl with | [_, _], _ => rfl

theorem ok_crosses_second_seam (A : FnAt K mg "crosses_second_seam" s_crosses_second_seam) (h_goes_down : Has P w K mg base "goes_down" 1 ["edge"] (spD K F_goes_down)) : Has P w K mg base "crosses_second_seam" 2 ["board", "edge"] (spD K F_crB) := by
  have nd := sc_crosses_second_seam.nd
  refine has_pure A bi_crosses_second_seam sc_crosses_second_seam (fun ds d ⟨_, _, _, h, _⟩ => by rw [h]; rfl) fun cdv f A outer s H E hr => ⟨_, (pss_cons (ps_asg (pv 0) (pg_tup (by rfl) (pgs_cons (pg_name (i := 2) nd rfl (by first | exact .inl rfl | exact .inr rfl)) (pgs_cons (pg_name (i := 3) nd rfl (by first | exact .inl rfl | exact .inr rfl)) pgs_nil))))
    (pss_one (ps_ret (pe_and (ca h_goes_down hr (by rfl) (pa_cons (pv 1) pa_nil)) (pe_one (pe_cmpR (op_eqK (K := K) (by rfl) (by exact hr.units)) (pe_op op_fdiv (pe_op op_fdiv (pv 1) pe_int) (pv 3)) (pe_op op_sub (pv 2) pe_int) (nomark _))))))), fun ds d hF => .inl ?_⟩
  obtain ⟨r, c, e, rfl, h3, h4, rfl⟩ := hF
  refine sx_un (ev_var rfl) eg_pair (sx_ret (ev_is (ev_andV (ev_call (F := F_goes_down) (ea_cons (ev_var rfl) ea_nil) ⟨e, rfl, rfl⟩) fun _ =>
    ev_op (ev_op (ev_op (ev_var rfl) ev_int (rv_I (cdiv ⟨by decide, by decide⟩))) (ev_var rfl) (rv_I (cdiv ⟨by omega, by omega⟩))) (ev_op (ev_var rfl) ev_int rv_I0) (rv_eqD rfl rfl)) ?_))
  rw [eqv_int]; rfl
/-! ### odd_ones: its counts are a list that changes -/
abbrev s_odd_ones : Stmt := topS 21
abbrev N_odd_ones : List Str := ["numbers", "many", "counts", "number", "count"]
theorem sc_odd_ones : FnScope N_odd_ones ["numbers", "many"] (defScope s_odd_ones) := ⟨rfl, rfl, rfl, by decide +kernel, rfl, by decide +kernel, by decide +kernel⟩
theorem bi_odd_ones : BindsAt "odd_ones" s_odd_ones ["numbers", "many"] := fun _ _ _ _ _ _ us hl => match us, hl with | [_, _], _ => rfl

def cnt (n : Nat) (l : List Int) : List Int := (List.range n).map fun (k : Nat) => ((l.count (k : Int) : Nat) : Int)
theorem cnt_len (n : Nat) (l : List Int) : (cnt n l).length = n := by unfold cnt; rw [List.length_map, List.length_range]
theorem cnt_get {n k : Nat} (l : List Int) (h : k < n) : (cnt n l)[k]? = some ((l.count (k : Int) : Nat) : Int) := by
  unfold cnt; rw [List.getElem?_map, List.getElem?_range h]; rfl
theorem cnt_nil (n : Nat) : cnt n [] = List.replicate n 0 := by
  unfold cnt
  apply List.ext_getElem?
  intro i
  rw [List.getElem?_map, List.getElem?_replicate]
  by_cases h : i < n
  · rw [List.getElem?_range h, if_pos h]; rfl
  · rw [if_neg h, List.getElem?_eq_none (by rw [List.length_range]; omega)]; rfl
theorem cnt_snoc {n k : Nat} (l : List Int) (h : k < n) : cnt n (l ++ [(k : Int)]) = (cnt n l).set k (((l.count (k : Int) : Nat) : Int) + 1) := by
  apply List.ext_getElem?
  intro i
  rw [List.getElem?_set, cnt_len]
  by_cases hi : i < n
  · rw [cnt_get _ hi, List.count_append]
    by_cases e : k = i
    · subst e
      rw [if_pos rfl, if_pos h, List.count_singleton_self]
      rfl
    · rw [if_neg e, cnt_get _ hi, List.count_singleton]
      have : ((k : Int) == (i : Int)) = false := by
        rw [beq_eq_false_iff_ne]; omega
      rw [this]
      rfl
  · rw [List.getElem?_eq_none (by rw [cnt_len]; omega)]
    by_cases e : k = i
    · subst e; exact absurd h hi
    · rw [if_neg e, List.getElem?_eq_none (by rw [cnt_len]; omega)]
def pOdd : Dt → Bool
  | .tuple [_, .int c] => decide (c % 2 = 1)
  | _ => false
def qFst : Dt → Dt
  | .tuple [a, _] => a
  | _ => .none
theorem pairs_range (g : Nat → Dt) : ∀ (n k : Nat), pairsFrom k ((List.range' k n).map g) = (List.range' k n).map fun j => .tuple [.int (j : Nat), g j]
  | 0, _ => rfl
  | n + 1, k => by
    rw [List.range'_succ, List.map_cons, List.map_cons]
    show _ :: pairsFrom (k + 1) _ = _
    rw [pairs_range g n (k + 1)]
theorem odd_end (n : Nat) (l : List Int) : ((pairsFrom 0 ((cnt n l).map .int)).filter pOdd).map qFst = (sel n fun k => decide (l.count (k : Int) % 2 = 1)).map .int := by
  have e : (cnt n l).map PyData.int = (List.range' 0 n).map fun (k : Nat) => PyData.int ((l.count (k : Int) : Nat) : Int) := by
    unfold cnt
    rw [List.map_map, ← List.range_eq_range']
    rfl
  rw [e, pairs_range, List.filter_map, List.map_map, ← List.range_eq_range']
  unfold sel
  rw [List.map_map]
  have e2 : (pOdd ∘ fun (j : Nat) => PyData.tuple [.int (j : Int), .int ((l.count (j : Int) : Nat) : Int)]) = fun (k : Nat) => decide (l.count (k : Int) % 2 = 1) := by
    funext k
    show decide ((((l.count (k : Int) : Nat) : Int)) % 2 = 1) = _
    apply decide_eq_decide.mpr
    omega
  rw [e2]
  rfl
theorem pairs_mem : ∀ {ds : List Dt} {k : Nat} {d : Dt}, d ∈ pairsFrom k ds → ∃ (j : Nat) (x : Dt), d = .tuple [.int (j : Nat), x] ∧ x ∈ ds
  | [], _, _, h => by cases h
  | x :: ds, k, d, h => by
    rcases List.mem_cons.mp h with e | h
    · exact ⟨k, x, e, List.mem_cons_self⟩
    · obtain ⟨j, y, e, hy⟩ := pairs_mem h
      exact ⟨j, y, e, List.mem_cons_of_mem _ hy⟩
def F_odd_ones (ds : List Dt) (d : Dt) : Prop := ∃ (l : List Int) (n : Nat), (ds = [ti l, .int (n : Int)] ∨ ds = [li l, .int (n : Int)]) ∧ n ≤ 1000 ∧ (∀ x ∈ l, 0 ≤ x ∧ x < n) ∧ d = ti (sel n fun k => decide (l.count (k : Int) % 2 = 1))
theorem ok_odd_ones (A : FnAt K mg "odd_ones" s_odd_ones) (b_tuple : mg "tuple" = none) (b_enumerate : mg "enumerate" = none) : Has P w K mg base "odd_ones" 1 ["numbers", "many"] (spD K F_odd_ones) := by
  have nd := sc_odd_ones.nd
  refine has_pure A bi_odd_ones sc_odd_ones (fun ds d ⟨_, _, h, _⟩ => by rcases h with h | h <;> (rw [h]; rfl)) fun cdv f A outer s H E hr => ⟨_, (pss_cons (ps_set (i := 2) nd rfl (by first | exact .inl rfl | exact .inr rfl) (pe_op op_rep (pe_lst (pa_cons pe_int pa_nil)) (pv 1)))
    (pss_cons (ps_for PassesOwn.never rfl (pi_or (pi_listK (K := K) (by rfl) (pv 0)) (pi_tupK (K := K) (by rfl) (pv 0))) (pg_name (i := 3) nd rfl (by first | exact .inl rfl | exact .inr rfl)) (pss_one (ps_augS (pv 2) (pv 3) (get_listK (K := K) (by rfl)) pe_int ip_add set_list)))
    (pss_one (ps_ret (pe_callTy (kc_tup (K := K) (by rfl)) (by rfl) b_tuple (by decide +kernel) (pa_cons (pe_lc (own := [("number", 3), ("count", 4)]) (g := gTup _ 2 (gCons (gName 3) (gCons (gName 4) gNil))) (by rfl) nd (pi_enumK (K := K) (by rfl) (by rfl) b_enumerate (pa_cons (pv 2) pa_nil)) (blkOk_by (own := [("number", 3), ("count", 4)]) (N := N_odd_ones) (sc := defScope s_odd_ones) (by decide +kernel)) (fun _ _ _ _ _ => (pg_tup (by rfl) (pgs_cons (pg_name (i := 3) nd rfl (by first | exact .inl rfl | exact .inr rfl)) (pgs_cons (pg_name (i := 4) nd rfl (by first | exact .inl rfl | exact .inr rfl)) pgs_nil)))) (fun _ _ _ _ _ => (pts_one (pt_cmpR (op_eqK (K := K) (by rfl) (by exact hr.units)) (pe_op op_mod (pv 4) pe_int) pe_int (nomark _)))) (fun _ _ _ _ _ => (pv 3))) pa_nil)))))), fun ds d hF => .inl ?_⟩
  obtain ⟨l, n, hds, hn, hb, rfl⟩ := hF
  obtain ⟨nums, hnums, hit⟩ : ∃ nums : Dt, ds = [nums, .int (n : Int)] ∧ ∀ Δ : Sl, Δ[0]? = some (some (.d nums)) → EvI K (fun σ H R => iList K (tVar 0) σ H R ∨ iTup K (tVar 0) σ H R) Δ (l.map .int) := by
    rcases hds with h | h
    · exact ⟨_, h, fun Δ hΔ => ei_or2 (ei_tup (ev_var hΔ))⟩
    · exact ⟨_, h, fun Δ hΔ => ei_or1 (ei_list (ev_var hΔ))⟩
  subst hnums
  intro D σ G H e s p
  refine sx_hidRep (K := K) (xs := [.int 0]) (k := (n : Int)) (en_lst (ea_cons ev_int ea_nil) (by decide)) (ev_var rfl) (by omega) (by omega) (by decide) e s fun c vs G1 H1 s1 hc d1 => ?_
  have ev : vs = [V.int 0] := by
    cases d1 with
    | cons x y => cases y; cases x; rfl
  subst ev
  have ez : (List.replicate ((n : Int).toNat) [V.int 0]).flatten = (cnt n []).map V.int := by
    rw [cnt_nil, List.map_replicate, Int.toNat_natCast]
    clear hn hb hds hit e p hc
    induction n with
    | zero => rfl
    | succ n ih => rw [List.replicate_succ, List.flatten_cons, ih, List.replicate_succ]; rfl
  rw [ez]
  have hcG : H c = none := s1.h.back hc
  have s2 : Stp G H G1 (upd H1 c (.lst ((cnt n []).map V.int))) := s1.trans (.hid s1.s hc)
  have e1 : En K G1 (σ.set 2 (some (.ref c))) [some (.d nums), some (.d (.int (n : Int))), some (.r c), none, none] := (e.up s1.g).set (w := .r c) 2 rfl
  refine hit [some (.d nums), some (.d (.int (n : Int))), some (.r c), none, none] rfl _ G1 _ _ e1 s2.s fun J G3 H3 s3 wk => ?_
  have hc1 : (upd H1 c (.lst ((cnt n []).map V.int))) c ≠ none := by rw [upd_same]; simp
  have g1c : G1 c = none := s1.s.back hc
  refine ⟨fun i m σ' H' => m = (l.map PyData.int).length - i ∧ i ≤ (l.map PyData.int).length ∧ ∃ G', Stp G H G' H' ∧ Gr G3 G' ∧ G' c = none ∧ H' c = some (.lst ((cnt n (l.take i)).map V.int)) ∧ En K G' σ' [some (.d nums), some (.d (.int (n : Int))), some (.r c), none, none],
    ⟨_, rfl, Nat.zero_le _, G3, s2.trans s3, .refl _, s3.f c hc1 g1c, s3.h _ _ upd_same, e1.up s3.g⟩, ?_⟩
  rintro i m σ' H' ⟨rfl, hle, G', s', g', n', h', e'⟩
  by_cases hlt : i < (l.map PyData.int).length
  · refine .inr ⟨wk.go i G' H' g' s'.s hlt, fun σ'' H'' => ∃ G'', Stp G H G'' H'' ∧ Gr G3 G'' ∧ G'' c = none ∧ H'' c = some (.lst ((cnt n (l.take (i + 1))).map V.int)) ∧ En K G'' σ'' [some (.d nums), some (.d (.int (n : Int))), some (.r c), none, none],
      fun σ'' H'' ⟨G'', a1, a2, a3, a4, a5⟩ => ⟨(l.map PyData.int).length - (i + 1), by omega, rfl, hlt, G'', a1, a2, a3, a4, a5⟩, fun x H2 y => ?_⟩
    obtain ⟨G2, d, s4, hd, dx⟩ := wk.yld i G' H' x H2 g' s'.s hlt y
    have hi : i < l.length := by rw [List.length_map] at hlt; exact hlt
    rw [List.getElem?_map, List.getElem?_eq_getElem hi] at hd
    cases hd
    cases dx
    obtain ⟨b0, b1⟩ := hb l[i] (List.getElem_mem hi)
    have ex : l[i] = ((l[i].toNat : Nat) : Int) := by omega
    have hk : l[i].toNat < n := by omega
    have h2 : H2 c = some (.lst ((cnt n (l.take i)).map V.int)) := s4.h _ _ h'
    have n2 : G2 c = none := s4.f c (by rw [h']; simp) n'
    have e2 := (e'.up s4.g).set (w := .d (.int l[i])) 3 (Dp.int l[i])
    obtain ⟨v2, hv2, dv2⟩ := e2.at_ 2 (.r c) rfl
    cases dv2
    obtain ⟨v3, hv3, dv3⟩ := e2.at_ 3 (.d (.int l[i])) rfl
    cases dv3
    have gk : ((cnt n (l.take i)).map V.int)[l[i].toNat]? = some (.int (((l.take i).count ((l[i].toNat : Nat) : Int) : Nat) : Int)) := by
      rw [List.getElem?_map, cnt_get _ hk]; rfl
    refine ⟨_, hv2, _, hv3, c, _, l[i], _, rfl, rfl, SqL.of h2, at_nn b0 gk, ?_⟩
    refine ⟨_, 1, rfl, rfl, c, _, l[i], l[i].toNat, rfl, rfl, h2, ?_, ?_⟩
    · unfold ixN
      rw [if_pos b0, List.length_map, cnt_len, if_pos b1]
    · refine ⟨G2, ((s'.trans s4)).put hcG n2, g'.trans s4.g, n2, ?_, ?_⟩
      · rw [upd_same, List.take_add_one, List.getElem?_eq_getElem hi]
        have e5 : cnt n (l.take i ++ [l[i]]) = (cnt n (l.take i)).set l[i].toNat ((((l.take i).count ((l[i].toNat : Nat) : Int) : Nat) : Int) + 1) := by
          have := cnt_snoc (l.take i) hk
          rw [← ex] at this
          rw [this, ← ex]
        show _ = some (HO.lst ((cnt n (l.take i ++ [l[i]])).map V.int))
        rw [e5, List.map_set]
      · refine ⟨by rw [e2.len]; rfl, fun j u hj => ?_⟩
        match j with
        | 0 => exact e2.at_ 0 u hj
        | 1 => exact e2.at_ 1 u hj
        | 2 => exact e2.at_ 2 u hj
        | 3 => cases hj
        | 4 => cases hj
        | j + 5 => cases hj
  · have he : i = (l.map PyData.int).length := by omega
    subst he
    refine .inl ⟨wk.stop G' H' g' s'.s, ?_⟩
    rw [List.length_map, List.take_length] at h'
    have s5 := s'.show hcG n' h'
    have e5 : En K (upd G' c (.lst ((cnt n l).map V.int))) σ' [some (.d nums), some (.d (.int (n : Int))), some (.l ((cnt n l).map .int)), none, none] := by
      refine ⟨e'.len, fun j u hj => ?_⟩
      match j with
      | 0 => exact (e'.up (.new n')).at_ 0 u hj
      | 1 => exact (e'.up (.new n')).at_ 1 u hj
      | 2 =>
        cases hj
        obtain ⟨v2, hv2, dv2⟩ := e'.at_ 2 (.r c) rfl
        cases dv2
        exact ⟨_, hv2, c, _, rfl, upd_same, dps_ints _⟩
      | 3 => cases hj
      | 4 => cases hj
      | j + 5 => cases hj
    dsimp only
    refine Sx.go (K := K) ?_ e5 s5.s (p.step s5)
    refine sx_ret (ev_is (ev_cb (ea_cons (ev_of (en_lc (js := [3, 4]) (vs := [3, 4]) pOdd qFst (fun d => match d with
      | .tuple [a, b] => [some (.d nums), some (.d (.int (n : Int))), some (.l ((cnt n l).map .int)), some (.d a), some (.d b)]
      | _ => []) (ei_enum (ev_varL rfl)) ?_ (fun _ h => h) (fun d hd => ?_) (fun d hd => ?_) (fun d hd hp => ?_))) ea_nil) rc_tupL) ?_)
    · rw [pairs_len, List.length_map, cnt_len]; omega
    · obtain ⟨j, x, rfl, hx⟩ := pairs_mem hd
      exact eg_pair
    · obtain ⟨j, x, rfl, hx⟩ := pairs_mem hd
      obtain ⟨k, _, rfl⟩ := List.mem_map.mp hx
      refine et_is (et_test (ev_op (ev_op (ev_var rfl) ev_int (rv_I (by show (0 : Int) < 2; decide))) ev_int (rv_eqD rfl rfl))) ?_
      rw [eqv_int]; rfl
    · obtain ⟨j, x, rfl, hx⟩ := pairs_mem hd
      exact ev_var rfl
    · rw [odd_end]
/-! ### checks, seams, after -/
theorem endB_in {r c e : Int} (h1 : 2 ≤ r) (h2 : r ≤ 5) (h3 : 2 ≤ c) (h4 : c ≤ 5) (h : 0 ≤ e ∧ e < 2 * (r * c)) : 0 ≤ endB r c e ∧ endB r c e < r * c := by
  unfold endB
  have hp : 0 < r * c := Int.mul_pos (by omega) (by omega)
  split
  · unfold belowI
    exact ⟨Int.emod_nonneg _ (by omega), Int.emod_lt_of_pos _ hp⟩
  · unfold rightI
    have hs : 0 ≤ e / 2 ∧ e / 2 < r * c := by omega
    generalize e / 2 = s at hs
    have a1 := Int.emod_nonneg s (show c ≠ 0 by omega)
    have a2 := Int.emod_lt_of_pos s (show 0 < c by omega)
    have a3 := Int.emod_nonneg (s + 1) (show c ≠ 0 by omega)
    have a4 := Int.emod_lt_of_pos (s + 1) (show 0 < c by omega)
    have e1 : s = c * (s / c) + s % c := (Int.mul_ediv_add_emod s c).symm
    have q0 : 0 ≤ s / c := Int.ediv_nonneg hs.1 (by omega)
    have q1 : s / c < r := Int.ediv_lt_of_lt_mul (by omega) (by rw [Int.mul_comm] at hs; rw [Int.mul_comm]; exact hs.2)
    have q2 : c * (s / c) + c ≤ r * c := by
      have := Int.mul_le_mul_of_nonneg_left (show s / c + 1 ≤ r by omega) (show 0 ≤ c by omega)
      rw [Int.mul_add, Int.mul_one, Int.mul_comm c r] at this
      exact this
    have q3 : 0 ≤ c * (s / c) := Int.mul_nonneg (by omega) q0
    omega
def endsL (r c : Int) (l : List Int) : List Int := l.flatMap fun e => [e / 2, endB r c e]
def litF (r c : Int) (l : List Int) (k : Nat) : Bool := decide ((endsL r c l).count (k : Int) % 2 = 1)
abbrev s_checks : Stmt := topS 22
abbrev N_checks : List Str := ["board", "flips", "ends", "edge", "site"]
theorem sc_checks : FnScope N_checks ["board", "flips"] (defScope s_checks) := ⟨rfl, rfl, rfl, by decide +kernel, rfl, by decide +kernel, by decide +kernel⟩
theorem bi_checks : BindsAt "checks" s_checks ["board", "flips"] := fun _ _ _ _ _ _ us hl => match us, hl with | [_, _], _ => rfl

def Brd (r c : Nat) : Prop := 2 ≤ r ∧ r ≤ 5 ∧ 2 ≤ c ∧ c ≤ 5
def F_checks (ds : List Dt) (d : Dt) : Prop := ∃ (r c : Nat) (l : List Int), ds = [bd r c, ti l] ∧ Brd r c ∧ Rise (2 * (r * c) : Nat) l ∧ d = ti (sel (r * c) (litF r c l))
theorem rise_len {n : Nat} {l : List Int} (h : Rise (n : Int) l) : l.length ≤ n := by
  rw [sel_of h.1 h.2]
  exact sel_len _ _
theorem ok_checks (A : FnAt K mg "checks" s_checks) (h_require_board : Has P w K mg base "require_board" 3 ["board"] (spD K F_require_board)) (h_require_flips : Has P w K mg base "require_flips" 3 ["board", "flips"] (spD K F_require_flips))
    (h_odd_ones : Has P w K mg base "odd_ones" 1 ["numbers", "many"] (spD K F_odd_ones)) (h_site_count : Has P w K mg base "site_count" 1 ["board"] (spD K F_site_count)) (h_edge_ends : Has P w K mg base "edge_ends" 3 ["board", "edge"] (spD K F_edge_ends)) : Has P w K mg base "checks" 4 ["board", "flips"] (spD K F_checks) := by
  have nd := sc_checks.nd
  refine has_pure A bi_checks sc_checks (fun ds d ⟨_, _, _, h, _⟩ => by rw [h]; rfl) fun cdv f A outer s H E hr => ⟨_, (pss_cons (ps_expr (ca h_require_board hr (by rfl) (pa_cons (pv 0) pa_nil)))
    (pss_cons (ps_expr (ca h_require_flips hr (by rfl) (pa_cons (pv 0) (pa_cons (pv 1) pa_nil))))
    (pss_cons (ps_setLc2 (i := 2) (own := [("edge", 3), ("site", 4)]) (vs1 := [4]) (g := gName 3) (g1 := gName 4) (tt := tYes) (tt1 := tYes) (by rfl) nd rfl rfl (sw_true rfl rfl rfl (by decide +kernel)) (pi_tupK (K := K) (by rfl) (pv 1)) (blkOk_by (own := [("edge", 3), ("site", 4)]) (N := N_checks) (sc := defScope s_checks) (by decide +kernel)) (by decide) (fun _ _ _ _ _ => (pg_name (i := 3) nd rfl (by first | exact .inl rfl | exact .inr rfl))) (fun _ _ _ _ _ => pts_nil) (fun _ _ _ _ _ => (pi_tupK (K := K) (by rfl) (ca h_edge_ends hr (by rfl) (pa_cons (pv 0) (pa_cons (pv 3) pa_nil))))) (fun _ _ _ _ _ => (pg_name (i := 4) nd rfl (by first | exact .inl rfl | exact .inr rfl))) (fun _ _ _ _ _ => pts_nil) (fun _ _ _ _ _ => (pv 4)))
    (pss_one (ps_ret (ca h_odd_ones (hr.mono (by decide)) (by rfl) (pa_cons (pv 2) (pa_cons (ca h_site_count (hr.mono (by decide)) (by rfl) (pa_cons (pv 0) pa_nil)) pa_nil)))))))), fun ds d hF => .inl ?_⟩
  obtain ⟨r, c, l, rfl, ⟨h1, h2, h3, h4⟩, hR, rfl⟩ := hF
  have hrc : (((r * c : Nat) : Int)) = (r : Int) * c := Int.natCast_mul r c
  have hR' : Rise (2 * ((r : Int) * c)) l := by rw [← hrc]; simpa using hR
  have hrc25 : r * c ≤ 25 := Nat.mul_le_mul h2 h4
  have hlen := rise_len hR
  refine sx_do (ev_call (F := F_require_board) (ea_cons (ev_var rfl) ea_nil) ⟨r, c, rfl, by omega, by omega, by omega, by omega, rfl⟩)
    (sx_do (ev_call (F := F_require_flips) (ea_cons (ev_var rfl) (ea_cons (ev_var rfl) ea_nil)) ⟨r, c, l, rfl, by omega, by omega, by omega, by omega, hR', rfl⟩) ?_)
  have ee : (l.map PyData.int).flatMap (fun d => ((match d with | .int e => [PyData.int (e / 2), .int (endB r c e)] | _ => [] : List Dt)).map fun y => y) = (endsL r c l).map .int := by
    unfold endsL
    rw [List.flatMap_map, List.map_flatMap]
    rfl
  refine sx_letL (en_is (en_lc2 (K := K) (Δ := [some (.d (bd r c)), some (.d (ti l)), none, none, none]) (ds := l.map .int) (js := [3]) (js1 := [4]) (vs := [3, 4]) (vs1 := [4])
    (fun d => match d with | .int e => [.int (e / 2), .int (endB r c e)] | _ => []) (fun _ y => y) (fun d => [some (.d (bd r c)), some (.d (ti l)), none, some (.d d), none]) (fun d y => [some (.d (bd r c)), some (.d (ti l)), none, some (.d d), some (.d y)])
    (ei_tup (ev_var rfl)) (by rw [List.length_map]; omega) (fun d hd => by obtain ⟨e, _, rfl⟩ := List.mem_map.mp hd; show 2 ≤ 100; decide) (by simp) (by simp) (fun d hd => eg_name) (fun d hd => by
      obtain ⟨e, _, rfl⟩ := List.mem_map.mp hd
      exact ei_tup (ev_call (F := F_edge_ends) (ea_cons (ev_var rfl) (ea_cons (ev_var rfl) ea_nil)) ⟨r, c, e, rfl, by omega, by omega, by omega, by omega, rfl⟩))
    (fun d hd y hy => eg_name) (fun d hd y hy => ev_var rfl)) ee) (sx_ret (ev_call (F := F_odd_ones) (ea_cons (ev_varL rfl) (ea_cons (ev_call (F := F_site_count) (ea_cons (ev_var rfl) ea_nil) ⟨r, c, rfl, by omega, by omega, by omega, by omega, rfl⟩) ea_nil)) ⟨endsL r c l, r * c, .inr (by rw [hrc]), by omega, fun x hx => ?_, rfl⟩))
  unfold endsL at hx
  obtain ⟨e, he, hx⟩ := List.mem_flatMap.mp hx
  have hb := hR'.2 e he
  have hE := endB_in (r := r) (c := c) (by omega) (by omega) (by omega) (by omega) hb
  rw [hrc]
  simp only [List.mem_cons, List.not_mem_nil, or_false] at hx
  rcases hx with rfl | rfl
  · omega
  · exact hE
abbrev s_seams : Stmt := topS 23
abbrev N_seams : List Str := ["board", "flips", "first", "edge", "second"]
theorem sc_seams : FnScope N_seams ["board", "flips"] (defScope s_seams) := ⟨rfl, rfl, rfl, by decide +kernel, rfl, by decide +kernel, by decide +kernel⟩
theorem bi_seams : BindsAt "seams" s_seams ["board", "flips"] := fun _ _ _ _ _ _ us hl => match us, hl with | [_, _], _ => rfl

def parI (f : Int → Bool) (l : List Int) : Int := (((l.filter f).length : Nat) : Int) % 2
def F_seams (ds : List Dt) (d : Dt) : Prop := ∃ (r c : Nat) (l : List Int), ds = [bd r c, ti l] ∧ Brd r c ∧ Rise (2 * (r * c) : Nat) l ∧ d = bd (parI (crA r c) l) (parI (crB r c) l)
theorem filter_ints (f : Int → Bool) (l : List Int) (g : Dt → Bool) (h : ∀ e, g (.int e) = f e) : ((l.map PyData.int).filter g).map (fun y => y) = (l.filter f).map .int := by
  rw [List.filter_map]
  have e : (g ∘ PyData.int) = f := funext h
  rw [e]
  simp
theorem ok_seams (A : FnAt K mg "seams" s_seams) (b_len : mg "len" = none) (h_require_board : Has P w K mg base "require_board" 3 ["board"] (spD K F_require_board)) (h_require_flips : Has P w K mg base "require_flips" 3 ["board", "flips"] (spD K F_require_flips))
    (h_crosses_first_seam : Has P w K mg base "crosses_first_seam" 2 ["board", "edge"] (spD K F_crA)) (h_crosses_second_seam : Has P w K mg base "crosses_second_seam" 2 ["board", "edge"] (spD K F_crB)) : Has P w K mg base "seams" 4 ["board", "flips"] (spD K F_seams) := by
  have nd := sc_seams.nd
  refine has_pure A bi_seams sc_seams (fun ds d ⟨_, _, _, h, _⟩ => by rw [h]; rfl) fun cdv f A outer s H E hr => ⟨_, (pss_cons (ps_expr (ca h_require_board hr (by rfl) (pa_cons (pv 0) pa_nil)))
    (pss_cons (ps_expr (ca h_require_flips hr (by rfl) (pa_cons (pv 0) (pa_cons (pv 1) pa_nil))))
    (pss_cons (ps_setLc (i := 2) (own := [("edge", 3)]) (g := gName 3) (by rfl) nd rfl rfl (sw_true rfl rfl rfl (by decide +kernel)) (pi_tupK (K := K) (by rfl) (pv 1)) (blkOk_by (own := [("edge", 3)]) (N := N_seams) (sc := defScope s_seams) (by decide +kernel)) (fun _ _ _ _ _ => (pg_name (i := 3) nd rfl (by first | exact .inl rfl | exact .inr rfl))) (fun _ _ _ _ _ => (pts_one (pt_val (ca h_crosses_first_seam (hr.mono (by decide)) (by rfl) (pa_cons (pv 0) (pa_cons (pv 3) pa_nil)))))) (fun _ _ _ _ _ => (pv 3)))
    (pss_cons (ps_setLc (i := 4) (own := [("edge", 3)]) (g := gName 3) (by rfl) nd rfl rfl (sw_true rfl rfl rfl (by decide +kernel)) (pi_tupK (K := K) (by rfl) (pv 1)) (blkOk_by (own := [("edge", 3)]) (N := N_seams) (sc := defScope s_seams) (by decide +kernel)) (fun _ _ _ _ _ => (pg_name (i := 3) nd rfl (by first | exact .inl rfl | exact .inr rfl))) (fun _ _ _ _ _ => (pts_one (pt_val (ca h_crosses_second_seam (hr.mono (by decide)) (by rfl) (pa_cons (pv 0) (pa_cons (pv 3) pa_nil)))))) (fun _ _ _ _ _ => (pv 3)))
    (pss_one (ps_ret (pe_tup (pa_cons (pe_op op_mod (pe_callB (kc_len (K := K) (by rfl)) (by rfl) b_len (by decide +kernel) (pa_cons (pv 2) pa_nil)) pe_int) (pa_cons (pe_op op_mod (pe_callB (kc_len (K := K) (by rfl)) (by rfl) b_len (by decide +kernel) (pa_cons (pv 4) pa_nil)) pe_int) pa_nil))))))))), fun ds d hF => .inl ?_⟩
  obtain ⟨r, c, l, rfl, ⟨h1, h2, h3, h4⟩, hR, rfl⟩ := hF
  have hrc : (((r * c : Nat) : Int)) = (r : Int) * c := Int.natCast_mul r c
  have hR' : Rise (2 * ((r : Int) * c)) l := by rw [← hrc]; simpa using hR
  have hrc25 : r * c ≤ 25 := Nat.mul_le_mul h2 h4
  have hlen := rise_len hR
  refine sx_do (ev_call (F := F_require_board) (ea_cons (ev_var rfl) ea_nil) ⟨r, c, rfl, by omega, by omega, by omega, by omega, rfl⟩)
    (sx_do (ev_call (F := F_require_flips) (ea_cons (ev_var rfl) (ea_cons (ev_var rfl) ea_nil)) ⟨r, c, l, rfl, by omega, by omega, by omega, by omega, hR', rfl⟩) ?_)
  refine sx_letL (en_is (en_lc (K := K) (ds := l.map .int) (js := [3]) (vs := [3]) (fun d => match d with | .int e => crA r c e | _ => false) (fun y => y) (fun d => [some (.d (bd r c)), some (.d (ti l)), none, some (.d d), none])
    (ei_tup (ev_var rfl)) (by rw [List.length_map]; omega) (by simp) (fun d hd => eg_name) (fun d hd => by
      obtain ⟨e, _, rfl⟩ := List.mem_map.mp hd
      exact et_B (ev_call (F := F_crA) (ea_cons (ev_var rfl) (ea_cons (ev_var rfl) ea_nil)) ⟨r, c, e, rfl, by omega, by omega, rfl⟩)) (fun d hd hp => ev_var rfl)) (filter_ints (crA r c) l _ fun _ => rfl)) ?_
  refine sx_letL (en_is (en_lc (K := K) (ds := l.map .int) (js := [3]) (vs := [3]) (fun d => match d with | .int e => crB r c e | _ => false) (fun y => y) (fun d => [some (.d (bd r c)), some (.d (ti l)), some (.l ((l.filter (crA r c)).map .int)), some (.d d), none])
    (ei_tup (ev_var rfl)) (by rw [List.length_map]; omega) (by simp) (fun d hd => eg_name) (fun d hd => by
      obtain ⟨e, _, rfl⟩ := List.mem_map.mp hd
      exact et_B (ev_call (F := F_crB) (ea_cons (ev_var rfl) (ea_cons (ev_var rfl) ea_nil)) ⟨r, c, e, rfl, by omega, by omega, rfl⟩)) (fun d hd hp => ev_var rfl)) (filter_ints (crB r c) l _ fun _ => rfl)) ?_
  refine sx_ret (ev_is (ev_tup (ea_cons (ev_op (ev_cb (ea_cons (ev_varL rfl) ea_nil) rc_lenL) ev_int (rv_I (by show (0 : Int) < 2; decide))) (ea_cons (ev_op (ev_cb (ea_cons (ev_varL rfl) ea_nil) rc_lenL) ev_int (rv_I (by show (0 : Int) < 2; decide))) ea_nil)) (by show 2 ≤ 100000; decide)) ?_)
  unfold parI
  rw [List.length_map, List.length_map]
abbrev s_after : Stmt := topS 24
abbrev N_after : List Str := ["board", "one", "other"]
theorem sc_after : FnScope N_after ["board", "one", "other"] (defScope s_after) := ⟨rfl, rfl, rfl, by decide +kernel, rfl, by decide +kernel, by decide +kernel⟩
theorem bi_after : BindsAt "after" s_after ["board", "one", "other"] := fun _ _ _ _ _ _ us hl => match us, hl with | [_, _, _], _ => rfl

def F_after (ds : List Dt) (d : Dt) : Prop := ∃ (r c : Nat) (l m : List Int), ds = [bd r c, ti l, ti m] ∧ Brd r c ∧ Rise (2 * (r * c) : Nat) l ∧ Rise (2 * (r * c) : Nat) m ∧ d = ti (sel (2 * (r * c)) fun k => decide ((l ++ m).count (k : Int) % 2 = 1))
theorem ok_after (A : FnAt K mg "after" s_after) (h_require_board : Has P w K mg base "require_board" 3 ["board"] (spD K F_require_board)) (h_require_flips : Has P w K mg base "require_flips" 3 ["board", "flips"] (spD K F_require_flips))
    (h_odd_ones : Has P w K mg base "odd_ones" 1 ["numbers", "many"] (spD K F_odd_ones)) (h_edge_count : Has P w K mg base "edge_count" 2 ["board"] (spD K F_edge_count)) : Has P w K mg base "after" 4 ["board", "one", "other"] (spD K F_after) := by
  have nd := sc_after.nd
  refine has_pure A bi_after sc_after (fun ds d ⟨_, _, _, _, h, _⟩ => by rw [h]; rfl) fun cdv f A outer s H E hr => ⟨_, (pss_cons (ps_expr (ca h_require_board hr (by rfl) (pa_cons (pv 0) pa_nil)))
    (pss_cons (ps_expr (ca h_require_flips hr (by rfl) (pa_cons (pv 0) (pa_cons (pv 1) pa_nil))))
    (pss_cons (ps_expr (ca h_require_flips hr (by rfl) (pa_cons (pv 0) (pa_cons (pv 2) pa_nil))))
    (pss_one (ps_ret (ca h_odd_ones (hr.mono (by decide)) (by rfl) (pa_cons (pe_op (op_catAK (K := K) (by rfl)) (pv 1) (pv 2)) (pa_cons (ca h_edge_count (hr.mono (by decide)) (by rfl) (pa_cons (pv 0) pa_nil)) pa_nil)))))))), fun ds d hF => .inl ?_⟩
  obtain ⟨r, c, l, m, rfl, ⟨h1, h2, h3, h4⟩, hR, hS, rfl⟩ := hF
  have hrc : (((r * c : Nat) : Int)) = (r : Int) * c := Int.natCast_mul r c
  have hR' : Rise (2 * ((r : Int) * c)) l := by rw [← hrc]; simpa using hR
  have hS' : Rise (2 * ((r : Int) * c)) m := by rw [← hrc]; simpa using hS
  have hrc25 : r * c ≤ 25 := Nat.mul_le_mul h2 h4
  have hlen := rise_len hR
  have hlen2 := rise_len hS
  refine sx_do (ev_call (F := F_require_board) (ea_cons (ev_var rfl) ea_nil) ⟨r, c, rfl, by omega, by omega, by omega, by omega, rfl⟩)
    (sx_do (ev_call (F := F_require_flips) (ea_cons (ev_var rfl) (ea_cons (ev_var rfl) ea_nil)) ⟨r, c, l, rfl, by omega, by omega, by omega, by omega, hR', rfl⟩)
    (sx_do (ev_call (F := F_require_flips) (ea_cons (ev_var rfl) (ea_cons (ev_var rfl) ea_nil)) ⟨r, c, m, rfl, by omega, by omega, by omega, by omega, hS', rfl⟩) ?_))
  refine sx_ret (ev_call (F := F_odd_ones) (ea_cons (ev_op (ev_var rfl) (ev_var rfl) (rv_catA (by rw [List.length_map, List.length_map]; omega))) (ea_cons (ev_call (F := F_edge_count) (ea_cons (ev_var rfl) ea_nil) ⟨r, c, rfl, by omega, by omega, by omega, by omega, rfl⟩) ea_nil))
    ⟨l ++ m, 2 * (r * c), .inl (by rw [← List.map_append, Int.natCast_mul, hrc]; rfl), by omega, fun x hx => ?_, rfl⟩)
  rcases List.mem_append.mp hx with hx | hx
  · exact hR.2 x hx
  · exact hS.2 x hx
end
end Sb

namespace Sb
open PySem PySem.Spec PyProof.Rows L2
section
variable {P : Program} {w : World} {K : PySem.W.Frag} {mg : Str → Option Value} {base : Heap}
/-! ### faces -/
abbrev s_require_faces : Stmt := topS 26
abbrev N_require_faces : List Str := ["board", "faces", "place"]
theorem sc_require_faces : FnScope N_require_faces ["board", "faces"] (defScope s_require_faces) := ⟨rfl, rfl, rfl, by decide +kernel, rfl, by decide +kernel, by decide +kernel⟩
theorem bi_require_faces : BindsAt "require_faces" s_require_faces ["board", "faces"] := fun _ _ _ _ _ _ us hl => match us, hl with | [_, _], _ => rfl

def F_require_faces (ds : List Dt) (d : Dt) : Prop := ∃ (r c : Int) (l : List Int), ds = [bd r c, ti l] ∧ 2 ≤ r ∧ r ≤ 5 ∧ 2 ≤ c ∧ c ≤ 5 ∧ Rise (r * c) l ∧ d = .none
theorem ok_require_faces (A : FnAt K mg "require_faces" s_require_faces) (h_first_misplaced : Has P w K mg base "first_misplaced" 2 ["things", "many"] (spD K F_first_misplaced)) (h_site_count : Has P w K mg base "site_count" 1 ["board"] (spD K F_site_count)) : Has P w K mg base "require_faces" 3 ["board", "faces"] (spD K F_require_faces) := by
  have nd := sc_require_faces.nd
  refine has_pure A bi_require_faces sc_require_faces (fun ds d ⟨_, _, _, h, _⟩ => by rw [h]; rfl) fun cdv f A outer s H E hr => ⟨_, (pss_cons (ps_set (i := 2) nd rfl (by first | exact .inl rfl | exact .inr rfl) (ca h_first_misplaced hr (by rfl) (pa_cons (pv 1) (pa_cons (ca h_site_count (hr.mono (by decide)) (by rfl) (pa_cons (pv 0) pa_nil)) pa_nil))))
    (pss_one (ps_if (pt_cmpR op_notN (pv 2) pe_non (nomark _)) (pss_one ps_never) pss_nil))), fun ds d hF => .inr ?_⟩
  obtain ⟨r, c, l, rfl, h1, h2, h3, h4, hR, rfl⟩ := hF
  exact ⟨rfl, _, sx_let (ev_call (F := F_first_misplaced) (ea_cons (ev_var rfl) (ea_cons (ev_call (F := F_site_count) (ea_cons (ev_var rfl) ea_nil) ⟨r, c, rfl, h1, h2, h3, h4, rfl⟩) ea_nil)) ⟨l, _, rfl, hR, rfl⟩)
    (sx_pass1 (et_test (ev_op (ev_var rfl) ev_non rv_notN)))⟩
abbrev s_edges_round : Stmt := topS 27
abbrev N_edges_round : List Str := ["board", "face", "lower", "righter"]
theorem sc_edges_round : FnScope N_edges_round ["board", "face"] (defScope s_edges_round) := ⟨rfl, rfl, rfl, by decide +kernel, rfl, by decide +kernel, by decide +kernel⟩
theorem bi_edges_round : BindsAt "edges_round" s_edges_round ["board", "face"] := fun _ _ _ _ _ _ us hl => match us, hl with | [_, _], _ => rfl

def rnd (r c f : Int) : List Int := [2 * f, 2 * f + 1, 2 * belowI r c f, 2 * rightI c f + 1]
def F_edges_round (ds : List Dt) (d : Dt) : Prop := ∃ r c f : Int, ds = [bd r c, .int f] ∧ 2 ≤ r ∧ r ≤ 5 ∧ 2 ≤ c ∧ c ≤ 5 ∧ d = ti (rnd r c f)
theorem ok_edges_round (A : FnAt K mg "edges_round" s_edges_round) (h_site_below : Has P w K mg base "site_below" 2 ["board", "site"] (spD K F_site_below)) (h_site_right_of : Has P w K mg base "site_right_of" 1 ["board", "site"] (spD K F_site_right_of)) : Has P w K mg base "edges_round" 3 ["board", "face"] (spD K F_edges_round) := by
  have nd := sc_edges_round.nd
  refine has_pure A bi_edges_round sc_edges_round (fun ds d ⟨_, _, _, h, _⟩ => by rw [h]; rfl) fun cdv f A outer s H E hr => ⟨_, (pss_cons (ps_set (i := 2) nd rfl (by first | exact .inl rfl | exact .inr rfl) (ca h_site_below hr (by rfl) (pa_cons (pv 0) (pa_cons (pv 1) pa_nil))))
    (pss_cons (ps_set (i := 3) nd rfl (by first | exact .inl rfl | exact .inr rfl) (ca h_site_right_of (hr.mono (by decide)) (by rfl) (pa_cons (pv 0) (pa_cons (pv 1) pa_nil))))
    (pss_one (ps_ret (pe_tup (pa_cons (pe_op op_mul pe_int (pv 1)) (pa_cons (pe_op op_add (pe_op op_mul pe_int (pv 1)) pe_int) (pa_cons (pe_op op_mul pe_int (pv 2)) (pa_cons (pe_op op_add (pe_op op_mul pe_int (pv 3)) pe_int) pa_nil))))))))), fun ds d hF => .inl ?_⟩
  obtain ⟨r, c, e, rfl, h1, h2, h3, h4, rfl⟩ := hF
  have m2 : ∀ x : Int, CMul 2 x := fun x => cmul ⟨by decide, by decide⟩
  exact sx_let (ev_call (F := F_site_below) (ea_cons (ev_var rfl) (ea_cons (ev_var rfl) ea_nil)) ⟨r, c, e, rfl, h1, h2, h3, h4, rfl⟩)
    (sx_let (ev_call (F := F_site_right_of) (ea_cons (ev_var rfl) (ea_cons (ev_var rfl) ea_nil)) ⟨r, c, e, rfl, h3, h4, rfl⟩)
    (sx_ret (ev_tup (ea_cons (ev_op ev_int (ev_var rfl) (rv_I (m2 _))) (ea_cons (ev_op (ev_op ev_int (ev_var rfl) (rv_I (m2 _))) ev_int rv_I0) (ea_cons (ev_op ev_int (ev_var rfl) (rv_I (m2 _))) (ea_cons (ev_op (ev_op ev_int (ev_var rfl) (rv_I (m2 _))) ev_int rv_I0) ea_nil)))) (by show 4 ≤ 100000; decide))))
theorem right_in {r c s : Int} (h3 : 2 ≤ c) (h : 0 ≤ s ∧ s < r * c) (h1 : 2 ≤ r) (h2 : r ≤ 5) (h4 : c ≤ 5) : 0 ≤ rightI c s ∧ rightI c s < r * c := by
  have e := endB_in (e := 2 * s) h1 h2 h3 h4 ⟨by omega, by omega⟩
  unfold endB at e
  rw [if_neg (by omega), show 2 * s / 2 = s by omega] at e
  exact e
theorem below_in {r c s : Int} (h3 : 2 ≤ c) (h1 : 2 ≤ r) : 0 ≤ belowI r c s ∧ belowI r c s < r * c := by
  have hp : 0 < r * c := Int.mul_pos (by omega) (by omega)
  exact ⟨Int.emod_nonneg _ (by omega), Int.emod_lt_of_pos _ hp⟩
theorem rnd_len (r c : Int) : ∀ m : List Int, (m.flatMap (rnd r c)).length = 4 * m.length
  | [] => rfl
  | x :: m => by
    rw [List.flatMap_cons, List.length_append, rnd_len r c m]
    show 4 + 4 * m.length = 4 * (m.length + 1)
    omega
abbrev s_turned : Stmt := topS 28
abbrev N_turned : List Str := ["board", "flips", "faces", "more", "face", "edge"]
theorem sc_turned : FnScope N_turned ["board", "flips", "faces"] (defScope s_turned) := ⟨rfl, rfl, rfl, by decide +kernel, rfl, by decide +kernel, by decide +kernel⟩
theorem bi_turned : BindsAt "turned" s_turned ["board", "flips", "faces"] := fun _ _ _ _ _ _ us hl => match us, hl with | [_, _, _], _ => rfl

def F_turned (ds : List Dt) (d : Dt) : Prop := ∃ (r c : Nat) (l m : List Int), ds = [bd r c, ti l, ti m] ∧ Brd r c ∧ Rise (2 * (r * c) : Nat) l ∧ Rise (r * c : Nat) m ∧ d = ti (sel (2 * (r * c)) fun k => decide ((l ++ m.flatMap (rnd r c)).count (k : Int) % 2 = 1))
theorem ok_turned (A : FnAt K mg "turned" s_turned) (h_require_board : Has P w K mg base "require_board" 3 ["board"] (spD K F_require_board)) (h_require_flips : Has P w K mg base "require_flips" 3 ["board", "flips"] (spD K F_require_flips)) (h_require_faces : Has P w K mg base "require_faces" 3 ["board", "faces"] (spD K F_require_faces))
    (h_odd_ones : Has P w K mg base "odd_ones" 1 ["numbers", "many"] (spD K F_odd_ones)) (h_edge_count : Has P w K mg base "edge_count" 2 ["board"] (spD K F_edge_count)) (h_edges_round : Has P w K mg base "edges_round" 3 ["board", "face"] (spD K F_edges_round)) : Has P w K mg base "turned" 4 ["board", "flips", "faces"] (spD K F_turned) := by
  have nd := sc_turned.nd
  refine has_pure A bi_turned sc_turned (fun ds d ⟨_, _, _, _, h, _⟩ => by rw [h]; rfl) fun cdv f A outer s H E hr => ⟨_, (pss_cons (ps_expr (ca h_require_board hr (by rfl) (pa_cons (pv 0) pa_nil)))
    (pss_cons (ps_expr (ca h_require_flips hr (by rfl) (pa_cons (pv 0) (pa_cons (pv 1) pa_nil))))
    (pss_cons (ps_expr (ca h_require_faces hr (by rfl) (pa_cons (pv 0) (pa_cons (pv 2) pa_nil))))
    (pss_cons (ps_setLc2 (i := 3) (own := [("face", 4), ("edge", 5)]) (vs1 := [5]) (g := gName 4) (g1 := gName 5) (tt := tYes) (tt1 := tYes) (by rfl) nd rfl rfl (sw_true rfl rfl rfl (by decide +kernel)) (pi_tupK (K := K) (by rfl) (pv 2)) (blkOk_by (own := [("face", 4), ("edge", 5)]) (N := N_turned) (sc := defScope s_turned) (by decide +kernel)) (by decide) (fun _ _ _ _ _ => (pg_name (i := 4) nd rfl (by first | exact .inl rfl | exact .inr rfl))) (fun _ _ _ _ _ => pts_nil) (fun _ _ _ _ _ => (pi_tupK (K := K) (by rfl) (ca h_edges_round hr (by rfl) (pa_cons (pv 0) (pa_cons (pv 4) pa_nil))))) (fun _ _ _ _ _ => (pg_name (i := 5) nd rfl (by first | exact .inl rfl | exact .inr rfl))) (fun _ _ _ _ _ => pts_nil) (fun _ _ _ _ _ => (pv 5)))
    (pss_one (ps_ret (ca h_odd_ones (hr.mono (by decide)) (by rfl) (pa_cons (pe_lst (pa_starK (K := K) (by rfl) (pv 1) (pa_starK (K := K) (by rfl) (pv 3) pa_nil))) (pa_cons (ca h_edge_count (hr.mono (by decide)) (by rfl) (pa_cons (pv 0) pa_nil)) pa_nil))))))))), fun ds d hF => .inl ?_⟩
  obtain ⟨r, c, l, m, rfl, ⟨h1, h2, h3, h4⟩, hR, hS, rfl⟩ := hF
  have hrc : (((r * c : Nat) : Int)) = (r : Int) * c := Int.natCast_mul r c
  have hR' : Rise (2 * ((r : Int) * c)) l := by rw [← hrc]; simpa using hR
  have hS' : Rise ((r : Int) * c) m := by rw [← hrc]; exact hS
  have hrc25 : r * c ≤ 25 := Nat.mul_le_mul h2 h4
  have hlen := rise_len hR
  have hlen2 := rise_len hS
  refine sx_do (ev_call (F := F_require_board) (ea_cons (ev_var rfl) ea_nil) ⟨r, c, rfl, by omega, by omega, by omega, by omega, rfl⟩)
    (sx_do (ev_call (F := F_require_flips) (ea_cons (ev_var rfl) (ea_cons (ev_var rfl) ea_nil)) ⟨r, c, l, rfl, by omega, by omega, by omega, by omega, hR', rfl⟩)
    (sx_do (ev_call (F := F_require_faces) (ea_cons (ev_var rfl) (ea_cons (ev_var rfl) ea_nil)) ⟨r, c, m, rfl, by omega, by omega, by omega, by omega, hS', rfl⟩) ?_))
  have ee : (m.map PyData.int).flatMap (fun d => ((match d with | .int e => (rnd r c e).map PyData.int | _ => [] : List Dt)).map fun y => y) = (m.flatMap (rnd r c)).map .int := by
    rw [List.flatMap_map, List.map_flatMap]
    rfl
  refine sx_letL (en_is (en_lc2 (K := K) (Δ := [some (.d (bd r c)), some (.d (ti l)), some (.d (ti m)), none, none, none]) (ds := m.map .int) (js := [4]) (js1 := [5]) (vs := [4, 5]) (vs1 := [5])
    (fun d => match d with | .int e => (rnd r c e).map PyData.int | _ => []) (fun _ y => y) (fun d => [some (.d (bd r c)), some (.d (ti l)), some (.d (ti m)), none, some (.d d), none]) (fun d y => [some (.d (bd r c)), some (.d (ti l)), some (.d (ti m)), none, some (.d d), some (.d y)])
    (ei_tup (ev_var rfl)) (by rw [List.length_map]; omega) (fun d hd => by obtain ⟨e, _, rfl⟩ := List.mem_map.mp hd; show 4 ≤ 100; decide) (by simp) (by simp) (fun d hd => eg_name) (fun d hd => by
      obtain ⟨e, _, rfl⟩ := List.mem_map.mp hd
      exact ei_tup (ev_call (F := F_edges_round) (ea_cons (ev_var rfl) (ea_cons (ev_var rfl) ea_nil)) ⟨r, c, e, rfl, by omega, by omega, by omega, by omega, rfl⟩))
    (fun d hd y hy => eg_name) (fun d hd y hy => ev_var rfl)) ee) ?_
  have hml := rnd_len (r : Int) (c : Int) m
  refine sx_ret (ev_call (F := F_odd_ones) (ea_cons (ev_of (en_lst (ea_starT (ev_var rfl) (ea_starL (ev_varL rfl) ea_nil)) ?_)) (ea_cons (ev_call (F := F_edge_count) (ea_cons (ev_var rfl) ea_nil) ⟨r, c, rfl, by omega, by omega, by omega, by omega, rfl⟩) ea_nil))
    ⟨l ++ m.flatMap (rnd r c), 2 * (r * c), .inr (by rw [List.append_nil, ← List.map_append, Int.natCast_mul, hrc]; rfl), by omega, fun x hx => ?_, rfl⟩)
  · rw [List.append_nil, List.length_append, List.length_map, List.length_map]; omega
  rcases List.mem_append.mp hx with hx | hx
  · exact hR.2 x hx
  · obtain ⟨e, he, hx⟩ := List.mem_flatMap.mp hx
    have hb := hS'.2 e he
    have b1 := below_in (r := r) (c := c) (s := e) (by omega) (by omega)
    have b2 := right_in (r := r) (c := c) (by omega) hb (by omega) (by omega) (by omega)
    have h2rc : (((2 * (r * c) : Nat) : Int)) = 2 * ((r : Int) * c) := by rw [Int.natCast_mul, hrc]; rfl
    rw [h2rc]
    unfold rnd at hx
    simp only [List.mem_cons, List.not_mem_nil, or_false] at hx
    rcases hx with rfl | rfl | rfl | rfl <;> omega
end
end Sb

namespace Sb
open PySem PySem.Spec PyProof.Rows L2
section
variable {P : Program} {w : World} {K : PySem.W.Frag} {mg : Str → Option Value} {base : Heap}
/-! ### the law's own draws -/
theorem StpR.put {L : Addr} {G H G2 H2 : Hp} {o : HO} (s : StpR L G H G2 H2) (h : G2 L = none) : StpR L G H G2 (upd H2 L o) :=
  ⟨s.g, fun a u e => by
    have : a ≠ L := fun q => by rw [q, h] at e; cases e
    rw [upd_ne this]; exact s.s a u e, fun a u n e => by rw [upd_ne n]; exact s.h a u n e, s.f⟩
abbrev s__law_taken : Stmt := topS 32
abbrev N__law_taken : List Str := ["_law_row", "_law_many", "_law_found", "_law_cell"]
theorem sc__law_taken : FnScope N__law_taken ["_law_row", "_law_many"] (defScope s__law_taken) := ⟨rfl, rfl, rfl, by decide +kernel, rfl, by decide +kernel, by decide +kernel⟩
theorem bi__law_taken : BindsAt "_law_taken" s__law_taken ["_law_row", "_law_many"] := fun _ _ _ _ _ _ us hl => match us, hl with | [_, _], _ => rfl

def Pre_taken (ds : List Dt) : Prop := ∃ m : Int, ds = [.int m] ∧ 0 < m ∧ m < 1073741824
def F_taken (ds : List Dt) (d : Dt) : Prop := ∃ m k : Int, ds = [.int m] ∧ d = .int k ∧ 0 ≤ k ∧ k < m
theorem ok__law_taken (A : FnAt K mg "_law_taken" s__law_taken) (b_len : mg "len" = none) : Has P w K mg base "_law_taken" 1 ["_law_row", "_law_many"] (spR K Pre_taken F_taken) := by
  have nd := sc__law_taken.nd
  refine has_row A bi__law_taken sc__law_taken (fun ds ⟨_, h, _⟩ => by rw [h]; rfl) fun cdv f A outer s H E hr => ⟨_, (pss_cons (ps_if (pt_cmpR op_gt (pe_ix (ix_listK (K := K) (by rfl)) (pv 0) pe_int (fun _ _ => rfl)) pe_int (nomark _)) (pss_cons (ps_set (i := 2) nd rfl (by first | exact .inl rfl | exact .inr rfl) (pe_op op_mod (pe_ix (ix_listK (K := K) (by rfl)) (pv 0) pe_int (fun _ _ => rfl)) (pv 1)))
    (pss_cons (ps_asg (pe_op op_fdiv (pe_ix (ix_listK (K := K) (by rfl)) (pv 0) pe_int (fun _ _ => rfl)) (pv 1)) (pg_sub (pv 0) pe_int set_list))
    (pss_one (ps_ret (pv 2))))) pss_nil)
    (pss_cons (ps_asg (pe_op op_add (pe_ix (ix_listK (K := K) (by rfl)) (pv 0) pe_int (fun _ _ => rfl)) pe_int) (pg_sub (pv 0) pe_int set_list))
    (pss_cons (ps_if (pt_cmpR op_gt (pe_ix (ix_listK (K := K) (by rfl)) (pv 0) pe_int (fun _ _ => rfl)) (pe_callB (kc_len (K := K) (by rfl)) (by rfl) b_len (by decide +kernel) (pa_cons (pe_ix (ix_listK (K := K) (by rfl)) (pv 0) pe_int (fun _ _ => rfl)) pa_nil)) (nomark _)) (pss_cons (ps_asg (pe_op op_mod (pe_op op_add (pe_op op_mul (pe_ix (ix_listK (K := K) (by rfl)) (pv 0) pe_int (fun _ _ => rfl)) pe_int) pe_int) pe_int) (pg_sub (pv 0) pe_int set_list))
    (pss_one (ps_ret (pe_op op_mod (pe_op op_fdiv (pe_ix (ix_listK (K := K) (by rfl)) (pv 0) pe_int (fun _ _ => rfl)) pe_int) (pv 1))))) pss_nil)
    (pss_cons (ps_set (i := 3) nd rfl (by first | exact .inl rfl | exact .inr rfl) (pe_ix (ix_listK (K := K) (by rfl)) (pe_ix (ix_listK (K := K) (by rfl)) (pv 0) pe_int (fun _ _ => rfl)) (pe_op op_sub (pe_ix (ix_listK (K := K) (by rfl)) (pv 0) pe_int (fun _ _ => rfl)) pe_int) (fun _ _ => rfl)))
    (pss_cons (ps_asg (pe_op op_mod (pe_op op_add (pe_op op_add (pe_op op_mul (pe_ix (ix_listK (K := K) (by rfl)) (pv 0) pe_int (fun _ _ => rfl)) pe_int) (pv 3)) pe_int) pe_int) (pg_sub (pv 0) pe_int set_list))
    (pss_cons (ps_if (pt_cmpR op_ge (pv 3) (pe_op op_pow pe_int pe_int) (nomark _)) (pss_one (ps_asg (pe_op op_fdiv (pv 3) (pv 1)) (pg_sub (pv 0) pe_int set_list))) pss_nil)
    (pss_one (ps_ret (pe_op op_mod (pv 3) (pv 1)))))))))), fun L ds hp => ?_⟩
  obtain ⟨m, rfl, m0, m1⟩ := hp
  intro D σ G H e s ro q
  obtain ⟨a, ns, i, mx, g, hL, hS, hi⟩ := ro.at_
  have gL := ro.g
  obtain ⟨v0, hv0, e0⟩ := e.at_ 0 (.r L) rfl
  obtain ⟨v1, hv1, e1⟩ := e.at_ 1 (.d (.int m)) rfl
  cases e0; cases e1
  obtain ⟨x0, x1, x2, x3, rfl⟩ : ∃ x0 x1 x2 x3, σ = [x0, x1, x2, x3] := by
    have hl := e.len
    match σ, hl with
    | [a, b, c, d], _ => exact ⟨a, b, c, d, rfl⟩
  cases hv0; cases hv1
  have done : ∀ (k : Int) (o : List V) (i' s' g' : Int), 0 ≤ k ∧ k < m → o = [.ref a, .int i', .int s', .int g'] → 0 ≤ i' → ∀ H', StpR L G H G H' → D.rt (.int k) (upd H' L (.lst o)) := fun k o i' s' g' hk ho hi' H' st => by
    subst ho
    exact q (.rt (.int k)) ⟨_, rfl, m, k, rfl, rfl, hk.1, hk.2⟩ (.int k) G _ (st.put gL) ⟨gL, a, ns, i', s', g', upd_same, hS, hi'⟩ (.int k)
  have km : ∀ x : Int, 0 ≤ x % m ∧ x % m < m := fun x => ⟨Int.emod_nonneg _ (by omega), Int.emod_lt_of_pos _ m0⟩
  refine ⟨.ref L, rfl, L, _, 3, .int g, rfl, rfl, SqL.of hL, rfl, g, 0, rfl, rfl, _, rfl, ite2 (fun hg => ?_) (fun hg => ?_)⟩
  · refine ⟨.ref L, rfl, L, _, 3, .int g, rfl, rfl, SqL.of hL, rfl, .int m, rfl, g, m, rfl, rfl, m0, ?_⟩
    refine ⟨.ref L, rfl, L, _, 3, .int g, rfl, rfl, SqL.of hL, rfl, .int m, rfl, g, m, rfl, rfl, ⟨m0, m1⟩, .ref L, rfl, L, _, 3, 3, rfl, rfl, hL, rfl, ?_⟩
    exact ⟨.int (g % m), rfl, done _ _ i mx (g / m) (km g) rfl hi H (.refl s)⟩
  · refine ⟨.ref L, rfl, L, _, 1, .int i, rfl, rfl, SqL.of hL, rfl, i, 1, rfl, rfl, .ref L, rfl, L, _, 1, 1, rfl, rfl, hL, rfl, ?_⟩
    have hL1 : (upd H L (.lst [.ref a, .int (i + 1), .int mx, .int g])) L = some (.lst [.ref a, .int (i + 1), .int mx, .int g]) := upd_same
    have st1 : StpR L G H G (upd H L (.lst [.ref a, .int (i + 1), .int mx, .int g])) := (StpR.refl s).put gL
    have hS1 := gr_l st1.s hS
    show tSeq _ _ D _ (upd H L (.lst [.ref a, .int (i + 1), .int mx, .int g]))
    generalize upd H L (.lst [.ref a, .int (i + 1), .int mx, .int g]) = H1 at hL1 st1 hS1
    refine ⟨.ref L, rfl, L, _, 1, .int (i + 1), rfl, rfl, SqL.of hL1, rfl, .ref L, rfl, L, _, 0, .ref a, rfl, rfl, SqL.of hL1, rfl, a, _, rfl, .inl hS1, i + 1, _, rfl, rfl, _, rfl, ite2 (fun hg => ?_) (fun hg => ?_)⟩
    · refine ⟨.ref L, rfl, L, _, 2, .int mx, rfl, rfl, SqL.of hL1, rfl, mx, 48271, rfl, rfl, cmul' ⟨by decide, by decide⟩, _, 11, rfl, rfl, _, 2147483647, rfl, rfl, by show (0 : Int) < 2147483647; decide, .ref L, rfl, L, _, 2, 2, rfl, rfl, hL1, rfl, ?_⟩
      refine ⟨.ref L, rfl, L, _, 2, .int ((mx * 48271 + 11) % 2147483647), rfl, rfl, SqL.of upd_same, rfl, _, 7, rfl, rfl, cdiv ⟨by decide, by decide⟩, .int m, rfl, _, m, rfl, rfl, m0, ?_⟩
      exact done _ _ (i + 1) _ g (km _) rfl (by omega) H1 st1
    · have hle : i < ns.length := by
        have h1 : ¬ (((ns.map V.int).length : Int) < i + 1) := fun h => hg (decide_eq_true h)
        rw [List.length_map] at h1
        omega
      have hn : (i : Int).toNat < ns.length := by omega
      have gx : (ns.map V.int)[(i + 1 - 1).toNat]? = some (.int ns[i.toNat]) := by
        have e1 : (i + 1 - 1).toNat = i.toNat := by omega
        rw [e1, List.getElem?_map, List.getElem?_eq_getElem hn]; rfl
      refine ⟨.ref L, rfl, L, _, 0, .ref a, rfl, rfl, SqL.of hL1, rfl, .ref L, rfl, L, _, 1, .int (i + 1), rfl, rfl, SqL.of hL1, rfl, i + 1, 1, rfl, rfl, a, _, i + 1 - 1, _, rfl, rfl, hS1, at_nn (by omega) gx, ?_⟩
      generalize ns[i.toNat] = x
      refine ⟨.ref L, rfl, L, _, 2, .int mx, rfl, rfl, SqL.of hL1, rfl, mx, 48271, rfl, rfl, cmul' ⟨by decide, by decide⟩, .int x, rfl, _, x, rfl, rfl, _, 11, rfl, rfl, _, 2147483647, rfl, rfl, by show (0 : Int) < 2147483647; decide, .ref L, rfl, L, _, 2, 2, rfl, rfl, hL1, rfl, ?_⟩
      have hL2 : (upd H1 L (.lst [.ref a, .int (i + 1), .int ((mx * 48271 + x + 11) % 2147483647), .int g])) L = some (.lst [.ref a, .int (i + 1), .int ((mx * 48271 + x + 11) % 2147483647), .int g]) := upd_same
      refine ⟨.int x, rfl, 10, 18, rfl, rfl, ⟨by decide, by decide, by decide⟩, x, _, rfl, rfl, _, rfl, ite2 (fun hg2 => ?_) (fun hg2 => ?_)⟩
      · refine ⟨.int x, rfl, .int m, rfl, x, m, rfl, rfl, ⟨m0, m1⟩, .ref L, rfl, L, _, 3, 3, rfl, rfl, hL2, rfl, .int x, rfl, .int m, rfl, x, m, rfl, rfl, m0, ?_⟩
        exact done _ _ (i + 1) _ _ (km x) rfl (by omega) _ (st1.put gL)
      · refine ⟨.int x, rfl, .int m, rfl, x, m, rfl, rfl, m0, ?_⟩
        exact done _ _ (i + 1) _ g (km x) rfl (by omega) H1 st1
abbrev s__law_board : Stmt := topS 34
abbrev N__law_board : List Str := ["_law_row", "_law_most"]
theorem sc__law_board : FnScope N__law_board ["_law_row", "_law_most"] (defScope s__law_board) := ⟨rfl, rfl, rfl, by decide +kernel, rfl, by decide +kernel, by decide +kernel⟩
theorem bi__law_board : BindsAt "_law_board" s__law_board ["_law_row", "_law_most"] := fun _ _ _ _ _ _ us hl => match us, hl with | [_, _], _ => rfl

def Pre_board (ds : List Dt) : Prop := ds = [.int 5]
def F_board (_ : List Dt) (d : Dt) : Prop := ∃ r c : Nat, d = bd r c ∧ Brd r c
theorem ok__law_board (A : FnAt K mg "_law_board" s__law_board) (h__law_taken : Has P w K mg base "_law_taken" 1 ["_law_row", "_law_many"] (spR K Pre_taken F_taken)) : Has P w K mg base "_law_board" 2 ["_law_row", "_law_most"] (spR K Pre_board F_board) := by
  have nd := sc__law_board.nd
  refine has_row A bi__law_board sc__law_board (fun ds h => by rw [h]; rfl) fun cdv f A outer s H E hr => ⟨_, (pss_one (ps_ret (pe_tup (pa_cons (pe_op op_add pe_int (ca h__law_taken hr (by rfl) (pa_cons (pv 0) (pa_cons (pe_op op_sub (pv 1) pe_int) pa_nil)))) (pa_cons (pe_op op_add pe_int (ca h__law_taken hr (by rfl) (pa_cons (pv 0) (pa_cons (pe_op op_sub (pv 1) pe_int) pa_nil)))) pa_nil))))), fun L ds hp => ?_⟩
  cases hp
  have one : ER K L (tOp (rI0 fun i j => .int (i + j)) (tC (.int 2)) (tCall (spR K Pre_taken F_taken) [] E0 (tCons (tVar 0) (tCons (tOp (rI0 fun i j => .int (i - j)) (tVar 1) (tC (.int 1))) tNil)))) [some (.r L), some (.d (.int 5))] (fun d => ∃ k : Nat, d = .int (k : Int) ∧ 2 ≤ k ∧ k ≤ 5) :=
    er_op (PA := fun d => d = .int 2) (PB := fun d => ∃ k : Int, d = .int k ∧ 0 ≤ k ∧ k < 4) (er_of ev_int rfl)
      (er_call (PL := fun ds => ds = [.int 4]) rfl (era_cons (PA := fun d => d = .int 4) (PM := fun ds => ds = []) (er_of (ev_op (ev_var rfl) ev_int rv_I0) rfl) (era_nil rfl) fun x xs h1 h2 => by rw [h1, h2])
        fun ds h => ⟨⟨4, h, by decide, by decide⟩, fun d ⟨m, k, e, f, h1, h2⟩ => by rw [h] at e; cases e; exact ⟨k, f, h1, h2⟩⟩)
      fun x y h1 ⟨k, h2, h3, h4⟩ => ⟨.int (2 + k), by rw [h1, h2]; exact rv_I0, ⟨(2 + k).toNat, by rw [show (((2 + k).toNat : Nat) : Int) = 2 + k by omega], by omega, by omega⟩⟩
  refine sr_ret (er_tup (PL := fun ds => ∃ r c : Nat, ds = [.int r, .int c] ∧ Brd r c) (era_cons one (era_cons (PM := fun ds => ds = []) (PL := fun ds => ∃ k : Nat, ds = [.int (k : Int)] ∧ 2 ≤ k ∧ k ≤ 5) one (era_nil rfl) fun x xs ⟨k, h1, h2⟩ h3 => ⟨k, by rw [h1, h3], h2⟩) fun x xs ⟨r, h1, h2, h3⟩ ⟨c, h4, h5, h6⟩ => ⟨r, c, by rw [h1, h4], h2, h3, h5, h6⟩)
    (P := fun d => ∃ r c : Nat, d = bd r c ∧ Brd r c) fun ds ⟨r, c, h1, h2⟩ => ⟨by rw [h1]; show 2 ≤ 100000; decide, r, c, by rw [h1], h2⟩) fun d hd => ⟨d, rfl, hd⟩

theorem ern_listT {L : Addr} {Δ : Sl} {te : TE} {PL : List Dt → Prop} (h : ER K L te Δ fun d => ∃ ds, d = .tuple ds ∧ PL ds) : ERN K L (tCB (rListOf K) (tCons te tNil)) Δ PL := fun σ G H Q e s ro q =>
  h σ G H _ e s ro fun v d G1 H1 s1 r1 pd dv => by
    obtain ⟨ds, rfl, pl⟩ := pd
    cases dv with
    | tup h1 h2 => exact ⟨_, _, rfl, .inr (gr_t s1.s h1), fun l hl => by
        have n := new_n s1.s hl h2
        exact q _ _ ds _ _ (s1.trans n.1.row r1.there) (r1.step n.1) pl n.2.1 n.2.2⟩
/-- one draw below a bound that stands in data -/
theorem er_taken {L : Addr} {Δ : Sl} {te : TE} {m : Int} (hL : Δ[0]? = some (some (.r L))) (h : Ev K te Δ (.int m)) (h0 : 0 < m) (h1 : m < 1073741824) : ER K L (tCall (spR K Pre_taken F_taken) [] E0 (tCons (tVar 0) (tCons te tNil))) Δ (fun d => ∃ k : Int, d = .int k ∧ 0 ≤ k ∧ k < m) :=
  er_call (PL := fun ds => ds = [.int m]) hL (era_of (ea_cons h ea_nil) rfl) fun ds h => ⟨⟨m, h, h0, h1⟩, fun d ⟨m', k, e, f, a, b⟩ => by rw [h] at e; cases e; exact ⟨k, f, a, b⟩⟩
theorem er_takenR {L : Addr} {Δ : Sl} {te : TE} {m : Int} (hL : Δ[1]? = some (some (.r L))) (h : Ev K te Δ (.int m)) (h0 : 0 < m) (h1 : m < 1073741824) : ER K L (tCall (spR K Pre_taken F_taken) [] E0 (tCons (tVar 1) (tCons te tNil))) Δ (fun d => ∃ k : Int, d = .int k ∧ 0 ≤ k ∧ k < m) :=
  er_call (PL := fun ds => ds = [.int m]) hL (era_of (ea_cons h ea_nil) rfl) fun ds h => ⟨⟨m, h, h0, h1⟩, fun d ⟨m', k, e, f, a, b⟩ => by rw [h] at e; cases e; exact ⟨k, f, a, b⟩⟩
theorem srt_lt {l : List Int} (h : l.Nodup) : (srt l).Pairwise (· < ·) := by
  have h1 := srt_sorted l
  have h2 : (srt l).Nodup := (srt_perm l).nodup_iff.mpr h
  exact h1.imp₂ (fun a b hab hne => Int.lt_iff_le_and_ne.mpr ⟨hab, hne⟩) h2
theorem hasI_mem {i : Int} {l : List Int} : hasI i l = true ↔ i ∈ l := ⟨fun h => List.mem_of_elem_eq_true h, fun h => List.elem_eq_true_of_mem h⟩
abbrev s__law_some : Stmt := topS 35
abbrev N__law_some : List Str := ["_law_row", "_law_many", "_law_most", "_law_found", "_law_k", "_law_one"]
theorem sc__law_some : FnScope N__law_some ["_law_row", "_law_many", "_law_most"] (defScope s__law_some) := ⟨rfl, rfl, rfl, by decide +kernel, rfl, by decide +kernel, by decide +kernel⟩
theorem bi__law_some : BindsAt "_law_some" s__law_some ["_law_row", "_law_many", "_law_most"] := fun _ _ _ _ _ _ us hl => match us, hl with | [_, _, _], _ => rfl

def Pre_some (ds : List Dt) : Prop := ∃ (n : Nat) (t : Int), ds = [.int (n : Int), .int t] ∧ 1 ≤ n ∧ n ≤ 50 ∧ 0 ≤ t ∧ t ≤ 50
def F_some (ds : List Dt) (d : Dt) : Prop := ∃ (n : Nat) (t : Int) (f : Nat → Bool), ds = [.int (n : Int), .int t] ∧ d = ti (sel n f)
theorem ok__law_some (A : FnAt K mg "_law_some" s__law_some) (b_range : mg "range" = none) (b_tuple : mg "tuple" = none) (b_sorted : mg "sorted" = none) (b_min : mg "min" = none) (b_int : mg "int" = none)
    (h__law_taken : Has P w K mg base "_law_taken" 1 ["_law_row", "_law_many"] (spR K Pre_taken F_taken)) : Has P w K mg base "_law_some" 2 ["_law_row", "_law_many", "_law_most"] (spR K Pre_some F_some) := by
  have nd := sc__law_some.nd
  refine has_row A bi__law_some sc__law_some (fun ds ⟨_, _, h, _⟩ => by rw [h]; rfl) fun cdv f A outer s H E hr => ⟨_, (pss_cons (ps_set (i := 3) nd rfl (by first | exact .inl rfl | exact .inr rfl) (pe_lst pa_nil))
    (pss_cons (ps_for PassesOwn.never rfl (pi_range1 (by rfl) b_range (pa_cons (ca h__law_taken hr (by rfl) (pa_cons (pv 0) (pa_cons (pe_op op_add (pe_callB (call_min2 rfl) (by rfl) b_min (by decide +kernel) (pa_cons (pv 1) (pa_cons (pv 2) pa_nil))) pe_int) pa_nil))) pa_nil)) (pg_name (i := 4) nd rfl (by first | exact .inl rfl | exact .inr rfl)) (pss_cons (ps_set (i := 5) nd rfl (by first | exact .inl rfl | exact .inr rfl) (ca h__law_taken hr (by rfl) (pa_cons (pv 0) (pa_cons (pv 1) pa_nil))))
    (pss_one (ps_set (i := 3) nd rfl (by first | exact .inl rfl | exact .inr rfl) (pe_op op_cat (pv 3) (pe_op op_rep (pe_lst (pa_cons (pv 5) pa_nil)) (pe_callTy call_int1 (by rfl) b_int (by decide +kernel) (pa_cons (pe_cmpR (op_niK (K := K) (by rfl)) (pv 5) (pv 3) (by rfl)) pa_nil))))))))
    (pss_one (ps_ret (pe_callTy (kc_tup (K := K) (by rfl)) (by rfl) b_tuple (by decide +kernel) (pa_cons (pe_callB (kc_sorted (K := K) (by rfl)) (by rfl) b_sorted (by decide +kernel) (pa_cons (pv 3) pa_nil)) pa_nil)))))), fun L ds hp => ?_⟩
  obtain ⟨n, t, rfl, n1, n50, t0, t50⟩ := hp
  refine sr_pure (sx_asgL (en_lst ea_nil (by decide))) ?_
  refine sr_for (PD := fun ds => ∃ j : Nat, ds = upto 0 j ∧ j ≤ 60) (fun ds i Δ => ∃ (l : List Int) (a b : Option Wd), Δ = [some (.r L), some (.d (.int (n : Int))), some (.d (.int t)), some (.l (l.map .int)), a, b] ∧ l.Nodup ∧ (∀ x ∈ l, 0 ≤ x ∧ x < n) ∧ l.length ≤ i)
    (ri_rng1 (era_cons (PM := fun ds => ds = []) (er_taken rfl (ev_op (ev_cb (ea_cons (ev_var rfl) (ea_cons (ev_var rfl) ea_nil)) rc_min2) ev_int rv_I0) (by omega) (by omega)) (era_nil rfl) fun x xs ⟨k, h1, h2, h3⟩ h4 => ⟨k, by rw [h1, h4], by omega, by omega, k.toNat, rfl, by omega⟩))
    (fun ds _ => ⟨[], none, none, rfl, List.nodup_nil, (fun x hx => nomatch hx), Nat.zero_le _⟩) (fun ds i d Δi ⟨j, hds, hj⟩ hd iv => ?_) (fun ds Δ' ⟨j, hds, hj⟩ iv => ?_)
  · obtain ⟨l, a, b, rfl, hn, hb, hl⟩ := iv
    have hi : i < 60 := by
      have h1 := (List.getElem?_eq_some_iff.mp hd).1
      rw [hds, upto_len] at h1
      omega
    refine sr_asg (er_taken rfl (ev_var rfl) (by omega) (by omega)) fun d' ⟨k, hk, k0, k1⟩ => ?_
    subst hk
    have fin : ∀ m : List Int, l ++ (if hasI k l = true then [] else [k]) = m → SR K L (tAsg (tOp rCat (tVar 3) (tOp rRep (tLst (tCons (tVar 5) tNil)) (tCB (fun xs H Q => (∃ i, xs = [.int i] ∧ Q (.int i) H) ∨ ∃ k, xs = [.bl k] ∧ Q (.int (if k then 1 else 0)) H) (tCons (tOp (rIn K true) (tVar 5) (tVar 3)) tNil)))) (gName 3))
        [some (.r L), some (.d (.int (n : Int))), some (.d (.int t)), some (.l (l.map .int)), some (.d d), some (.d (.int k))] (fun o => ∃ Δ', (o = .nx Δ' ∨ o = .ct Δ') ∧ ∃ (l : List Int) (a b : Option Wd), Δ' = [some (.r L), some (.d (.int (n : Int))), some (.d (.int t)), some (.l (l.map .int)), a, b] ∧ l.Nodup ∧ (∀ x ∈ l, 0 ≤ x ∧ x < n) ∧ l.length ≤ i + 1) := fun m hm => by
      refine sr_of (sx_asgL (en_is (en_cat (en_var rfl) (en_rep (en_lst (ea_cons (ev_var rfl) ea_nil) (by show 1 ≤ 100000; decide)) (ev_cb (ea_cons (ev_op (ev_var rfl) (ev_varL rfl) rv_niL) ea_nil) rc_int_b) (by split <;> decide) (by split <;> decide) (by show 1 ≤ 100; decide)) ?_) (ys := m.map .int) ?_)) ⟨_, .inl rfl, m, _, _, rfl, ?_⟩
      · rw [List.length_map]
        cases hasI k l <;> (show l.length + _ ≤ 100000; simp; omega)
      · rw [← hm, List.map_append]
        congr 1
        cases hasI k l <;> rfl
      · rw [← hm]
        cases hk : hasI k l with
        | true =>
          rw [if_pos rfl, List.append_nil]
          exact ⟨hn, hb, by omega⟩
        | false =>
          rw [if_neg (by decide)]
          have nk : k ∉ l := fun h => by rw [hasI_mem.mpr h] at hk; cases hk
          refine ⟨List.nodup_append.mpr ⟨hn, List.nodup_cons.mpr ⟨by simp, List.nodup_nil⟩, fun a ha b hb e => ?_⟩, fun x hx => ?_, by rw [List.length_append]; show l.length + 1 ≤ i + 1; omega⟩
          · simp at hb; subst hb; subst e; exact nk ha
          · rcases List.mem_append.mp hx with h | h
            · exact hb x h
            · simp at h; subst h; exact ⟨k0, k1⟩
    exact fin _ rfl
  · obtain ⟨l, a, b, rfl, hn, hb, hl⟩ := iv
    rw [hds, upto_len] at hl
    refine sr_of (sx_ret (ev_cb (ea_cons (ev_of (en_sorted (ev_varL rfl))) ea_nil) rc_tupL)) ⟨_, rfl, n, t, fun k => hasI (k : Int) (srt l), rfl, ?_⟩
    have e := sel_of (srt_lt hn) (n := n) fun x hx => hb x ((srt_perm l).mem_iff.mp hx)
    rw [← e]
abbrev s__law_flips : Stmt := topS 36
abbrev N__law_flips : List Str := ["_law_row", "_law_board_here", "_law_many", "_law_found", "_law_line", "_law_k", "_law_edge"]
theorem sc__law_flips : FnScope N__law_flips ["_law_row", "_law_board_here"] (defScope s__law_flips) := ⟨rfl, rfl, rfl, by decide +kernel, rfl, by decide +kernel, by decide +kernel⟩
theorem bi__law_flips : BindsAt "_law_flips" s__law_flips ["_law_row", "_law_board_here"] := fun _ _ _ _ _ _ us hl => match us, hl with | [_, _], _ => rfl

def Pre_flips (ds : List Dt) : Prop := ∃ r c : Nat, ds = [bd r c] ∧ Brd r c
def F_flips (ds : List Dt) (d : Dt) : Prop := ∃ (r c : Nat) (f : Nat → Bool), ds = [bd r c] ∧ d = ti (sel (2 * (r * c)) f)
theorem ok__law_flips (A : FnAt K mg "_law_flips" s__law_flips) (b_range : mg "range" = none) (b_tuple : mg "tuple" = none) (b_list : mg "list" = none)
    (h__law_some : Has P w K mg base "_law_some" 2 ["_law_row", "_law_many", "_law_most"] (spR K Pre_some F_some)) (h__law_taken : Has P w K mg base "_law_taken" 1 ["_law_row", "_law_many"] (spR K Pre_taken F_taken)) : Has P w K mg base "_law_flips" 3 ["_law_row", "_law_board_here"] (spR K Pre_flips F_flips) := by
  have nd := sc__law_flips.nd
  refine has_row A bi__law_flips sc__law_flips (fun ds ⟨_, _, h, _⟩ => by rw [h]; rfl) fun cdv f A outer s H E hr => ⟨_, (pss_cons (ps_set (i := 2) nd rfl (by first | exact .inl rfl | exact .inr rfl) (pe_op op_mul (pe_ix (ix_tupK (K := K) (by rfl)) (pv 1) pe_int (fun _ _ => rfl)) (pe_ix (ix_tupK (K := K) (by rfl)) (pv 1) pe_int (fun _ _ => rfl))))
    (pss_cons (ps_set (i := 3) nd rfl (by first | exact .inl rfl | exact .inr rfl) (pe_callTy (kc_list (K := K) (by rfl)) (by rfl) b_list (by decide +kernel) (pa_cons (ca h__law_some hr (by rfl) (pa_cons (pv 0) (pa_cons (pe_op op_mul pe_int (pv 2)) (pa_cons (pe_ix (ix_listK (K := K) (by rfl)) (pe_lst (pa_cons pe_int (pa_cons pe_int (pa_cons (pe_op op_mul pe_int (pv 2)) pa_nil)))) (ca h__law_taken (hr.mono (by decide)) (by rfl) (pa_cons (pv 0) (pa_cons pe_int pa_nil))) (fun _ _ => rfl)) pa_nil)))) pa_nil)))
    (pss_cons (ps_if (pt_cmpR (op_eqK (K := K) (by rfl) (by exact hr.units)) (ca h__law_taken (hr.mono (by decide)) (by rfl) (pa_cons (pv 0) (pa_cons pe_int pa_nil))) pe_int (nomark _)) (pss_cons (ps_set (i := 4) nd rfl (by first | exact .inl rfl | exact .inr rfl) (ca h__law_taken (hr.mono (by decide)) (by rfl) (pa_cons (pv 0) (pa_cons (pe_ix (ix_tupK (K := K) (by rfl)) (pv 1) pe_int (fun _ _ => rfl)) pa_nil))))
    (pss_one (ps_set (i := 3) nd rfl (by first | exact .inl rfl | exact .inr rfl) (pe_op op_cat (pv 3) (pe_lc (own := [("_law_k", 5)]) (g := gName 5) (tt := tYes) (by rfl) nd (pi_range1 (by rfl) b_range (pa_cons (pe_ix (ix_tupK (K := K) (by rfl)) (pv 1) pe_int (fun _ _ => rfl)) pa_nil)) (blkOk_by (own := [("_law_k", 5)]) (N := N__law_flips) (sc := defScope s__law_flips) (by decide +kernel)) (fun _ _ _ _ _ => (pg_name (i := 5) nd rfl (by first | exact .inl rfl | exact .inr rfl))) (fun _ _ _ _ _ => pts_nil) (fun _ _ _ _ _ => (pe_op op_mul pe_int (pe_op op_add (pe_op op_mul (pv 4) (pe_ix (ix_tupK (K := K) (by rfl)) (pv 1) pe_int (fun _ _ => rfl))) (pv 5))))))))) pss_nil)
    (pss_cons (ps_if (pt_cmpR (op_eqK (K := K) (by rfl) (by exact hr.units)) (ca h__law_taken (hr.mono (by decide)) (by rfl) (pa_cons (pv 0) (pa_cons pe_int pa_nil))) pe_int (nomark _)) (pss_cons (ps_set (i := 4) nd rfl (by first | exact .inl rfl | exact .inr rfl) (ca h__law_taken (hr.mono (by decide)) (by rfl) (pa_cons (pv 0) (pa_cons (pe_ix (ix_tupK (K := K) (by rfl)) (pv 1) pe_int (fun _ _ => rfl)) pa_nil))))
    (pss_one (ps_set (i := 3) nd rfl (by first | exact .inl rfl | exact .inr rfl) (pe_op op_cat (pv 3) (pe_lc (own := [("_law_k", 5)]) (g := gName 5) (tt := tYes) (by rfl) nd (pi_range1 (by rfl) b_range (pa_cons (pe_ix (ix_tupK (K := K) (by rfl)) (pv 1) pe_int (fun _ _ => rfl)) pa_nil)) (blkOk_by (own := [("_law_k", 5)]) (N := N__law_flips) (sc := defScope s__law_flips) (by decide +kernel)) (fun _ _ _ _ _ => (pg_name (i := 5) nd rfl (by first | exact .inl rfl | exact .inr rfl))) (fun _ _ _ _ _ => pts_nil) (fun _ _ _ _ _ => (pe_op op_add (pe_op op_mul pe_int (pe_op op_add (pe_op op_mul (pv 5) (pe_ix (ix_tupK (K := K) (by rfl)) (pv 1) pe_int (fun _ _ => rfl))) (pv 4))) pe_int))))))) pss_nil)
    (pss_one (ps_ret (pe_callTy (kc_tup (K := K) (by rfl)) (by rfl) b_tuple (by decide +kernel) (pa_cons (pe_lc (own := [("_law_edge", 6)]) (g := gName 6) (by rfl) nd (pi_range1 (by rfl) b_range (pa_cons (pe_op op_mul pe_int (pv 2)) pa_nil)) (blkOk_by (own := [("_law_edge", 6)]) (N := N__law_flips) (sc := defScope s__law_flips) (by decide +kernel)) (fun _ _ _ _ _ => (pg_name (i := 6) nd rfl (by first | exact .inl rfl | exact .inr rfl))) (fun _ _ _ _ _ => (pts_one (pt_cmpR (op_eqK (K := K) (by rfl) (by exact hr.units)) (pe_op op_mod (pe_countK (K := K) (by rfl) (pv 3) (pa_cons (pv 6) pa_nil)) pe_int) pe_int (nomark _)))) (fun _ _ _ _ _ => (pv 6))) pa_nil)))))))), fun L ds hp => ?_⟩
  obtain ⟨r, c, rfl, hB⟩ := hp
  obtain ⟨h1, h2, h3, h4⟩ := id hB
  have hrc : (((r * c : Nat) : Int)) = (r : Int) * c := Int.natCast_mul r c
  have hrc25 : r * c ≤ 25 := Nat.mul_le_mul h2 h4
  have hrc4 : 4 ≤ r * c := Nat.mul_le_mul h1 h3
  refine sr_pure (sx_asg (ev_is (ev_op (ev_op (ev_var rfl) ev_int (rv_ixT rfl)) (ev_op (ev_var rfl) ev_int (rv_ixT rfl)) (rv_I (cmul ⟨by omega, by omega⟩))) (y := .int ((r * c : Nat) : Int)) (by rw [hrc]))) ?_
  -- found = list(_law_some(..))
  refine sr_asgN (PL := fun ds => ∃ xs : List Int, ds = xs.map .int ∧ xs.length ≤ 50) (ern_listT (er_call (PL := fun ds => ∃ t : Int, ds = [.int ((2 * (r * c) : Nat) : Int), .int t] ∧ 0 ≤ t ∧ t ≤ 50) rfl
    (era_cons (PA := fun d => d = .int ((2 * (r * c) : Nat) : Int)) (PM := fun ds => ∃ t : Int, ds = [.int t] ∧ 0 ≤ t ∧ t ≤ 50) (er_of (ev_is (ev_op ev_int (ev_var rfl) (rv_I (cmul ⟨by decide, by decide⟩))) (y := .int ((2 * (r * c) : Nat) : Int)) (by rw [Int.natCast_mul]; rfl)) rfl)
      (era_cons (PA := fun d => ∃ t : Int, d = .int t ∧ 0 ≤ t ∧ t ≤ 50) (PM := fun ds => ds = []) (er_op (PA := fun d => d = .list [.int 3, .int 6, .int ((2 * (r * c) : Nat) : Int)]) (er_of (ev_of (en_lst (ea_cons ev_int (ea_cons ev_int (ea_cons (ev_is (ev_op ev_int (ev_var rfl) (rv_I (cmul ⟨by decide, by decide⟩))) (y := .int ((2 * (r * c) : Nat) : Int)) (by rw [Int.natCast_mul]; rfl)) ea_nil))) (by show 3 ≤ 100000; decide))) rfl)
        (er_taken rfl ev_int (by decide) (by decide)) fun x y hx ⟨k, hy, k0, k1⟩ => by
          subst hx hy
          have : k = 0 ∨ k = 1 ∨ k = 2 := by omega
          rcases this with rfl | rfl | rfl
          · exact ⟨.int 3, rv_ixL rfl, 3, rfl, by decide, by decide⟩
          · exact ⟨.int 6, rv_ixL rfl, 6, rfl, by decide, by decide⟩
          · exact ⟨_, rv_ixL rfl, _, rfl, by omega, by omega⟩) (era_nil rfl) fun x xs ⟨t, hx, h⟩ hxs => ⟨t, by rw [hx, hxs], h⟩) fun x xs hx ⟨t, hxs, h⟩ => ⟨t, by rw [hx, hxs], h⟩)
    fun ds ⟨t, hds, t0, t50⟩ => ⟨⟨2 * (r * c), t, hds, by omega, by omega, t0, t50⟩, fun d ⟨n, t', f, e, hd⟩ => ⟨_, hd, sel n f, rfl, by
      rw [hds] at e
      have e1 := (List.cons.inj e).1
      injection e1 with e2
      have := sel_len n f
      omega⟩⟩)) fun ds ⟨xs, hds, hl⟩ => ?_
  subst hds
  -- both loops round about
  have ring : ∀ (m : Nat) (q : Dt → Dt) (y : Nat → Int), (∀ i : Nat, q (.int (0 + (i : Int))) = .int (y i)) → ((upto 0 m).filter (fun _ => true)).map q = ((List.range m).map y).map .int := fun m q y hq => by
    have e1 : (upto 0 m).filter (fun _ => true) = upto 0 m := List.filter_eq_self.mpr fun _ _ => rfl
    rw [e1]
    unfold upto
    rw [List.map_map, List.map_map]
    apply List.map_congr_left
    intro i _
    exact hq i
  refine sr_when (p := fun _ => True) (PM := fun Δ => ∃ (xs : List Int) (a b e : Option Wd), Δ = [some (.r L), some (.d (bd r c)), some (.d (.int ((r * c : Nat) : Int))), some (.l (xs.map .int)), a, b, e] ∧ xs.length ≤ 60)
    (ert_test (er_op (PB := fun d => d = .int 0) (er_taken rfl ev_int (by decide) (by decide)) (er_of ev_int rfl) fun x y ⟨k, hx, _⟩ hy => by subst hx hy; exact ⟨_, rv_eqD rfl rfl, _, rfl, trivial⟩))
    (fun _ => sr_asg (er_taken rfl (ev_op (ev_var rfl) ev_int (rv_ixT rfl)) (by omega) (by omega)) fun d ⟨k, hk, k0, k1⟩ => by
      subst hk
      refine sr_of (sx_asgL (en_is (en_cat (en_var rfl) (en_lc (K := K) (js := [5]) (vs := [5]) (fun _ => true) (fun d => match d with | .int i => .int (2 * (k * c + i)) | _ => .none) (fun d => [some (.r L), some (.d (bd r c)), some (.d (.int ((r * c : Nat) : Int))), some (.l (xs.map .int)), some (.d (.int k)), some (.d d), none])
        (ei_rng1 (j := (c : Int)) (ea_cons (ev_op (ev_var rfl) ev_int (rv_ixT rfl)) ea_nil) ⟨by omega, by omega⟩) (by rw [upto_len]; omega) (by simp) (fun d hd => eg_name) (fun d hd => et_yes) (fun d hd _ => by
          obtain ⟨i, _, rfl⟩ := List.mem_map.mp hd
          exact ev_op ev_int (ev_op (ev_op (ev_var rfl) (ev_op (ev_var rfl) ev_int (rv_ixT rfl)) (rv_I (cmul ⟨by omega, by omega⟩))) (ev_var rfl) rv_I0) (rv_I (cmul ⟨by decide, by decide⟩)))) ?_)
        (ys := (xs ++ (List.range (c : Int).toNat).map fun (i : Nat) => 2 * (k * c + (0 + (i : Int)))).map .int) ?_)) ⟨_, rfl, _, _, _, _, rfl, ?_⟩
      · rw [List.length_map, ring _ _ (fun i => 2 * (k * c + (0 + (i : Int)))) fun i => rfl, List.length_map, List.length_map, List.length_range]; omega
      · rw [ring _ _ (fun i => 2 * (k * c + (0 + (i : Int)))) fun i => rfl, List.map_append]
      · rw [List.length_append, List.length_map, List.length_range]; omega)
    (fun _ => ⟨xs, none, none, none, rfl, by omega⟩) fun Δ1 ⟨xs, a, b, e, hΔ, hl⟩ => ?_
  subst hΔ
  refine sr_when (p := fun _ => True) (PM := fun Δ => ∃ (xs : List Int) (a b e : Option Wd), Δ = [some (.r L), some (.d (bd r c)), some (.d (.int ((r * c : Nat) : Int))), some (.l (xs.map .int)), a, b, e] ∧ xs.length ≤ 70)
    (ert_test (er_op (PB := fun d => d = .int 0) (er_taken rfl ev_int (by decide) (by decide)) (er_of ev_int rfl) fun x y ⟨k, hx, _⟩ hy => by subst hx hy; exact ⟨_, rv_eqD rfl rfl, _, rfl, trivial⟩))
    (fun _ => sr_asg (er_taken rfl (ev_op (ev_var rfl) ev_int (rv_ixT rfl)) (by omega) (by omega)) fun d ⟨k, hk, k0, k1⟩ => by
      subst hk
      refine sr_of (sx_asgL (en_is (en_cat (en_var rfl) (en_lc (K := K) (js := [5]) (vs := [5]) (fun _ => true) (fun d => match d with | .int i => .int (2 * (i * c + k) + 1) | _ => .none) (fun d => [some (.r L), some (.d (bd r c)), some (.d (.int ((r * c : Nat) : Int))), some (.l (xs.map .int)), some (.d (.int k)), some (.d d), e])
        (ei_rng1 (j := (r : Int)) (ea_cons (ev_op (ev_var rfl) ev_int (rv_ixT rfl)) ea_nil) ⟨by omega, by omega⟩) (by rw [upto_len]; omega) (by simp) (fun d hd => eg_name) (fun d hd => et_yes) (fun d hd _ => by
          obtain ⟨i, hi, rfl⟩ := List.mem_map.mp hd
          exact ev_op (ev_op ev_int (ev_op (ev_op (ev_var rfl) (ev_op (ev_var rfl) ev_int (rv_ixT rfl)) (rv_I (cmul' ⟨by omega, by omega⟩))) (ev_var rfl) rv_I0) (rv_I (cmul ⟨by decide, by decide⟩))) ev_int rv_I0)) ?_)
        (ys := (xs ++ (List.range (r : Int).toNat).map fun (i : Nat) => 2 * ((0 + (i : Int)) * c + k) + 1).map .int) ?_)) ⟨_, rfl, _, _, _, _, rfl, ?_⟩
      · rw [List.length_map, ring _ _ (fun i => 2 * ((0 + (i : Int)) * c + k) + 1) fun i => rfl, List.length_map, List.length_map, List.length_range]; omega
      · rw [ring _ _ (fun i => 2 * ((0 + (i : Int)) * c + k) + 1) fun i => rfl, List.map_append]
      · rw [List.length_append, List.length_map, List.length_range]; omega)
    (fun _ => ⟨xs, a, b, e, rfl, by omega⟩) fun Δ1 ⟨xs, a, b, e, hΔ, hl⟩ => ?_
  subst hΔ
  refine sr_of (sx_ret (ev_cb (ea_cons (ev_of (en_is (en_lc (K := K) (js := [6]) (vs := [6]) (fun d => match d with | .int i => decide (((xs.count i : Nat) : Int) % 2 = 1) | _ => false) (fun d => d) (fun d => [some (.r L), some (.d (bd r c)), some (.d (.int ((r * c : Nat) : Int))), some (.l (xs.map .int)), a, b, some (.d d)])
    (ei_rng1 (j := ((2 * (r * c) : Nat) : Int)) (ea_cons (ev_is (ev_op ev_int (ev_var rfl) (rv_I (cmul ⟨by decide, by decide⟩))) (by rw [Int.natCast_mul]; rfl)) ea_nil) ⟨by omega, by omega⟩) (by rw [upto_len]; omega) (by simp) (fun d hd => eg_name) (fun d hd => by
      obtain ⟨i, _, rfl⟩ := List.mem_map.mp hd
      refine et_is (et_test (ev_op (ev_op (ev_count (ev_varL rfl) (ev_var rfl) fun G H v s dv => ?_) ev_int (rv_I (by show (0 : Int) < 2; decide))) ev_int (rv_eqD rfl rfl))) ?_
      · cases dv with
        | lst h1 h2 => exact .inl ⟨rfl, _, gr_l s h1⟩
      · rw [eqv_int]) (fun d hd _ => ev_var rfl)) (ys := (sel (2 * (r * c)) fun k => decide (((xs.count (k : Int) : Nat) : Int) % 2 = 1)).map .int) ?_)) ea_nil) rc_tupL)) ⟨_, rfl, r, c, _, rfl, rfl⟩
  unfold upto sel
  rw [List.filter_map, List.map_map, List.map_map]
  simp only [Int.toNat_natCast]
  have e2 : ((fun d : Dt => match d with | .int i => decide (((xs.count i : Nat) : Int) % 2 = 1) | _ => false) ∘ fun (i : Nat) => PyData.int (0 + (i : Int))) = fun (k : Nat) => decide (((xs.count (k : Int) : Nat) : Int) % 2 = 1) := by
    funext k
    show decide (((xs.count (0 + (k : Int)) : Nat) : Int) % 2 = 1) = _
    rw [Int.zero_add]
  rw [e2]
  apply List.map_congr_left
  intro i _
  show PyData.int (0 + (i : Int)) = PyData.int (i : Int)
  rw [Int.zero_add]
end
end Sb

namespace Sb
open PySem PySem.Spec PyProof.Rows L2
/-- the rest by 2 of how many numbers below n are taken -/
def px : Nat → (Nat → Bool) → Bool
  | 0, _ => false
  | n + 1, h => px n h ^^ h n
theorem px_congr : ∀ {n : Nat} {f g : Nat → Bool}, (∀ k, k < n → f k = g k) → px n f = px n g
  | 0, _, _, _ => rfl
  | n + 1, f, g, h => by
    show (px n f ^^ f n) = (px n g ^^ g n)
    rw [px_congr fun k hk => h k (by omega), h n (by omega)]
theorem px_xor : ∀ (n : Nat) (f g : Nat → Bool), px n (fun k => f k ^^ g k) = (px n f ^^ px n g)
  | 0, _, _ => rfl
  | n + 1, f, g => by
    show (px n (fun k => f k ^^ g k) ^^ (f n ^^ g n)) = ((px n f ^^ f n) ^^ (px n g ^^ g n))
    rw [px_xor n f g]
    cases px n f <;> cases px n g <;> cases f n <;> cases g n <;> rfl
theorem px_ff : ∀ n : Nat, px n (fun _ => false) = false
  | 0 => rfl
  | n + 1 => by
    show (px n (fun _ => false) ^^ false) = false
    rw [px_ff n]; rfl
theorem px_and (b : Bool) (n : Nat) (h : Nat → Bool) : px n (fun k => b && h k) = (b && px n h) := by
  cases b
  · exact px_ff n
  · exact px_congr fun k _ => rfl
theorem px_swap : ∀ (n m : Nat) (h : Nat → Nat → Bool), px n (fun i => px m (fun j => h i j)) = px m (fun j => px n (fun i => h i j))
  | 0, m, h => (px_ff m).symm
  | n + 1, m, h => by
    show (px n (fun i => px m (fun j => h i j)) ^^ px m (fun j => h n j)) = px m (fun j => px n (fun i => h i j) ^^ h n j)
    rw [px_swap n m h, px_xor]
theorem px_one : ∀ {n e : Nat} (h : Nat → Bool), e < n → px n (fun k => decide (k = e) && h k) = h e
  | n + 1, e, h, he => by
    show (px n (fun k => decide (k = e) && h k) ^^ (decide (n = e) && h n)) = h e
    by_cases q : n = e
    · subst q
      have : px n (fun k => decide (k = n) && h k) = false := by
        rw [px_congr (g := fun _ => false) fun k hk => by rw [decide_eq_false (by omega)]; rfl, px_ff]
      rw [this]; simp
    · rw [px_one h (by omega), decide_eq_false q]; simp
theorem px_dec {n e : Nat} (he : e < n) : px n (fun k => decide (k = e)) = true := by
  have := px_one (fun _ => true) he
  simpa using this
theorem sel_succ (n : Nat) (f : Nat → Bool) : sel (n + 1) f = sel n f ++ (if f n = true then [(n : Int)] else []) := by
  unfold sel
  rw [List.range_succ, List.filter_append, List.map_append]
  congr 1
  rw [List.filter_cons]
  split <;> rfl
/-- the rest of a count -/
def cp (k : Int) (l : List Int) : Bool := decide (l.count k % 2 = 1)
theorem dec_mod (a b : Nat) : decide ((a + b) % 2 = 1) = (decide (a % 2 = 1) ^^ decide (b % 2 = 1)) := by
  rcases Nat.mod_two_eq_zero_or_one a with h1 | h1 <;> rcases Nat.mod_two_eq_zero_or_one b with h2 | h2 <;> simp [Nat.add_mod, h1, h2]
theorem cp_app (k : Int) (l m : List Int) : cp k (l ++ m) = (cp k l ^^ cp k m) := by
  unfold cp
  rw [List.count_append, dec_mod]
theorem cp_one (k x : Int) : cp k [x] = decide (x = k) := by
  unfold cp
  rw [List.count_singleton]
  by_cases h : x = k
  · subst h; simp
  · have : (x == k) = false := beq_eq_false_iff_ne.mpr h
    rw [this, decide_eq_false h]; rfl
theorem cp_nil (k : Int) : cp k [] = false := rfl
theorem cp_flat (k : Int) (g : Int → List Int) (f : Nat → Bool) : ∀ n : Nat, cp k ((sel n f).flatMap g) = px n fun e => f e && cp k (g (e : Int))
  | 0 => rfl
  | n + 1 => by
    rw [sel_succ, List.flatMap_append, cp_app, cp_flat k g f n]
    show _ = (px n (fun e => f e && cp k (g (e : Int))) ^^ (f n && cp k (g (n : Int))))
    congr 1
    cases f n
    · rfl
    · show cp k ([(n : Int)].flatMap g) = _
      simp
theorem cp_sel {n k : Nat} (f : Nat → Bool) (h : k < n) : cp (k : Int) (sel n f) = f k := by
  have e : sel n f = (sel n f).flatMap fun x => [x] := by simp
  rw [e, cp_flat]
  rw [px_congr (g := fun e => decide (e = k) && f e) fun e _ => by
    rw [cp_one, Bool.and_comm]
    congr 1
    apply decide_eq_decide.mpr
    omega]
  exact px_one f h
theorem par_len (f : Int → Bool) (g : Nat → Bool) : ∀ n : Nat, decide ((((sel n g).filter f).length) % 2 = 1) = px n fun e => g e && f (e : Int)
  | 0 => rfl
  | n + 1 => by
    rw [sel_succ, List.filter_append, List.length_append, dec_mod, par_len f g n]
    show _ = (px n (fun e => g e && f (e : Int)) ^^ (g n && f (n : Int)))
    congr 1
    cases hg : g n
    · rfl
    · show decide (([(n : Int)].filter f).length % 2 = 1) = (true && f (n : Int))
      cases hf : f (n : Int) <;> simp [List.filter_cons, hf]
def bi (b : Bool) : Int := if b then 1 else 0
theorem bi_of (n : Nat) : ((n : Nat) : Int) % 2 = bi (decide (n % 2 = 1)) := by
  unfold bi
  rcases Nat.mod_two_eq_zero_or_one n with h | h
  · rw [h]; simp; omega
  · rw [h]; simp; omega
theorem bi_add (a b : Bool) : (bi a + bi b) % 2 = bi (a ^^ b) := by cases a <;> cases b <;> rfl
theorem len_par (n : Nat) (g : Nat → Bool) : (((sel n g).length : Nat) : Int) % 2 = bi (px n g) := by
  have h := par_len (fun _ => true) g n
  rw [List.filter_eq_self.mpr fun _ _ => rfl] at h
  rw [bi_of, h]
  congr 1
  exact px_congr fun k _ => Bool.and_true _
/-! ### lit sites, seams -/
def uu (r c : Nat) (e k : Nat) : Bool := decide (((e : Nat) : Int) / 2 = (k : Int)) ^^ decide (endB r c (e : Int) = (k : Int))
def lit (r c : Nat) (f : Nat → Bool) (k : Nat) : Bool := px (2 * (r * c)) fun e => f e && uu r c e k
def sA (r c : Nat) (f : Nat → Bool) : Bool := px (2 * (r * c)) fun e => f e && crA r c (e : Int)
def sB (r c : Nat) (f : Nat → Bool) : Bool := px (2 * (r * c)) fun e => f e && crB r c (e : Int)
theorem and_xor (a b c : Bool) : ((a ^^ b) && c) = ((a && c) ^^ (b && c)) := by cases a <;> cases b <;> cases c <;> rfl
theorem lit_xor (r c : Nat) (f g : Nat → Bool) (k : Nat) : lit r c (fun e => f e ^^ g e) k = (lit r c f k ^^ lit r c g k) := by
  unfold lit
  rw [← px_xor]
  exact px_congr fun e _ => and_xor _ _ _
theorem sA_xor (r c : Nat) (f g : Nat → Bool) : sA r c (fun e => f e ^^ g e) = (sA r c f ^^ sA r c g) := by
  unfold sA
  rw [← px_xor]
  exact px_congr fun e _ => and_xor _ _ _
theorem sB_xor (r c : Nat) (f g : Nat → Bool) : sB r c (fun e => f e ^^ g e) = (sB r c f ^^ sB r c g) := by
  unfold sB
  rw [← px_xor]
  exact px_congr fun e _ => and_xor _ _ _
theorem lit_congr {r c : Nat} {f g : Nat → Bool} (h : ∀ e, e < 2 * (r * c) → f e = g e) (k : Nat) : lit r c f k = lit r c g k := px_congr fun e he => by rw [h e he]
theorem sA_congr {r c : Nat} {f g : Nat → Bool} (h : ∀ e, e < 2 * (r * c) → f e = g e) : sA r c f = sA r c g := px_congr fun e he => by rw [h e he]
theorem sB_congr {r c : Nat} {f g : Nat → Bool} (h : ∀ e, e < 2 * (r * c) → f e = g e) : sB r c f = sB r c g := px_congr fun e he => by rw [h e he]
theorem lit_ff (r c : Nat) (k : Nat) : lit r c (fun _ => false) k = false := px_ff _
theorem sA_ff (r c : Nat) : sA r c (fun _ => false) = false := px_ff _
theorem sB_ff (r c : Nat) : sB r c (fun _ => false) = false := px_ff _
theorem lit_one {r c e : Nat} (h : e < 2 * (r * c)) (k : Nat) : lit r c (fun x => decide (x = e)) k = uu r c e k := px_one (fun x => uu r c x k) h
theorem sA_one {r c e : Nat} (h : e < 2 * (r * c)) : sA r c (fun x => decide (x = e)) = crA r c (e : Int) := px_one (fun x => crA r c (x : Int)) h
theorem sB_one {r c e : Nat} (h : e < 2 * (r * c)) : sB r c (fun x => decide (x = e)) = crB r c (e : Int) := px_one (fun x => crB r c (x : Int)) h
theorem sel_ff (n : Nat) : sel n (fun _ => false) = [] := by
  apply List.eq_nil_iff_forall_not_mem.mpr
  intro x hx
  obtain ⟨k, _, _, h⟩ := mem_sel.mp hx
  cases h
theorem sel_one {n e : Nat} (h : e < n) : sel n (fun x => decide (x = e)) = [(e : Int)] := rise_eq (sel_rise _ _) (List.pairwise_singleton _ _) fun x => by
  rw [mem_sel, List.mem_singleton]
  constructor
  · rintro ⟨k, rfl, _, h2⟩
    rw [of_decide_eq_true h2]
  · rintro rfl
    exact ⟨e, rfl, h, decide_eq_true rfl⟩
/-- the promises, upon chosen sets -/
theorem after_at {r c : Nat} (hB : Brd r c) (f g : Nat → Bool) : F_after [bd r c, ti (sel (2 * (r * c)) f), ti (sel (2 * (r * c)) g)] (ti (sel (2 * (r * c)) fun k => f k ^^ g k)) :=
  ⟨r, c, _, _, rfl, hB, rise_sel _ _, rise_sel _ _, by
    refine congrArg ti (sel_congr fun k hk => ?_)
    · have e := cp_app (k : Int) (sel (2 * (r * c)) f) (sel (2 * (r * c)) g)
      rw [cp_sel f hk, cp_sel g hk] at e
      exact e.symm⟩
theorem checks_at {r c : Nat} (hB : Brd r c) (f : Nat → Bool) : F_checks [bd r c, ti (sel (2 * (r * c)) f)] (ti (sel (r * c) (lit r c f))) :=
  ⟨r, c, _, rfl, hB, rise_sel _ _, by
    refine congrArg ti (sel_congr fun k hk => ?_)
    · show px _ _ = cp (k : Int) (endsL r c (sel (2 * (r * c)) f))
      unfold endsL
      rw [cp_flat]
      refine px_congr fun e _ => ?_
      show (f e && uu r c e k) = (f e && cp (k : Int) ([(e : Int) / 2] ++ [endB r c (e : Int)]))
      rw [cp_app, cp_one, cp_one]
      rfl⟩
theorem seams_at {r c : Nat} (hB : Brd r c) (f : Nat → Bool) : F_seams [bd r c, ti (sel (2 * (r * c)) f)] (bd (bi (sA r c f)) (bi (sB r c f))) :=
  ⟨r, c, _, rfl, hB, rise_sel _ _, by
    unfold parI
    rw [bi_of, bi_of, par_len, par_len]
    rfl⟩
/-! ### the ends of an edge lie on the board, apart -/
theorem ends_nat {r c e : Nat} (hB : Brd r c) (h : e < 2 * (r * c)) : ∃ a b : Nat, a < r * c ∧ b < r * c ∧ ((e : Int) / 2 = a) ∧ endB r c (e : Int) = b := by
  obtain ⟨h1, h2, h3, h4⟩ := hB
  have hrc : (((r * c : Nat) : Int)) = (r : Int) * c := Int.natCast_mul r c
  have hb := endB_in (r := r) (c := c) (e := e) (by omega) (by omega) (by omega) (by omega) ⟨by omega, by rw [← hrc]; omega⟩
  rw [← hrc] at hb
  exact ⟨e / 2, (endB r c e).toNat, by omega, by omega, by omega, by omega⟩
theorem uu_even {r c e : Nat} (hB : Brd r c) (h : e < 2 * (r * c)) : px (r * c) (uu r c e) = false := by
  obtain ⟨a, b, ha, hb, ea, eb⟩ := ends_nat hB h
  have e1 : px (r * c) (uu r c e) = px (r * c) fun k => decide (k = a) ^^ decide (k = b) := px_congr fun k _ => by
    unfold uu
    rw [ea, eb]
    congr 1 <;> (apply decide_eq_decide.mpr; omega)
  rw [e1, px_xor, px_dec ha, px_dec hb]; rfl
theorem lit_even {r c : Nat} (hB : Brd r c) (f : Nat → Bool) : px (r * c) (lit r c f) = false := by
  unfold lit
  rw [px_swap]
  rw [px_congr (g := fun _ => false) fun e he => by rw [px_and, uu_even hB he, Bool.and_false], px_ff]
theorem right_ne {c s : Nat} (hc : 2 ≤ c) : rightI c s ≠ (s : Int) := by
  unfold rightI
  have a1 := Int.emod_nonneg (s : Int) (show (c : Int) ≠ 0 by omega)
  have a2 := Int.emod_lt_of_pos (s : Int) (show 0 < (c : Int) by omega)
  intro h
  have h2 : ((s : Int) + 1) % c = (s : Int) % c := by omega
  by_cases q : (s : Int) % c + 1 < c
  · have : ((s : Int) + 1) % c = (s : Int) % c + 1 := by
      rw [Int.add_emod, Int.emod_eq_of_lt (show 0 ≤ (1 : Int) by decide) (show (1 : Int) < c by omega)]
      exact Int.emod_eq_of_lt (by omega) q
    omega
  · have e1 : (s : Int) % c + 1 = c := by omega
    have : ((s : Int) + 1) % c = 0 := by
      rw [Int.add_emod, Int.emod_eq_of_lt (show 0 ≤ (1 : Int) by decide) (show (1 : Int) < c by omega), e1, Int.emod_self]
    omega
theorem sel_two {n a b : Nat} (ha : a < n) (hb : b < n) (hab : a ≠ b) : (sel n fun k => decide (k = a) ^^ decide (k = b)).length = 2 := by
  have nd : [(a : Int), (b : Int)].Nodup := by simp; omega
  have e : (sel n fun k => decide (k = a) ^^ decide (k = b)) = srt [(a : Int), (b : Int)] := rise_eq (sel_rise _ _) (srt_lt nd) fun x => by
    rw [(srt_perm _).mem_iff, mem_sel]
    constructor
    · rintro ⟨k, rfl, _, h⟩
      by_cases q : k = a
      · subst q; simp
      · by_cases q2 : k = b
        · subst q2; simp
        · rw [decide_eq_false q, decide_eq_false q2] at h; cases h
    · intro h
      simp at h
      rcases h with rfl | rfl
      · exact ⟨a, rfl, ha, by rw [decide_eq_true rfl, decide_eq_false hab]; rfl⟩
      · exact ⟨b, rfl, hb, by rw [decide_eq_true rfl, decide_eq_false (Ne.symm hab)]; rfl⟩
  rw [e, (srt_perm _).length_eq]; rfl
section
variable {K : PySem.W.Frag} {Δ : Sl} {ta tb : TE} {t u : TT} {x : Dt}
theorem et_ne (ha : Ev K ta Δ x) (hb : Ev K tb Δ x) (hs : SeqAt.shaped x = true) : EvT K (tTest (tOp (rNeD K) ta tb)) Δ false :=
  et_is (et_test (ev_op ha hb (rv_neD hs hs))) (by rw [SeqAt.eqv_refl _ (SeqAt.canLay_of_shaped hs)]; rfl)
theorem et_or_ff (h : EvT K t Δ false) (h2 : EvT K u Δ false) : EvT K (tOr t u) Δ false := et_is (et_or h fun _ => h2) rfl
theorem lt_row {L : Addr} {n : Nat} (hl : Δ.length = n + 2) (h : Δ[1]? = some (some (.r L))) : Lt Δ (none :: some (.r L) :: List.replicate n none) := by
  refine ⟨by simp [hl], fun i w hi => ?_⟩
  match i with
  | 0 => cases hi
  | 1 => cases hi; exact h
  | i + 2 =>
    have hi' : (List.replicate n (none : Option Wd))[i]? = some (some w) := by simpa using hi
    rw [List.getElem?_replicate] at hi'
    split at hi' <;> cases hi'
theorem ti_nil : (PyData.tuple [] : Dt) = ti [] := rfl
theorem ev_nil {n : Nat} : Ev K (tTup tNil) Δ (ti (sel n fun _ => false)) := ev_is (ev_tup ea_nil (by decide)) (by rw [sel_ff]; rfl)
theorem bd_bi (a b : Bool) : SeqAt.shaped (bd (bi a) (bi b)) = true := rfl
end
/-! ### the law's turn -/
def pre (f : Nat → Bool) (N i : Nat) (k : Nat) : Bool := hasI (k : Int) ((sel N f).take i)
theorem pre_zero (f : Nat → Bool) (N : Nat) (k : Nat) : pre f N 0 k = false := rfl
theorem pre_all {f : Nat → Bool} {N k : Nat} (h : k < N) : pre f N (sel N f).length k = f k := by
  unfold pre
  rw [List.take_length]
  exact hasI_sel h
theorem pre_succ {f : Nat → Bool} {N i e : Nat} (h : (sel N f)[i]? = some (e : Int)) (k : Nat) : pre f N (i + 1) k = (pre f N i k ^^ decide (k = e)) := by
  unfold pre
  rw [List.take_add_one, h]
  show hasI (k : Int) ((sel N f).take i ++ [(e : Int)]) = _
  have nn : (e : Int) ∉ (sel N f).take i := fun hm => by
    have nd := sel_nodup N f
    obtain ⟨j, hj, ej⟩ := List.mem_iff_getElem.mp hm
    rw [List.length_take] at hj
    rw [List.getElem_take] at ej
    obtain ⟨hi, ei⟩ := List.getElem?_eq_some_iff.mp h
    have := (List.getElem_inj nd).mp (ej.trans ei.symm)
    omega
  by_cases q : k = e
  · subst q
    rw [decide_eq_true rfl]
    have e1 : hasI (k : Int) ((sel N f).take i ++ [(k : Int)]) = true := hasI_mem.mpr (by simp)
    have e2 : hasI (k : Int) ((sel N f).take i) = false := by
      cases h2 : hasI (k : Int) ((sel N f).take i) with
      | false => rfl
      | true => exact absurd (hasI_mem.mp h2) nn
    rw [e1, e2]; rfl
  · rw [decide_eq_false q, Bool.xor_false]
    cases h2 : hasI (k : Int) ((sel N f).take i) with
    | true => exact hasI_mem.mpr (List.mem_append_left _ (hasI_mem.mp h2))
    | false =>
      cases h3 : hasI (k : Int) ((sel N f).take i ++ [(e : Int)]) with
      | false => rfl
      | true =>
        rcases List.mem_append.mp (hasI_mem.mp h3) with h4 | h4
        · rw [hasI_mem.mpr h4] at h2; cases h2
        · simp at h4; omega
theorem upto_filter (n : Nat) (g : Nat → Bool) (p : Dt → Bool) (hp : ∀ k : Nat, k < n → p (.int (0 + (k : Int))) = g k) : ((upto 0 n).filter p).map (fun d => d) = (sel n g).map PyData.int := by
  unfold upto sel
  rw [List.filter_map, List.map_map, List.map_map]
  have e2 : (List.range n).filter (p ∘ fun (i : Nat) => PyData.int (0 + (i : Int))) = (List.range n).filter g := List.filter_congr fun k hk => hp k (List.mem_range.mp hk)
  rw [e2]
  apply List.map_congr_left
  intro i _
  show PyData.int (0 + (i : Int)) = PyData.int (i : Int)
  rw [Int.zero_add]
end Sb

namespace Sb
open PySem PySem.Spec PyProof.Rows L2
section
variable {P : Program} {w : World} {K : PySem.W.Frag} {mg : Str → Option Value} {base : Heap}
abbrev s__law_alike : Stmt := topS 33
abbrev N__law_alike : List Str := ["_law_one", "_law_due", "_law_k"]
theorem sc__law_alike : FnScope N__law_alike ["_law_one", "_law_due"] (defScope s__law_alike) := ⟨rfl, rfl, rfl, by decide +kernel, rfl, by decide +kernel, by decide +kernel⟩
theorem bi__law_alike : BindsAt "_law_alike" s__law_alike ["_law_one", "_law_due"] := fun _ _ _ _ _ _ us hl => match us, hl with | [_, _], _ => rfl

/-- data of so many levels -/
def dep : Nat → Dt → Bool
  | 0, _ => false
  | _ + 1, .none => true
  | _ + 1, .bool _ => true
  | _ + 1, .int _ => true
  | _ + 1, .str _ => true
  | n + 1, .tuple xs => xs.all (dep n) && decide (xs.length ≤ 1000)
  | n + 1, .list xs => xs.all (dep n) && decide (xs.length ≤ 1000)
  | _ + 1, _ => false
def F_alike : Nat → List Dt → Dt → Prop
  | 0, _, _ => False
  | n + 1, ds, d => ∃ x, ds = [x, x] ∧ dep (n + 1) x = true ∧ SeqAt.shaped x = true ∧ (∀ xs, x = .tuple xs ∨ x = .list xs → ∀ y ∈ xs, SeqAt.shaped y = true ∧ ∀ ys, y = .tuple ys ∨ y = .list ys → ∀ z ∈ ys, SeqAt.shaped z = true ∧ ∀ zs, ¬ (z = .tuple zs ∨ z = .list zs)) ∧ d = .bool true
theorem ok__law_alike (A : FnAt K mg "_law_alike" s__law_alike) (b_isinstance : mg "isinstance" = none) (b_tuple : mg "tuple" = none) (b_list : mg "list" = none) (b_len : mg "len" = none) (b_range : mg "range" = none) (b_bool : mg "bool" = none) : ∀ n : Nat, Has P w K mg base "_law_alike" n ["_law_one", "_law_due"] (spD K (F_alike n))
  | 0 => has_none A bi__law_alike 0
  | n + 1 => by
    have h__law_alike := ok__law_alike A b_isinstance b_tuple b_list b_len b_range b_bool n
    have nd := sc__law_alike.nd
    refine has_pure A bi__law_alike sc__law_alike (fun ds d ⟨_, h, _⟩ => by rw [h]; rfl) fun cdv f A outer s H E hr => ⟨_, (pss_cons (ps_if (PW.pt (pw_and (pt_val (pe_callB (kc_isiT (K := K) (by rfl)) (by rfl) b_isinstance (by decide +kernel) (pa_cons (pv 0) (pa_cons (pe_tup (pa_cons (pe_bltn (v := .ty "tuple") (by rfl) b_tuple (by decide +kernel) rfl) (pa_cons (pe_bltn (v := .ty "list") (by rfl) b_list (by decide +kernel) rfl) pa_nil))) pa_nil)))) (pw_and1 (pt_val (pe_callB (kc_isiT (K := K) (by rfl)) (by rfl) b_isinstance (by decide +kernel) (pa_cons (pv 1) (pa_cons (pe_tup (pa_cons (pe_bltn (v := .ty "tuple") (by rfl) b_tuple (by decide +kernel) rfl) (pa_cons (pe_bltn (v := .ty "list") (by rfl) b_list (by decide +kernel) rfl) pa_nil))) pa_nil))))))) (pss_cons (ps_if (PW.pt (pw_or (pt_cmpR (op_neK (K := K) (by rfl) (by exact hr.units)) (pe_callB (kc_isi (K := K) (by rfl)) (by rfl) b_isinstance (by decide +kernel) (pa_cons (pv 0) (pa_cons (pe_bltn (v := .ty "tuple") (by rfl) b_tuple (by decide +kernel) rfl) pa_nil))) (pe_callB (kc_isi (K := K) (by rfl)) (by rfl) b_isinstance (by decide +kernel) (pa_cons (pv 1) (pa_cons (pe_bltn (v := .ty "tuple") (by rfl) b_tuple (by decide +kernel) rfl) pa_nil))) (nomark _)) (pw_or1 (pt_cmpR (op_neK (K := K) (by rfl) (by exact hr.units)) (pe_callB (kc_len (K := K) (by rfl)) (by rfl) b_len (by decide +kernel) (pa_cons (pv 0) pa_nil)) (pe_callB (kc_len (K := K) (by rfl)) (by rfl) b_len (by decide +kernel) (pa_cons (pv 1) pa_nil)) (nomark _))))) (pss_one (ps_ret pe_bl)) pss_nil)
    (pss_one (ps_ret (pe_cmpR (op_eqK (K := K) (by rfl) (by exact hr.units)) (pe_lc (own := [("_law_k", 2)]) (g := gName 2) (by rfl) nd (pi_range1 (by rfl) b_range (pa_cons (pe_callB (kc_len (K := K) (by rfl)) (by rfl) b_len (by decide +kernel) (pa_cons (pv 0) pa_nil)) pa_nil)) (blkOk_by (own := [("_law_k", 2)]) (N := N__law_alike) (sc := defScope s__law_alike) (by decide +kernel)) (fun _ _ _ _ _ => (pg_name (i := 2) nd rfl (by first | exact .inl rfl | exact .inr rfl))) (fun _ _ _ _ _ => (pts_one (pt_not (pt_val (ca h__law_alike hr (by rfl) (pa_cons (pe_ix (ix_orK (K := K) (by rfl)) (pv 0) (pv 2) (fun _ _ => rfl)) (pa_cons (pe_ix (ix_orK (K := K) (by rfl)) (pv 1) (pv 2) (fun _ _ => rfl)) pa_nil))))))) (fun _ _ _ _ _ => (pv 2))) (pe_lst pa_nil) (nomark _))))) pss_nil)
    (pss_one (ps_ret (pe_and (pe_cmpR (op_eqK (K := K) (by rfl) (by exact hr.units)) (pv 0) (pv 1) (nomark _)) (pe_one (pe_cmpR (op_eqK (K := K) (by rfl) (by exact hr.units)) (pe_callB (kc_isi (K := K) (by rfl)) (by rfl) b_isinstance (by decide +kernel) (pa_cons (pv 0) (pa_cons (pe_bltn (v := .ty "bool") (by rfl) b_bool (by decide +kernel) rfl) pa_nil))) (pe_callB (kc_isi (K := K) (by rfl)) (by rfl) b_isinstance (by decide +kernel) (pa_cons (pv 1) (pa_cons (pe_bltn (v := .ty "bool") (by rfl) b_bool (by decide +kernel) rfl) pa_nil))) (nomark _))))))), fun ds d hF => .inl ?_⟩
    obtain ⟨x, rfl, hd, hs, hy, rfl⟩ := hF
    cases hk : kTL x with
    | false =>
      refine sx_skip (et_is (et_and (b := false) (et_B (ev_isiTL (ev_var rfl))) fun h => absurd (hk.symm.trans h) (by decide)) (by rw [hk]; rfl)) ?_
      refine sx_ret (ev_is (ev_andV (ev_op (ev_var rfl) (ev_var rfl) (rv_eqD hs hs)) fun _ => ev_op (ev_isi (ev_var rfl) (kit_B x)) (ev_isi (ev_var rfl) (kit_B x)) (rv_eqD rfl rfl)) ?_)
      rw [SeqAt.eqv_refl _ (SeqAt.canLay_of_shaped hs), eqv_bool]
      cases kB x <;> rfl
    | true =>
      refine sx_take (et_is (et_and (et_B (ev_isiTL (ev_var rfl))) fun _ => et_B (ev_isiTL (ev_var rfl))) (by rw [hk]; rfl)) ?_
      have xs : ∃ xs, (x = .tuple xs ∨ x = .list xs) ∧ (xs.all (dep n) = true ∧ xs.length ≤ 1000) := by
        cases x with
        | tuple xs => exact ⟨xs, .inl rfl, by simpa [dep] using hd⟩
        | list xs => exact ⟨xs, .inr rfl, by simpa [dep] using hd⟩
        | _ => cases hk
      obtain ⟨xs, hx, hall, hlen⟩ := xs
      have ln : ∀ {Δ : Sl} {i : Nat}, Δ[i]? = some (some (.d x)) → Ev K (tCB (rLen K) (tCons (tVar i) tNil)) Δ (.int (xs.length : Int)) := fun h => by
        rcases hx with rfl | rfl
        · exact ev_cb (ea_cons (ev_var h) ea_nil) rc_lenT
        · exact ev_cb (ea_cons (ev_var h) ea_nil) rc_lenL
      refine sx_skip (et_or_ff (et_ne (ev_isi (ev_var rfl) (kit_T x)) (ev_isi (ev_var rfl) (kit_T x)) rfl) (et_ne (ln rfl) (ln rfl) rfl)) ?_
      refine sx_ret (ev_is (ev_op (ev_of (en_lc (K := K) (js := [2]) (vs := [2]) (fun _ => false) (fun d => d) (fun d => [some (.d x), some (.d x), some (.d d)])
        (ei_rng1 (ea_cons (ln rfl) ea_nil) ⟨by omega, by omega⟩) (by rw [upto_len]; omega) (by simp) (fun d hd => eg_name) (fun d hd => ?_) (fun d hd hp => nomatch hp))) (ev_of (en_lst ea_nil (by decide))) (rv_eqD ?_ rfl)) ?_)
      · obtain ⟨i, hi, rfl⟩ := List.mem_map.mp hd
        rw [List.mem_range, Int.toNat_natCast] at hi
        have hy2 := List.getElem_mem hi
        have hdn : dep n xs[i] = true := List.all_eq_true.mp hall _ hy2
        obtain ⟨s1, s2⟩ := hy xs hx xs[i] hy2
        have at1 : ∀ {Δ : Sl} {j : Nat}, Δ[j]? = some (some (.d x)) → Δ[2]? = some (some (.d (.int (0 + (i : Int))))) → Ev K (tOp (rIxO K) (tVar j) (tVar 2)) Δ xs[i] := fun h h2 => by
          have g : atI xs (0 + (i : Int)) = some xs[i] := by rw [Int.zero_add]; exact atI_nat (List.getElem?_eq_getElem hi)
          rcases hx with rfl | rfl
          · exact ev_op (ev_var h) (ev_var h2) (rv_ixOT g)
          · exact ev_op (ev_var h) (ev_var h2) (rv_ixOL g)
        cases n with
        | zero => cases hdn
        | succ n =>
          refine et_is (et_not (et_B (ev_call (F := F_alike (n + 1)) (ea_cons (at1 rfl rfl) (ea_cons (at1 rfl rfl) ea_nil)) ⟨xs[i], rfl, hdn, s1, fun ys h z hz => ⟨(s2 ys h z hz).1, fun zs h2 => absurd h2 ((s2 ys h z hz).2 zs)⟩, rfl⟩))) rfl
      · rw [List.filter_eq_nil_iff.mpr fun _ _ => by decide]; rfl
      · rw [List.filter_eq_nil_iff.mpr fun _ _ => by decide]; rfl
/-- two that are the same are alike: numbers, truths, tuples of numbers, lists of such tuples -/
inductive Plain : Dt → Prop where
  | no : Plain .none
  | ti (ns : List Int) (h : ns.length ≤ 1000) : Plain (ti ns)
  | str (z : Str) (h : SeqAt.shaped (.str z) = true) : Plain (.str z)
  | pair (ns ms : List Int) (h : ns.length ≤ 1000) (h2 : ms.length ≤ 1000) : Plain (.tuple [ti ns, ti ms])
  | two (ns ms : List Int) (h : ns.length ≤ 1000) (h2 : ms.length ≤ 1000) : Plain (.list [ti ns, ti ms])
theorem dep_ints (n : Nat) (ns : List Int) (h : ns.length ≤ 1000) : dep (n + 2) (ti ns) = true := by
  show ((ns.map PyData.int).all (dep (n + 1)) && decide ((ns.map PyData.int).length ≤ 1000)) = true
  rw [List.length_map, decide_eq_true h, Bool.and_true, List.all_eq_true]
  intro y hy
  obtain ⟨i, _, rfl⟩ := List.mem_map.mp hy
  rfl
theorem alike_at {x : Dt} (h : Plain x) : F_alike 4 [x, x] (.bool true) := by
  cases h with
  | no => exact ⟨_, rfl, rfl, rfl, (fun xs h => by rcases h with h | h <;> cases h), rfl⟩
  | str z hz => exact ⟨_, rfl, rfl, hz, (fun xs h => by rcases h with h | h <;> cases h), rfl⟩
  | ti ns h =>
    refine ⟨_, rfl, dep_ints 2 ns h, shaped_ti ns, fun xs h y hy => ?_, rfl⟩
    rcases h with h | h
    · cases h
      obtain ⟨i, _, rfl⟩ := List.mem_map.mp hy
      exact ⟨rfl, fun ys h => by rcases h with h | h <;> cases h⟩
    · cases h
  | two ns ms h h2 =>
    refine ⟨_, rfl, ?_, ?_, fun xs h y hy => ?_, rfl⟩
    · show ((dep 3 (ti ns) && (dep 3 (ti ms) && true)) && true) = true
      rw [dep_ints 1 ns h, dep_ints 1 ms h2]; rfl
    · have a := shaped_ti ns
      have b := shaped_ti ms
      show ((PyData.canLay0 (ti ns) && (PyData.canLay0 (ti ms) && true)) && decide (max (PyData.depth (ti ns)) (max (PyData.depth (ti ms)) 0) + 1 ≤ 64)) = true
      rw [SeqAt.canLay_of_shaped a, SeqAt.canLay_of_shaped b]
      have d1 : PyData.depth (ti ns) = 1 := by show PyData.depthAll (ns.map PyData.int) + 1 = 1; rw [depth_ints]
      have d2 : PyData.depth (ti ms) = 1 := by show PyData.depthAll (ms.map PyData.int) + 1 = 1; rw [depth_ints]
      rw [d1, d2]; rfl
    · rcases h with h | h
      · cases h
      · cases h
        have hq : ∃ ks : List Int, y = ti ks := by
          simp at hy
          rcases hy with rfl | rfl
          · exact ⟨_, rfl⟩
          · exact ⟨_, rfl⟩
        obtain ⟨ks, rfl⟩ := hq
        refine ⟨shaped_ti ks, fun ys h z hz => ?_⟩
        rcases h with h | h
        · cases h
          obtain ⟨i, _, rfl⟩ := List.mem_map.mp hz
          exact ⟨rfl, fun zs h => by rcases h with h | h <;> cases h⟩
        · cases h
  | pair ns ms h h2 =>
    refine ⟨_, rfl, ?_, ?_, fun xs h y hy => ?_, rfl⟩
    · show ((dep 3 (ti ns) && (dep 3 (ti ms) && true)) && true) = true
      rw [dep_ints 1 ns h, dep_ints 1 ms h2]; rfl
    · have a := shaped_ti ns
      have b := shaped_ti ms
      show ((PyData.canLay0 (ti ns) && (PyData.canLay0 (ti ms) && true)) && decide (max (PyData.depth (ti ns)) (max (PyData.depth (ti ms)) 0) + 1 ≤ 64)) = true
      rw [SeqAt.canLay_of_shaped a, SeqAt.canLay_of_shaped b]
      have d1 : PyData.depth (ti ns) = 1 := by show PyData.depthAll (ns.map PyData.int) + 1 = 1; rw [depth_ints]
      have d2 : PyData.depth (ti ms) = 1 := by show PyData.depthAll (ms.map PyData.int) + 1 = 1; rw [depth_ints]
      rw [d1, d2]; rfl
    · rcases h with h | h
      rotate_left
      · cases h
      · cases h
        have hq : ∃ ks : List Int, y = ti ks := by
          simp at hy
          rcases hy with rfl | rfl
          · exact ⟨_, rfl⟩
          · exact ⟨_, rfl⟩
        obtain ⟨ks, rfl⟩ := hq
        refine ⟨shaped_ti ks, fun ys h z hz => ?_⟩
        rcases h with h | h
        · cases h
          obtain ⟨i, _, rfl⟩ := List.mem_map.mp hz
          exact ⟨rfl, fun zs h => by rcases h with h | h <;> cases h⟩
        · cases h
theorem et_alike {Δ : Sl} {ta tb : TE} {x : Dt} (hx : Plain x) (ha : Ev K ta Δ x) (hb : Ev K tb Δ x) : EvT K (tNot (tB (tCall (spD K (F_alike 4)) [] E0 (tCons ta (tCons tb tNil))))) Δ false :=
  et_is (et_not (et_B (ev_call (ea_cons ha (ea_cons hb ea_nil)) (alike_at hx)))) rfl
theorem plain_sel (n : Nat) (f : Nat → Bool) (h : n ≤ 1000) : Plain (ti (sel n f)) := .ti _ (Nat.le_trans (sel_len n f) h)
theorem plain_two (n : Nat) (f : Nat → Bool) (a b : Int) (h : n ≤ 1000) : Plain (.list [ti (sel n f), bd a b]) := .two (sel n f) [a, b] (Nat.le_trans (sel_len n f) h) (by show 2 ≤ 1000; decide)
end
end Sb

namespace Sb
open PySem PySem.Spec PyProof.Rows L2
section
variable {P : Program} {w : World} {K : PySem.W.Frag} {mg : Str → Option Value} {base : Heap}
/-! ### led -/
/-- which faces are turned, row by row -/
def fwS (c : Nat) (a : Nat → Bool) (n : Nat) (t : List Bool) : Bool := if n = 0 then false else if n % c = 0 then (t.getD (n - c) false ^^ a (2 * n)) else (t.getD (n - 1) false ^^ a (2 * n + 1))
def fwL (c : Nat) (a : Nat → Bool) : Nat → List Bool
  | 0 => []
  | n + 1 => fwL c a n ++ [fwS c a n (fwL c a n)]
def fw (c : Nat) (a : Nat → Bool) (k : Nat) : Bool := fwS c a k (fwL c a k)
theorem fwL_len (c : Nat) (a : Nat → Bool) : ∀ n, (fwL c a n).length = n
  | 0 => rfl
  | n + 1 => by
    show (fwL c a n ++ [_]).length = n + 1
    rw [List.length_append, fwL_len c a n]; rfl
theorem fwL_map (c : Nat) (a : Nat → Bool) : ∀ n : Nat, fwL c a n = (List.range n).map (fw c a)
  | 0 => rfl
  | n + 1 => by
    show fwL c a n ++ [fw c a n] = _
    rw [List.range_succ, List.map_append, ← fwL_map c a n]; rfl
theorem fwL_get (c : Nat) (a : Nat → Bool) {n k : Nat} (h : k < n) : (fwL c a n)[k]? = some (fw c a k) := by
  rw [fwL_map, List.getElem?_map, List.getElem?_range h]; rfl
theorem fwL_getD (c : Nat) (a : Nat → Bool) {n k : Nat} (h : k < n) : (fwL c a n).getD k false = fw c a k := by
  rw [List.getD_eq_getElem?_getD, fwL_get c a h]; rfl
theorem fw_zero (c : Nat) (a : Nat → Bool) : fw c a 0 = false := rfl
theorem fw_up {c : Nat} (a : Nat → Bool) {k : Nat} (h0 : 0 < c) (h : k % c = 0) (hk : 0 < k) : fw c a k = (fw c a (k - c) ^^ a (2 * k)) := by
  show fwS c a k (fwL c a k) = _
  unfold fwS
  rw [if_neg (by omega), if_pos h, fwL_getD c a (show k - c < k by omega)]
theorem fw_left {c : Nat} (a : Nat → Bool) {k : Nat} (h : ¬ k % c = 0) (hk : 0 < k) : fw c a k = (fw c a (k - 1) ^^ a (2 * k + 1)) := by
  show fwS c a k (fwL c a k) = _
  unfold fwS
  rw [if_neg (by omega), if_neg h, fwL_getD c a (show k - 1 < k by omega)]
def pTrue : Dt → Bool
  | .tuple [_, .bool b] => b
  | _ => false
theorem true_end (n : Nat) (g : Nat → Bool) : ((pairsFrom 0 (((List.range n).map g).map PyData.bool)).filter pTrue).map qFst = (sel n g).map .int := by
  rw [List.map_map, List.range_eq_range', pairs_range, List.filter_map, List.map_map, ← List.range_eq_range']
  unfold sel
  rw [List.map_map]
  rfl
theorem dps_bools {G : Hp} : ∀ (bs : List Bool), DpAll K G (bs.map V.bl) (bs.map PyData.bool)
  | [] => .nil
  | b :: bs => .cons (.bl b) (dps_bools bs)
abbrev s_faces_within : Stmt := topS 30
abbrev N_faces_within : List Str := ["board", "apart", "columns", "turns", "face", "turn"]
theorem sc_faces_within : FnScope N_faces_within ["board", "apart"] (defScope s_faces_within) := ⟨rfl, rfl, rfl, by decide +kernel, rfl, by decide +kernel, by decide +kernel⟩
theorem bi_faces_within : BindsAt "faces_within" s_faces_within ["board", "apart"] := fun _ _ _ _ _ _ us hl => match us, hl with | [_, _], _ => rfl

def F_faces_within (ds : List Dt) (d : Dt) : Prop := ∃ (r c : Nat) (a : Nat → Bool), ds = [bd r c, ti (sel (2 * (r * c)) a)] ∧ Brd r c ∧ d = ti (sel (r * c) (fw c a))
theorem ok_faces_within (A : FnAt K mg "faces_within" s_faces_within) (b_range : mg "range" = none) (b_tuple : mg "tuple" = none) (b_enumerate : mg "enumerate" = none) (h_site_count : Has P w K mg base "site_count" 1 ["board"] (spD K F_site_count)) : Has P w K mg base "faces_within" 2 ["board", "apart"] (spD K F_faces_within) := by
  have nd := sc_faces_within.nd
  refine has_pure A bi_faces_within sc_faces_within (fun ds d ⟨_, _, _, h, _⟩ => by rw [h]; rfl) fun cdv f A outer s H E hr => ⟨_, (pss_cons (ps_set (i := 2) nd rfl (by first | exact .inl rfl | exact .inr rfl) (pe_ix (ix_tupK (K := K) (by rfl)) (pv 0) pe_int (fun _ _ => rfl)))
    (pss_cons (ps_set (i := 3) nd rfl (by first | exact .inl rfl | exact .inr rfl) (pe_lst (pa_cons pe_bl pa_nil)))
    (pss_cons (ps_for PassesOwn.never rfl (pi_range2 (by rfl) b_range (pa_cons pe_int (pa_cons (ca h_site_count hr (by rfl) (pa_cons (pv 0) pa_nil)) pa_nil))) (pg_name (i := 4) nd rfl (by first | exact .inl rfl | exact .inr rfl)) (pss_one (ps_if (pt_cmpR (op_eqK (K := K) (by rfl) (by exact hr.units)) (pe_op op_mod (pv 4) (pv 2)) pe_int (nomark _)) (pss_one (ps_expr (pe_bm PySem.F.plainAttrs_list PySem.F.slot_list_append PySem.F.type_list_append mt_append (pv 3) (pa_cons (pe_cmpR (op_neK (K := K) (by rfl) (by exact hr.units)) (pe_ix (ix_listK (K := K) (by rfl)) (pv 3) (pe_op op_sub (pv 4) (pv 2)) (fun _ _ => rfl)) (pe_cmpR (op_inK (K := K) (by rfl)) (pe_op op_mul pe_int (pv 4)) (pv 1) (by rfl)) (nomark _)) pa_nil)))) (pss_one (ps_expr (pe_bm PySem.F.plainAttrs_list PySem.F.slot_list_append PySem.F.type_list_append mt_append (pv 3) (pa_cons (pe_cmpR (op_neK (K := K) (by rfl) (by exact hr.units)) (pe_ix (ix_listK (K := K) (by rfl)) (pv 3) (pe_op op_sub (pv 4) pe_int) (fun _ _ => rfl)) (pe_cmpR (op_inK (K := K) (by rfl)) (pe_op op_add (pe_op op_mul pe_int (pv 4)) pe_int) (pv 1) (by rfl)) (nomark _)) pa_nil)))))))
    (pss_one (ps_ret (pe_callTy (kc_tup (K := K) (by rfl)) (by rfl) b_tuple (by decide +kernel) (pa_cons (pe_lc (own := [("face", 4), ("turn", 5)]) (g := gTup _ 2 (gCons (gName 4) (gCons (gName 5) gNil))) (by rfl) nd (pi_enumK (K := K) (by rfl) (by rfl) b_enumerate (pa_cons (pv 3) pa_nil)) (blkOk_by (own := [("face", 4), ("turn", 5)]) (N := N_faces_within) (sc := defScope s_faces_within) (by decide +kernel)) (fun _ _ _ _ _ => (pg_tup (by rfl) (pgs_cons (pg_name (i := 4) nd rfl (by first | exact .inl rfl | exact .inr rfl)) (pgs_cons (pg_name (i := 5) nd rfl (by first | exact .inl rfl | exact .inr rfl)) pgs_nil)))) (fun _ _ _ _ _ => (pts_one (pt_val (pv 5)))) (fun _ _ _ _ _ => (pv 4))) pa_nil))))))), fun ds d hF => .inl ?_⟩
  obtain ⟨r, c, a, rfl, hB, rfl⟩ := hF
  obtain ⟨h1, h2, h3, h4⟩ := id hB
  have hrc : (((r * c : Nat) : Int)) = (r : Int) * c := Int.natCast_mul r c
  have hrc25 : r * c ≤ 25 := Nat.mul_le_mul h2 h4
  have hrc4 : 4 ≤ r * c := Nat.mul_le_mul h1 h3
  refine sx_let (ev_op (ev_var rfl) ev_int (rv_ixT rfl)) ?_
  intro D σ G H e s p
  refine sx_hidLst (K := K) (xs := [.bool false]) (ea_cons ev_bl ea_nil) (by decide) e s fun t vs G H s0 ht d1 => ?_
  have ev : vs = [V.bl false] := by
    cases d1 with
    | cons x y => cases y; cases x; rfl
  subst ev
  replace e := e.up s0.g
  replace p := p.step s0
  replace s := s0.s
  clear d1 s0
  have htG : G t = none := s.back ht
  have s2 : Stp G H G (upd H t (.lst ((fwL c a 1).map V.bl))) := .hid s ht
  have e1 : En K G (σ.set 3 (some (.ref t))) [some (.d (bd r c)), some (.d (ti (sel (2 * (r * c)) a))), some (.d (.int (c : Int))), some (.r t), none, none] := e.set (w := .r t) 3 rfl
  have hgo : Gr G (upd H t (.lst ((fwL c a 1).map V.bl))) := s2.s
  refine for_go (K := K) (ei_rng2 (i := 1) (j := ((r * c : Nat) : Int)) (ea_cons ev_int (ea_cons (ev_is (ev_call (F := F_site_count) (ea_cons (ev_var rfl) ea_nil) ⟨r, c, rfl, by omega, by omega, by omega, by omega, rfl⟩) (by rw [hrc])) ea_nil)) ⟨by decide, by decide⟩ ⟨by omega, by omega⟩) e1 hgo fun J G3 H3 s3 wk => ?_
  have en : (((r * c : Nat) : Int) - 1).toNat = r * c - 1 := by omega
  rw [en] at wk
  have ht1 : (upd H t (.lst ((fwL c a 1).map V.bl))) t ≠ none := by rw [upd_same]; simp
  refine ⟨fun i m σ' H' => m = (upto 1 (r * c - 1)).length - i ∧ i ≤ (upto 1 (r * c - 1)).length ∧ ∃ G', Stp G H G' H' ∧ Gr G3 G' ∧ G' t = none ∧ H' t = some (.lst ((fwL c a (i + 1)).map V.bl)) ∧ En K G' σ' [some (.d (bd r c)), some (.d (ti (sel (2 * (r * c)) a))), some (.d (.int (c : Int))), some (.r t), none, none],
    ⟨_, rfl, Nat.zero_le _, G3, s2.trans s3, .refl _, s3.f t ht1 htG, s3.h _ _ upd_same, e1.up s3.g⟩, ?_⟩
  rintro i m σ' H' ⟨rfl, hle, G', s', g', n', h', e'⟩
  by_cases hlt : i < (upto 1 (r * c - 1)).length
  · refine .inr ⟨wk.go i G' H' g' s'.s hlt, fun σ'' H'' => ∃ G'', Stp G H G'' H'' ∧ Gr G3 G'' ∧ G'' t = none ∧ H'' t = some (.lst ((fwL c a (i + 1 + 1)).map V.bl)) ∧ En K G'' σ'' [some (.d (bd r c)), some (.d (ti (sel (2 * (r * c)) a))), some (.d (.int (c : Int))), some (.r t), none, none],
      fun σ'' H'' ⟨G'', a1, a2, a3, a4, a5⟩ => ⟨(upto 1 (r * c - 1)).length - (i + 1), by omega, rfl, hlt, G'', a1, a2, a3, a4, a5⟩, fun x H2 y => ?_⟩
    obtain ⟨G2, d, s4, hd, dx⟩ := wk.yld i G' H' x H2 g' s'.s hlt y
    rw [upto_len] at hlt
    rw [upto_get hlt] at hd
    cases hd
    have hki : (1 : Int) + (i : Int) = ((i + 1 : Nat) : Int) := by omega
    rw [hki] at dx
    have e2 := (e'.up s4.g).set (w := .d (.int ((i + 1 : Nat) : Int))) 4 dx
    have hh2 : H2 t = some (.lst ((fwL c a (i + 1)).map V.bl)) := s4.h _ _ h'
    have n2 : G2 t = none := s4.f t (by rw [h']; simp) n'
    have st2 := s'.trans s4
    have gg2 := g'.trans s4.g
    clear dx y
    have hkn : i + 1 < r * c := by omega
    -- a branch: append of one more truth
    have push : ∀ (te : TE) (b : Bool) (G5 H5 : Hp) (nx : L2.St → Hp → Prop) (rt : VK) (bk ct : L2.St → Hp → Prop), Stp G2 H2 G5 H5 → fwL c a (i + 1 + 1) = fwL c a (i + 1) ++ [b] →
        (∀ Q : VK, (∀ G6 H6, Stp G5 H5 G6 H6 → Q (.bl b) H6) → te (σ'.set 4 (some x)) H5 Q) →
        (∀ σ'' H'', (∃ G'', Stp G H G'' H'' ∧ Gr G3 G'' ∧ G'' t = none ∧ H'' t = some (.lst ((fwL c a (i + 1 + 1)).map V.bl)) ∧ En K G'' σ'' [some (.d (bd r c)), some (.d (ti (sel (2 * (r * c)) a))), some (.d (.int (c : Int))), some (.r t), none, none]) → nx σ'' H'') →
        tDrop (tBM K "list" rAppend (tVar 3) (tCons te tNil)) { nx := nx, rt := rt, bk := bk, ct := ct } (σ'.set 4 (some x)) H5 := fun te b G5 H5 nx rt bk ct s5 hb hte hnx => by
      obtain ⟨v3, hv3, dv3⟩ := e2.at_ 3 (.r t) rfl
      cases dv3
      have h5 : H5 t = some (.lst ((fwL c a (i + 1)).map V.bl)) := s5.h _ _ hh2
      refine ⟨_, hv3, .inl ⟨rfl, _, SqL.of h5⟩, hte _ fun G6 H6 s6 => ?_⟩
      have h6 : H6 t = some (.lst ((fwL c a (i + 1)).map V.bl)) := s6.h _ _ h5
      have n5 : G5 t = none := s5.f t (by rw [hh2]; simp) n2
      have n6 : G6 t = none := s6.f t (by rw [h5]; simp) n5
      refine ⟨t, _, _, rfl, rfl, h6, ?_, hnx _ _ ⟨G6, ((st2.trans s5).trans s6).put ht n6, (gg2.trans s5.g).trans s6.g, n6, ?_, ?_⟩⟩
      · rw [List.length_map, fwL_len]
        exact Evl.sz_lt (by omega)
      · rw [upd_same, hb, List.map_append]; rfl
      · have e3 := e2.up (s5.g.trans s6.g)
        refine ⟨by rw [e3.len]; rfl, fun j u hj => ?_⟩
        match j with
        | 0 => exact e3.at_ 0 u hj
        | 1 => exact e3.at_ 1 u hj
        | 2 => exact e3.at_ 2 u hj
        | 3 => exact e3.at_ 3 u hj
        | 4 => cases hj
        | 5 => cases hj
        | j + 6 => cases hj
    have one : fwL c a (i + 1 + 1) = fwL c a (i + 1) ++ [if i + 1 = 0 then false else if (i + 1) % c = 0 then ((fwL c a (i + 1)).getD (i + 1 - c) false ^^ a (2 * (i + 1))) else ((fwL c a (i + 1)).getD (i + 1 - 1) false ^^ a (2 * (i + 1) + 1))] := rfl
    rw [if_neg (show ¬ i + 1 = 0 by omega)] at one
    -- the truth that is put: turns[k] != (x in apart)
    have val : ∀ (G5 H5 : Hp) (ti1 te1 : TE) (k j : Nat), Stp G2 H2 G5 H5 → k < i + 1 → j < 2 * (r * c) →
        (∀ Δ : Sl, Δ = [some (.d (bd r c)), some (.d (ti (sel (2 * (r * c)) a))), some (.d (.int (c : Int))), some (.r t), some (.d (.int ((i + 1 : Nat) : Int))), none] → Ev K ti1 Δ (.int (k : Int)) ∧ Ev K te1 Δ (.int (j : Int))) →
        ∀ Q : VK, (∀ G6 H6, Stp G5 H5 G6 H6 → Q (.bl ((fwL c a (i + 1)).getD k false ^^ a j)) H6) → tOp (rNeD K) (tOp (rIxL K) (tVar 3) ti1) (tOp (rIn K false) te1 (tVar 1)) (σ'.set 4 (some x)) H5 Q := fun G5 H5 ti1 te1 k j s5 hk hj hev Q hQ => by
      obtain ⟨v3, hv3, dv3⟩ := e2.at_ 3 (.r t) rfl
      cases dv3
      have h5 : H5 t = some (.lst ((fwL c a (i + 1)).map V.bl)) := s5.h _ _ hh2
      obtain ⟨ev1, ev2⟩ := hev _ rfl
      refine ⟨_, hv3, ev1 _ G5 H5 _ (e2.up s5.g) s5.s fun v6 G6 H6 s6 d6 => ?_⟩
      cases d6
      have gk : ((fwL c a (i + 1)).map V.bl)[((k : Int)).toNat]? = some (.bl ((fwL c a (i + 1)).getD k false)) := by
        rw [Int.toNat_natCast, List.getElem?_map, fwL_get c a hk, fwL_getD c a hk]; rfl
      refine ⟨t, _, _, _, rfl, rfl, SqL.of (s6.h _ _ h5), at_nn (by omega) gk, ?_⟩
      have inn : Ev K (tOp (rIn K false) te1 (tVar 1)) [some (.d (bd r c)), some (.d (ti (sel (2 * (r * c)) a))), some (.d (.int (c : Int))), some (.r t), some (.d (.int ((i + 1 : Nat) : Int))), none] (.bool (a j)) := ev_is (ev_op ev2 (ev_var rfl) rv_inT) (by rw [hasI_sel hj])
      refine inn _ G6 H6 _ (e2.up (s5.g.trans s6.g)) s6.s fun v7 G7 H7 s7 d7 => ?_
      cases d7
      refine ⟨_, _, .bl _, .bl _, rfl, rfl, ?_⟩
      have e9 : (!PyData.eqv (.bool ((fwL c a (i + 1)).getD k false)) (.bool (a j))) = ((fwL c a (i + 1)).getD k false ^^ a j) := by
        rw [eqv_bool]
        cases (fwL c a (i + 1)).getD k false <;> cases a j <;> rfl
      rw [e9]
      exact hQ G7 H7 (s6.trans s7)
    have m2 : ∀ y : Int, CMul 2 y := fun y => cmul ⟨by decide, by decide⟩
    have tst : EvT K (tTest (tOp (rEqD K) (tOp (rI (fun _ j => 0 < j) fun i j => .int (i % j)) (tVar 4) (tVar 2)) (tC (.int 0)))) [some (.d (bd r c)), some (.d (ti (sel (2 * (r * c)) a))), some (.d (.int (c : Int))), some (.r t), some (.d (.int ((i + 1 : Nat) : Int))), none] (decide ((i + 1) % c = 0)) :=
      et_is (et_test (ev_op (ev_op (ev_var rfl) (ev_var rfl) (rv_I (by show (0 : Int) < (c : Int); omega))) ev_int (rv_eqD rfl rfl))) (by
        rw [eqv_int]
        apply decide_eq_decide.mpr
        have e9 : (((i + 1 : Nat) : Int)) % (c : Int) = (((i + 1) % c : Nat) : Int) := (Int.natCast_emod _ _).symm
        rw [e9]
        omega)
    refine tst _ G2 H2 _ e2 s4.s fun G5 H5 s5 => ?_
    by_cases hc : (i + 1) % c = 0
    · rw [decide_eq_true hc]
      have hge : c ≤ i + 1 := Nat.le_of_dvd (by omega) (Nat.dvd_of_mod_eq_zero hc)
      rw [if_pos hc] at one
      refine iteT (push _ _ G5 H5 _ _ _ _ s5 one (val G5 H5 _ _ (i + 1 - c) (2 * (i + 1)) s5 (by omega) (by omega) fun Δ hΔ => ?_) fun σ'' H'' q => q)
      subst hΔ
      exact ⟨ev_is (ev_op (ev_var rfl) (ev_var rfl) rv_I0) (by rw [Int.natCast_sub hge]), ev_is (ev_op ev_int (ev_var rfl) (rv_I (m2 _))) (by rw [Int.natCast_mul]; rfl)⟩
    · rw [decide_eq_false hc]
      rw [if_neg hc] at one
      refine iteF (push _ _ G5 H5 _ _ _ _ s5 one (val G5 H5 _ _ (i + 1 - 1) (2 * (i + 1) + 1) s5 (by omega) (by omega) fun Δ hΔ => ?_) fun σ'' H'' q => q)
      subst hΔ
      exact ⟨ev_is (ev_op (ev_var rfl) ev_int rv_I0) (by congr 1; omega), ev_is (ev_op (ev_op ev_int (ev_var rfl) (rv_I (m2 _))) ev_int rv_I0) (by congr 1)⟩
  · have he : i = (upto 1 (r * c - 1)).length := by omega
    subst he
    refine .inl ⟨wk.stop G' H' g' s'.s, ?_⟩
    rw [upto_len, show r * c - 1 + 1 = r * c by omega] at h'
    have s5 := s'.show ht n' h'
    have e5 : En K (upd G' t (.lst ((fwL c a (r * c)).map V.bl))) σ' [some (.d (bd r c)), some (.d (ti (sel (2 * (r * c)) a))), some (.d (.int (c : Int))), some (.l ((fwL c a (r * c)).map .bool)), none, none] := by
      refine ⟨e'.len, fun j u hj => ?_⟩
      match j with
      | 0 => exact (e'.up (.new n')).at_ 0 u hj
      | 1 => exact (e'.up (.new n')).at_ 1 u hj
      | 2 => exact (e'.up (.new n')).at_ 2 u hj
      | 3 =>
        cases hj
        obtain ⟨v2, hv2, dv2⟩ := e'.at_ 3 (.r t) rfl
        cases dv2
        exact ⟨_, hv2, t, _, rfl, upd_same, dps_bools _⟩
      | 4 => cases hj
      | 5 => cases hj
      | j + 6 => cases hj
    refine Sx.go (K := K) ?_ e5 s5.s (p.step s5)
    refine sx_ret (ev_is (ev_cb (ea_cons (ev_of (en_lc (js := [4, 5]) (vs := [4, 5]) pTrue qFst (fun d => match d with
      | .tuple [x, y] => [some (.d (bd r c)), some (.d (ti (sel (2 * (r * c)) a))), some (.d (.int (c : Int))), some (.l ((fwL c a (r * c)).map .bool)), some (.d x), some (.d y)]
      | _ => []) (ei_enum (ev_varL rfl)) ?_ (fun _ h => h) (fun d hd => ?_) (fun d hd => ?_) (fun d hd hp => ?_))) ea_nil) rc_tupL) ?_)
    · rw [pairs_len, List.length_map, fwL_len]; omega
    · obtain ⟨j, x, rfl, hx⟩ := pairs_mem hd
      exact eg_pair
    · obtain ⟨j, x, rfl, hx⟩ := pairs_mem hd
      obtain ⟨b, _, rfl⟩ := List.mem_map.mp hx
      exact et_B (ev_var rfl)
    · obtain ⟨j, x, rfl, hx⟩ := pairs_mem hd
      exact ev_var rfl
    · rw [fwL_map, true_end]
abbrev s_led : Stmt := topS 29
abbrev N_led : List Str := ["board", "one", "other", "apart"]
theorem sc_led : FnScope N_led ["board", "one", "other"] (defScope s_led) := ⟨rfl, rfl, rfl, by decide +kernel, rfl, by decide +kernel, by decide +kernel⟩
theorem bi_led : BindsAt "led" s_led ["board", "one", "other"] := fun _ _ _ _ _ _ us hl => match us, hl with | [_, _, _], _ => rfl

def F_led (ds : List Dt) (d : Dt) : Prop := ∃ (r c : Nat) (f g : Nat → Bool), ds = [bd r c, ti (sel (2 * (r * c)) f), ti (sel (2 * (r * c)) g)] ∧ Brd r c ∧
  (((sel (r * c) (lit r c fun k => f k ^^ g k) = [] ∧ sA r c (fun k => f k ^^ g k) = false ∧ sB r c (fun k => f k ^^ g k) = false) ∧ d = ti (sel (r * c) (fw c fun k => f k ^^ g k))) ∨
   (¬ (sel (r * c) (lit r c fun k => f k ^^ g k) = [] ∧ sA r c (fun k => f k ^^ g k) = false ∧ sB r c (fun k => f k ^^ g k) = false) ∧ d = .none))
theorem ok_led (A : FnAt K mg "led" s_led) (h_after : Has P w K mg base "after" 4 ["board", "one", "other"] (spD K F_after)) (h_checks : Has P w K mg base "checks" 4 ["board", "flips"] (spD K F_checks)) (h_seams : Has P w K mg base "seams" 4 ["board", "flips"] (spD K F_seams))
    (h_faces_within : Has P w K mg base "faces_within" 2 ["board", "apart"] (spD K F_faces_within)) : Has P w K mg base "led" 5 ["board", "one", "other"] (spD K F_led) := by
  have nd := sc_led.nd
  refine has_pure A bi_led sc_led (fun ds d ⟨_, _, _, _, h, _⟩ => by rw [h]; rfl) fun cdv f A outer s H E hr => ⟨_, (pss_cons (ps_set (i := 3) nd rfl (by first | exact .inl rfl | exact .inr rfl) (ca h_after hr (by rfl) (pa_cons (pv 0) (pa_cons (pv 1) (pa_cons (pv 2) pa_nil)))))
    (pss_cons (ps_if (PW.pt (pw_or (pt_cmpR (op_neK (K := K) (by rfl) (by exact hr.units)) (ca h_checks hr (by rfl) (pa_cons (pv 0) (pa_cons (pv 3) pa_nil))) (pe_tup pa_nil) (nomark _)) (pw_or1 (pt_cmpR (op_neK (K := K) (by rfl) (by exact hr.units)) (ca h_seams hr (by rfl) (pa_cons (pv 0) (pa_cons (pv 3) pa_nil))) (pe_tup (pa_cons pe_int (pa_cons pe_int pa_nil))) (nomark _))))) (pss_one (ps_ret pe_non)) pss_nil)
    (pss_one (ps_ret (ca h_faces_within (hr.mono (by decide)) (by rfl) (pa_cons (pv 0) (pa_cons (pv 3) pa_nil))))))), fun ds d hF => .inl ?_⟩
  obtain ⟨r, c, f, g, rfl, hB, hd⟩ := hF
  refine sx_let (ev_call (F := F_after) (ea_cons (ev_var rfl) (ea_cons (ev_var rfl) (ea_cons (ev_var rfl) ea_nil))) (after_at hB f g)) ?_
  generalize hh : (fun k => f k ^^ g k) = h at hd ⊢
  have tst := et_or (K := K) (et_test (ev_op (ev_call (Δ := [some (.d (bd r c)), some (.d (ti (sel (2 * (r * c)) f))), some (.d (ti (sel (2 * (r * c)) g))), some (.d (ti (sel (2 * (r * c)) h)))]) (F := F_checks) (E := E0) (ea_cons (ev_var (i := 0) rfl) (ea_cons (ev_var (i := 3) rfl) ea_nil)) (checks_at hB h)) (ev_tup ea_nil (by decide)) (rv_neD (shaped_ti _) (shaped_ti []))))
    fun _ => et_test (ev_op (ev_call (F := F_seams) (E := E0) (ea_cons (ev_var (i := 0) rfl) (ea_cons (ev_var (i := 3) rfl) ea_nil)) (seams_at hB h)) (ev_tup (ea_cons (ev_int (i := 0)) (ea_cons (ev_int (i := 0)) ea_nil)) (by show 2 ≤ 100000; decide)) (rv_neD (bd_bi _ _) (bd_bi false false)))
  have e1 : PyData.eqv (ti (sel (r * c) (lit r c h))) (.tuple []) = decide (sel (r * c) (lit r c h) = []) := eqv_ti _ []
  have e2 : PyData.eqv (bd (bi (sA r c h)) (bi (sB r c h))) (.tuple [.int 0, .int 0]) = (!sA r c h && !sB r c h) := by
    have := eqv_bd (bi (sA r c h)) (bi (sB r c h)) 0 0
    rw [this]
    cases sA r c h <;> cases sB r c h <;> rfl
  rw [e1, e2] at tst
  rcases hd with ⟨⟨a1, a2, a3⟩, rfl⟩ | ⟨a, rfl⟩
  · exact sx_skip (et_is tst (by rw [a2, a3, decide_eq_true a1]; rfl)) (sx_ret (ev_call (F := F_faces_within) (ea_cons (ev_var rfl) (ea_cons (ev_var rfl) ea_nil)) ⟨r, c, h, rfl, hB, rfl⟩))
  · refine sx_take (et_is tst ?_) (sx_ret ev_non)
    by_cases a1 : sel (r * c) (lit r c h) = []
    · cases a2 : sA r c h
      · cases a3 : sB r c h
        · exact absurd ⟨a1, a2, a3⟩ a
        · simp
      · simp
    · rw [decide_eq_false a1]; rfl
end
end Sb

namespace Sb
open PySem PySem.Spec PyProof.Rows L2
/-! the sixteen boards, one by one -/
def brds : List (Nat × Nat) := [(2, 2), (2, 3), (2, 4), (2, 5), (3, 2), (3, 3), (3, 4), (3, 5), (4, 2), (4, 3), (4, 4), (4, 5), (5, 2), (5, 3), (5, 4), (5, 5)]
theorem brd_mem {r c : Nat} (h : Brd r c) : (r, c) ∈ brds := by
  obtain ⟨h1, h2, h3, h4⟩ := h
  have a : r = 2 ∨ r = 3 ∨ r = 4 ∨ r = 5 := by omega
  have b : c = 2 ∨ c = 3 ∨ c = 4 ∨ c = 5 := by omega
  rcases a with rfl | rfl | rfl | rfl <;> rcases b with rfl | rfl | rfl | rfl <;> decide
end Sb

namespace Sb
open PySem PySem.Spec PyProof.Rows L2
/-! ### faces: what turning does, over all boards -/
def rightN (c s : Nat) : Nat := s - s % c + (s + 1) % c
def belowN (r c s : Nat) : Nat := (s + c) % (r * c)
def endN (r c e : Nat) : Nat := if e % 2 = 1 then belowN r c (e / 2) else rightN c (e / 2)
theorem right_nat (c s : Nat) : rightI c s = (rightN c s : Nat) := by
  unfold rightI rightN
  have h := Nat.mod_le s c
  rw [Int.natCast_add, Int.natCast_sub h, Int.natCast_emod, Int.natCast_emod]
  rfl
theorem below_nat (r c s : Nat) : belowI r c s = (belowN r c s : Nat) := by
  unfold belowI belowN
  rw [Int.natCast_emod, Int.natCast_mul]
  rfl
theorem end_nat (r c e : Nat) : endB r c (e : Int) = (endN r c e : Nat) := by
  have h2 : ((e : Nat) : Int) / 2 = ((e / 2 : Nat) : Int) := (Int.natCast_ediv e 2).symm
  unfold endB endN
  by_cases h : e % 2 = 1
  · rw [if_pos (by omega), if_pos h, h2, below_nat]
  · rw [if_neg (by omega), if_neg h, h2, right_nat]
def crAN (c e : Nat) : Bool := !decide (e % 2 = 1) && decide (e / 2 % c = c - 1)
def crBN (r c e : Nat) : Bool := decide (e % 2 = 1) && decide (e / 2 / c = r - 1)
theorem crA_nat {r c e : Nat} (hc : 2 ≤ c) : crA r c (e : Int) = crAN c e := by
  unfold crA crAN
  have e1 : decide ((e : Int) % 2 = 1) = decide (e % 2 = 1) := decide_eq_decide.mpr (by omega)
  have h2 : ((e : Nat) : Int) / 2 % (c : Int) = ((e / 2 % c : Nat) : Int) := by rw [Int.natCast_emod, Int.natCast_ediv]; rfl
  rw [e1, h2]
  congr 1
  exact decide_eq_decide.mpr (by omega)
theorem crB_nat {r c e : Nat} (hr : 2 ≤ r) : crB r c (e : Int) = crBN r c e := by
  unfold crB crBN
  have e1 : decide ((e : Int) % 2 = 1) = decide (e % 2 = 1) := decide_eq_decide.mpr (by omega)
  have h2 : ((e : Nat) : Int) / 2 / (c : Int) = ((e / 2 / c : Nat) : Int) := by rw [Int.natCast_ediv, Int.natCast_ediv]; rfl
  rw [e1, h2]
  congr 1
  exact decide_eq_decide.mpr (by omega)
theorem uu_nat (r c e k : Nat) : uu r c e k = (decide (k = e / 2) ^^ decide (k = endN r c e)) := by
  unfold uu
  rw [end_nat]
  congr 1
  · exact decide_eq_decide.mpr (by omega)
  · exact decide_eq_decide.mpr (by omega)
/-- face p has the edge e round it (an odd count of times) -/
def fb (r c p e : Nat) : Bool := decide (e = 2 * p) ^^ (decide (e = 2 * p + 1) ^^ (decide (e = 2 * belowN r c p) ^^ decide (e = 2 * rightN c p + 1)))
/-- what is flipped by turning the faces F -/
def tr (r c : Nat) (F : Nat → Bool) (e : Nat) : Bool := px (r * c) fun p => F p && fb r c p e
theorem cp_rnd (r c p e : Nat) : cp (e : Int) (rnd r c (p : Int)) = fb r c p e := by
  have e0 : rnd r c (p : Int) = [2 * (p : Int)] ++ ([2 * (p : Int) + 1] ++ ([2 * belowI r c p] ++ [2 * rightI c p + 1])) := rfl
  rw [e0, cp_app, cp_app, cp_app, cp_one, cp_one, cp_one, cp_one, below_nat, right_nat]
  unfold fb
  congr 1
  · exact decide_eq_decide.mpr (by omega)
  congr 1
  · exact decide_eq_decide.mpr (by omega)
  congr 1
  · exact decide_eq_decide.mpr (by omega)
  · exact decide_eq_decide.mpr (by omega)
theorem turned_at {r c : Nat} (hB : Brd r c) (f F : Nat → Bool) : F_turned [bd r c, ti (sel (2 * (r * c)) f), ti (sel (r * c) F)] (ti (sel (2 * (r * c)) fun k => f k ^^ tr r c F k)) :=
  ⟨r, c, _, _, rfl, hB, rise_sel _ _, rise_sel _ _, by
    refine congrArg ti (sel_congr fun k hk => ?_)
    · show _ = cp (k : Int) (sel (2 * (r * c)) f ++ (sel (r * c) F).flatMap (rnd r c))
      rw [cp_app, cp_sel f hk, cp_flat]
      congr 1
      unfold tr
      exact px_congr fun p _ => by rw [cp_rnd]⟩
theorem tr_xor (r c : Nat) (F G : Nat → Bool) (e : Nat) : tr r c (fun k => F k ^^ G k) e = (tr r c F e ^^ tr r c G e) := by
  unfold tr
  rw [← px_xor]
  exact px_congr fun p _ => and_xor _ _ _
theorem tr_congr {r c : Nat} {F G : Nat → Bool} (h : ∀ p, p < r * c → F p = G p) (e : Nat) : tr r c F e = tr r c G e := px_congr fun p hp => by rw [h p hp]
theorem tr_ff (r c e : Nat) : tr r c (fun _ => false) e = false := px_ff _
theorem tr_one {r c p : Nat} (h : p < r * c) (e : Nat) : tr r c (fun x => decide (x = p)) e = fb r c p e := px_one (fun x => fb r c x e) h
/-! small facts over the sixteen boards, by trying -/
def upN (r c s : Nat) : Nat := if s < c then s + r * c - c else s - c
def leftN (c s : Nat) : Nat := if s % c = 0 then s + c - 1 else s - 1
def chkFace : Bool := brds.all fun (r, c) => (List.range (r * c)).all fun p =>
  decide (belowN r c p < r * c) && decide (rightN c p < r * c) && decide (upN r c p < r * c) && decide (leftN c p < r * c) &&
  (!(crAN c (2 * p) ^^ (crAN c (2 * p + 1) ^^ (crAN c (2 * belowN r c p) ^^ crAN c (2 * rightN c p + 1))))) &&
  (!(crBN r c (2 * p) ^^ (crBN r c (2 * p + 1) ^^ (crBN r c (2 * belowN r c p) ^^ crBN r c (2 * rightN c p + 1))))) &&
  (List.range (r * c)).all fun s =>
    (!((decide (s = p) ^^ decide (s = endN r c (2 * p))) ^^ ((decide (s = p) ^^ decide (s = endN r c (2 * p + 1))) ^^ ((decide (s = belowN r c p) ^^ decide (s = endN r c (2 * belowN r c p))) ^^ (decide (s = rightN c p) ^^ decide (s = endN r c (2 * rightN c p + 1))))))) &&
    (fb r c p (2 * s) == (decide (p = s) ^^ decide (p = upN r c s))) && (fb r c p (2 * s + 1) == (decide (p = s) ^^ decide (p = leftN c s)))
theorem chkFace_ok : chkFace = true := by decide +kernel
structure FaceOk (r c p : Nat) : Prop where
  b : belowN r c p < r * c
  ri : rightN c p < r * c
  u : upN r c p < r * c
  l : leftN c p < r * c
  a1 : (crAN c (2 * p) ^^ (crAN c (2 * p + 1) ^^ (crAN c (2 * belowN r c p) ^^ crAN c (2 * rightN c p + 1)))) = false
  b1 : (crBN r c (2 * p) ^^ (crBN r c (2 * p + 1) ^^ (crBN r c (2 * belowN r c p) ^^ crBN r c (2 * rightN c p + 1)))) = false
  lit : ∀ s, s < r * c → (uu r c (2 * p) s ^^ (uu r c (2 * p + 1) s ^^ (uu r c (2 * belowN r c p) s ^^ uu r c (2 * rightN c p + 1) s))) = false
  ev : ∀ s, s < r * c → fb r c p (2 * s) = (decide (p = s) ^^ decide (p = upN r c s))
  od : ∀ s, s < r * c → fb r c p (2 * s + 1) = (decide (p = s) ^^ decide (p = leftN c s))
theorem face_ok {r c p : Nat} (hB : Brd r c) (hp : p < r * c) : FaceOk r c p := by
  have h := List.all_eq_true.mp (List.all_eq_true.mp chkFace_ok _ (brd_mem hB)) p (List.mem_range.mpr hp)
  simp only [Bool.and_eq_true, decide_eq_true_eq, Bool.not_eq_true', List.all_eq_true, List.mem_range, beq_iff_eq] at h
  obtain ⟨⟨⟨⟨⟨⟨h1, h2⟩, h3⟩, h4⟩, h5⟩, h6⟩, h7⟩ := h
  refine ⟨h1, h2, h3, h4, h5, h6, fun s hs => ?_, fun s hs => (h7 s hs).1.2, fun s hs => (h7 s hs).2⟩
  have := (h7 s hs).1.1
  rw [uu_nat, uu_nat, uu_nat, uu_nat]
  rw [show 2 * p / 2 = p by omega, show (2 * p + 1) / 2 = p by omega, show 2 * belowN r c p / 2 = belowN r c p by omega, show (2 * rightN c p + 1) / 2 = rightN c p by omega]
  exact this
/-- a sum over the edges round a face -/
theorem px_fb {r c p : Nat} (hB : Brd r c) (hp : p < r * c) (h : Nat → Bool) : px (2 * (r * c)) (fun e => fb r c p e && h e) = (h (2 * p) ^^ (h (2 * p + 1) ^^ (h (2 * belowN r c p) ^^ h (2 * rightN c p + 1)))) := by
  have K := face_ok hB hp
  have kb := K.b
  have kr := K.ri
  unfold fb
  rw [px_congr (g := fun e => (decide (e = 2 * p) && h e) ^^ ((decide (e = 2 * p + 1) && h e) ^^ ((decide (e = 2 * belowN r c p) && h e) ^^ (decide (e = 2 * rightN c p + 1) && h e)))) fun e _ => by
    rw [and_xor, and_xor, and_xor]]
  rw [px_xor, px_xor, px_xor, px_one h (by omega), px_one h (by omega), px_one h (by omega), px_one h (by omega)]
theorem px_tr {r c : Nat} (hB : Brd r c) (F h : Nat → Bool) (z : ∀ p, p < r * c → (h (2 * p) ^^ (h (2 * p + 1) ^^ (h (2 * belowN r c p) ^^ h (2 * rightN c p + 1)))) = false) : px (2 * (r * c)) (fun e => tr r c F e && h e) = false := by
  have e1 : px (2 * (r * c)) (fun e => tr r c F e && h e) = px (2 * (r * c)) (fun e => px (r * c) fun p => F p && (fb r c p e && h e)) := px_congr fun e _ => by
    unfold tr
    rw [Bool.and_comm, ← px_and]
    exact px_congr fun p _ => by cases h e <;> cases F p <;> cases fb r c p e <;> rfl
  rw [e1, px_swap, px_congr (g := fun _ => false) fun p hp => by rw [px_and, px_fb hB hp, z p hp, Bool.and_false], px_ff]
theorem lit_tr {r c : Nat} (hB : Brd r c) (F : Nat → Bool) {s : Nat} (hs : s < r * c) : lit r c (tr r c F) s = false := px_tr hB F (fun e => uu r c e s) fun p hp => (face_ok hB hp).lit s hs
theorem sA_tr {r c : Nat} (hB : Brd r c) (F : Nat → Bool) : sA r c (tr r c F) = false := px_tr hB F (fun e => crA r c (e : Int)) fun p hp => by
  rw [crA_nat hB.2.2.1, crA_nat hB.2.2.1, crA_nat hB.2.2.1, crA_nat hB.2.2.1]; exact (face_ok hB hp).a1
theorem sB_tr {r c : Nat} (hB : Brd r c) (F : Nat → Bool) : sB r c (tr r c F) = false := px_tr hB F (fun e => crB r c (e : Int)) fun p hp => by
  rw [crB_nat hB.1, crB_nat hB.1, crB_nat hB.1, crB_nat hB.1]; exact (face_ok hB hp).b1
theorem xor_and (a b c : Bool) : (c && (a ^^ b)) = ((c && a) ^^ (c && b)) := by cases a <;> cases b <;> cases c <;> rfl
theorem tr_even {r c s : Nat} (hB : Brd r c) (hs : s < r * c) (F : Nat → Bool) : tr r c F (2 * s) = (F s ^^ F (upN r c s)) := by
  unfold tr
  rw [px_congr (g := fun p => (decide (p = s) && F p) ^^ (decide (p = upN r c s) && F p)) fun p hp => by
    rw [(face_ok hB hp).ev s hs, xor_and, Bool.and_comm, Bool.and_comm (F p)]]
  rw [px_xor, px_one F hs, px_one F (face_ok hB hs).u]
theorem tr_odd {r c s : Nat} (hB : Brd r c) (hs : s < r * c) (F : Nat → Bool) : tr r c F (2 * s + 1) = (F s ^^ F (leftN c s)) := by
  unfold tr
  rw [px_congr (g := fun p => (decide (p = s) && F p) ^^ (decide (p = leftN c s) && F p)) fun p hp => by
    rw [(face_ok hB hp).od s hs, xor_and, Bool.and_comm, Bool.and_comm (F p)]]
  rw [px_xor, px_one F hs, px_one F (face_ok hB hs).l]
theorem tr_all {r c e : Nat} (hB : Brd r c) (he : e < 2 * (r * c)) : tr r c (fun _ => true) e = false := by
  rcases Nat.mod_two_eq_zero_or_one e with h | h
  · have e1 : e = 2 * (e / 2) := by omega
    rw [e1, tr_even hB (by omega)]; rfl
  · have e1 : e = 2 * (e / 2) + 1 := by omega
    rw [e1, tr_odd hB (by omega)]; rfl
end Sb

namespace Sb
open PySem PySem.Spec PyProof.Rows L2
/-- faces follow from what they flip -/
theorem fw_tr {r c : Nat} (hB : Brd r c) (F : Nat → Bool) : ∀ k, k < r * c → fw c (tr r c F) k = (F k ^^ F 0) := by
  intro k
  induction k using Nat.strongRecOn with
  | ind k ih =>
    intro hk
    have hc : 0 < c := by have := hB.2.2.1; omega
    by_cases h0 : k = 0
    · subst h0; rw [fw_zero, Bool.xor_self]
    by_cases hm : k % c = 0
    · have hge : c ≤ k := Nat.le_of_dvd (by omega) (Nat.dvd_of_mod_eq_zero hm)
      rw [fw_up _ hc hm (by omega), ih (k - c) (by omega) (by omega), tr_even hB hk]
      unfold upN
      rw [if_neg (by omega)]
      cases F (k - c) <;> cases F k <;> cases F 0 <;> rfl
    · rw [fw_left _ hm (by omega), ih (k - 1) (by omega) (by omega), tr_odd hB hk]
      unfold leftN
      rw [if_neg hm]
      cases F (k - 1) <;> cases F k <;> cases F 0 <;> rfl
theorem fw_congr {r c : Nat} (hB : Brd r c) {a b : Nat → Bool} (h : ∀ e, e < 2 * (r * c) → a e = b e) : ∀ k, k < r * c → fw c a k = fw c b k := by
  intro k
  induction k using Nat.strongRecOn with
  | ind k ih =>
    intro hk
    have hc : 0 < c := by have := hB.2.2.1; omega
    by_cases h0 : k = 0
    · subst h0; rfl
    by_cases hm : k % c = 0
    · rw [fw_up _ hc hm (by omega), fw_up _ hc hm (by omega), ih (k - c) (by omega) (by omega), h _ (by omega)]
    · rw [fw_left _ hm (by omega), fw_left _ hm (by omega), ih (k - 1) (by omega) (by omega), h _ (by omega)]
/-! what is neither lit nor crosses, and is not on the faces' tree, is nothing -/
def tree (c e : Nat) : Bool := if e % 2 = 1 then !decide (e / 2 % c = 0) else decide (e / 2 % c = 0) && decide (c ≤ e / 2)
def Sw (c e s : Nat) : Bool :=
  if e % 2 = 1 then decide (e / 2 / c < s / c)
  else if c ≤ e / 2 then decide (s / c = e / 2 / c) && decide (1 ≤ s % c) && decide (s % c ≤ e / 2 % c)
  else (decide (1 ≤ s / c) && decide (1 ≤ s % c)) || (decide (s / c = 0) && decide (e / 2 % c < s % c))
def wA (c e : Nat) : Bool := !decide (e % 2 = 1) && decide (e / 2 < c)
def wB (e : Nat) : Bool := decide (e % 2 = 1)
def chkTree : Bool := brds.all fun (r, c) => (List.range (2 * (r * c))).all fun e => tree c e || (List.range (2 * (r * c))).all fun x => tree c x ||
  (decide (x = e) == (Sw c e (x / 2) ^^ Sw c e (endN r c x) ^^ (wA c e && crAN c x) ^^ (wB e && crBN r c x)))
theorem chkTree_ok : chkTree = true := by decide +kernel
theorem tree_ok {r c e x : Nat} (hB : Brd r c) (he : e < 2 * (r * c)) (hx : x < 2 * (r * c)) (te : tree c e = false) (tx : tree c x = false) :
    decide (x = e) = (Sw c e (x / 2) ^^ Sw c e (endN r c x) ^^ (wA c e && crAN c x) ^^ (wB e && crBN r c x)) := by
  have h1 := List.all_eq_true.mp chkTree_ok _ (brd_mem hB)
  have h2 := List.all_eq_true.mp h1 e (List.mem_range.mpr he)
  simp only [te, Bool.false_or] at h2
  have h3 := List.all_eq_true.mp h2 x (List.mem_range.mpr hx)
  simp only [tx, Bool.false_or] at h3
  exact eq_of_beq h3
theorem none_left {r c : Nat} (hB : Brd r c) (g : Nat → Bool) (hl : ∀ s, s < r * c → lit r c g s = false) (ha : sA r c g = false) (hb : sB r c g = false) (ht : ∀ e, e < 2 * (r * c) → tree c e = true → g e = false) :
    ∀ e, e < 2 * (r * c) → g e = false := by
  intro e he
  cases te : tree c e with
  | true => exact ht e he te
  | false =>
    have e0 := px_one g he
    rw [← e0]
    rw [px_congr (g := fun x => ((g x && (Sw c e (x / 2) ^^ Sw c e (endN r c x))) ^^ (wA c e && (g x && crAN c x))) ^^ (wB e && (g x && crBN r c x))) fun x hx => by
      cases tx : tree c x with
      | true => rw [ht x hx tx]; simp
      | false =>
        rw [tree_ok hB he hx te tx]
        cases g x <;> cases (Sw c e (x / 2)) <;> cases (Sw c e (endN r c x)) <;> cases wA c e <;> cases crAN c x <;> cases wB e <;> cases crBN r c x <;> rfl]
    rw [px_xor, px_xor, px_and, px_and]
    have a1 : px (2 * (r * c)) (fun x => g x && crAN c x) = false := by rw [← ha]; exact px_congr fun x _ => by rw [crA_nat hB.2.2.1]
    have a2 : px (2 * (r * c)) (fun x => g x && crBN r c x) = false := by rw [← hb]; exact px_congr fun x _ => by rw [crB_nat hB.1]
    have a3 : px (2 * (r * c)) (fun x => g x && (Sw c e (x / 2) ^^ Sw c e (endN r c x))) = false := by
      rw [px_congr (g := fun x => px (r * c) fun s => Sw c e s && (g x && uu r c x s)) fun x hx => by
        obtain ⟨a, b, h1, h2, h3, h4⟩ := ends_nat hB hx
        have h5 : x / 2 = a := by omega
        have h6 : endN r c x = b := by rw [end_nat] at h4; omega
        rw [px_congr (g := fun s => g x && ((decide (s = a) && Sw c e s) ^^ (decide (s = b) && Sw c e s))) fun s _ => by
          rw [uu_nat, h5, h6]
          cases Sw c e s <;> cases g x <;> cases decide (s = a) <;> cases decide (s = b) <;> rfl]
        rw [px_and, px_xor, px_one _ h1, px_one _ h2, h5, h6]]
      rw [px_swap, px_congr (g := fun _ => false) fun s hs => by
        rw [px_and]
        have := hl s hs
        unfold lit at this
        rw [this, Bool.and_false], px_ff]
    rw [a1, a2, a3]; simp
/-- the faces found lead there -/
theorem tr_fw {r c : Nat} (hB : Brd r c) (a : Nat → Bool) (hl : ∀ s, s < r * c → lit r c a s = false) (ha : sA r c a = false) (hb : sB r c a = false) : ∀ e, e < 2 * (r * c) → tr r c (fw c a) e = a e := by
  intro e he
  have z := none_left hB (fun e => a e ^^ tr r c (fw c a) e) (fun s hs => by rw [lit_xor, hl s hs, lit_tr hB _ hs]; rfl) (by rw [sA_xor, ha, sA_tr hB]; rfl) (by rw [sB_xor, hb, sB_tr hB]; rfl) (fun e he te => by
    have hc : 0 < c := by have := hB.2.2.1; omega
    unfold tree at te
    by_cases h : e % 2 = 1
    · rw [if_pos h] at te
      have hm : ¬ e / 2 % c = 0 := by simpa using te
      have e1 : e = 2 * (e / 2) + 1 := by omega
      have hp : 0 < e / 2 := by
        rcases Nat.eq_zero_or_pos (e / 2) with q | q
        · rw [q, Nat.zero_mod] at hm; exact absurd rfl hm
        · exact q
      rw [e1, tr_odd hB (by omega), fw_left a hm hp]
      unfold leftN
      rw [if_neg hm]
      cases fw c a (e / 2 - 1) <;> cases a (2 * (e / 2) + 1) <;> rfl
    · rw [if_neg h] at te
      simp only [Bool.and_eq_true, decide_eq_true_eq] at te
      have e1 : e = 2 * (e / 2) := by omega
      rw [e1, tr_even hB (by omega), fw_up a hc te.1 (by omega)]
      unfold upN
      rw [if_neg (by omega)]
      cases fw c a (e / 2 - c) <;> cases a (2 * (e / 2)) <;> rfl) e he
  cases h1 : a e <;> cases h2 : tr r c (fw c a) e <;> rw [h1, h2] at z <;> first | rfl | cases z
end Sb

namespace Sb
open PySem PySem.Spec PyProof.Rows L2
theorem xor_cancel (a b : Bool) : (a ^^ (a ^^ b)) = b := by cases a <;> cases b <;> rfl
theorem sel_nil_iff {n : Nat} {f : Nat → Bool} : sel n f = [] ↔ ∀ k, k < n → f k = false := by
  constructor
  · intro h k hk
    cases e : f k with
    | false => rfl
    | true =>
      have := mem_sel_nat.mpr ⟨hk, e⟩
      rw [h] at this
      cases this
  · intro h
    rw [sel_congr h, sel_ff]
section
variable {P : Program} {w : World} {K : PySem.W.Frag} {mg : Str → Option Value} {base : Heap}
theorem er_flips {L : Addr} {Δ : Sl} {i j : Nat} {r c : Nat} (hB : Brd r c) (g1 : Δ[i]? = some (some (.r L))) (g3 : Δ[j]? = some (some (.d (bd r c)))) : ER K L (tCall (spR K Pre_flips F_flips) [] E0 (tCons (tVar i) (tCons (tVar j) tNil))) Δ (fun d => ∃ f, d = ti (sel (2 * (r * c)) f)) :=
  er_call (PL := fun ds => ds = [bd r c]) g1 (era_of (ea_cons (ev_var g3) ea_nil) rfl) fun ds h => ⟨⟨r, c, h, hB⟩, fun d ⟨r', c', f, e, hd⟩ => by
    rw [h] at e
    have e1 := (List.cons.inj e).1
    have e2 : (r : Int) = r' ∧ (c : Int) = c' := by
      injection e1 with e3
      injection e3 with e4 e5
      injection e4 with e6
      injection e5 with e7 e8
      injection e7 with e9
      exact ⟨e6, e9⟩
    have e3 : r = r' := by omega
    have e4 : c = c' := by omega
    subst e3 e4
    exact ⟨f, hd⟩⟩
theorem er_some {L : Addr} {Δ : Sl} {i : Nat} {ta tb : TE} {n : Nat} (g1 : Δ[i]? = some (some (.r L))) (ha : Ev K ta Δ (.int (n : Int))) (hb : Ev K tb Δ (.int (n : Int))) (h1 : 1 ≤ n) (h2 : n ≤ 50) : ER K L (tCall (spR K Pre_some F_some) [] E0 (tCons (tVar i) (tCons ta (tCons tb tNil)))) Δ (fun d => ∃ f, d = ti (sel n f)) :=
  er_call (PL := fun ds => ds = [.int (n : Int), .int (n : Int)]) g1 (era_of (ea_cons ha (ea_cons hb ea_nil)) rfl) fun ds h => ⟨⟨n, n, h, h1, h2, by omega, by omega⟩, fun d ⟨n', t, f, e, hd⟩ => by
    rw [h] at e
    have e1 := (List.cons.inj e).1
    injection e1 with e2
    have : n = n' := by omega
    subst this
    exact ⟨f, hd⟩⟩
end
end Sb

namespace Sb
open PySem PySem.Spec PyProof.Rows L2
theorem led_yes {r c : Nat} (hB : Brd r c) (f g : Nat → Bool) (h1 : ∀ s, s < r * c → lit r c (fun k => f k ^^ g k) s = false) (h2 : sA r c (fun k => f k ^^ g k) = false) (h3 : sB r c (fun k => f k ^^ g k) = false) :
    F_led [bd r c, ti (sel (2 * (r * c)) f), ti (sel (2 * (r * c)) g)] (ti (sel (r * c) (fw c fun k => f k ^^ g k))) := ⟨r, c, f, g, rfl, hB, .inl ⟨⟨sel_nil_iff.mpr h1, h2, h3⟩, rfl⟩⟩
/-- faces lead from flips to turned ones -/
theorem led_tr {r c : Nat} (hB : Brd r c) (f g F : Nat → Bool) (hg : ∀ e, e < 2 * (r * c) → (f e ^^ g e) = tr r c F e) :
    F_led [bd r c, ti (sel (2 * (r * c)) f), ti (sel (2 * (r * c)) g)] (ti (sel (r * c) fun k => F k ^^ F 0)) := by
  have h := led_yes hB f g (fun s hs => by rw [lit_congr hg, lit_tr hB F hs]) (by rw [sA_congr hg, sA_tr hB]) (by rw [sB_congr hg, sB_tr hB])
  have e : sel (r * c) (fw c fun k => f k ^^ g k) = sel (r * c) fun k => F k ^^ F 0 := sel_congr fun k hk => by rw [fw_congr hB hg k hk, fw_tr hB F k hk]
  rw [e] at h
  exact h
end Sb

namespace Sb
open PySem PySem.Spec PyProof.Rows L2
section
variable {P : Program} {w : World} {K : PySem.W.Frag} {mg : Str → Option Value} {base : Heap}
/-! ### the law's own sites and seams -/
def othI (r c e : Int) : Int := if e % 2 = 0 then e / 2 / c * c + (if e / 2 % c = c - 1 then 0 else e / 2 % c + 1) else (if e / 2 / c = r - 1 then 0 else e / 2 / c + 1) * c + e / 2 % c
def chkOth : Bool := brds.all fun (r, c) => (List.range (2 * (r * c))).all fun e => decide (othI (r : Int) (c : Int) (e : Int) = endB (r : Int) (c : Int) (e : Int))
theorem chkOth_ok : chkOth = true := by decide +kernel
theorem oth_ok {r c e : Nat} (hB : Brd r c) (he : e < 2 * (r * c)) : othI (r : Int) (c : Int) (e : Int) = endB (r : Int) (c : Int) (e : Int) := of_decide_eq_true (List.all_eq_true.mp (List.all_eq_true.mp chkOth_ok _ (brd_mem hB)) e (List.mem_range.mpr he))
/-- [x + 1, 0][int(..)] -/
theorem ev_pick {Δ : Sl} {tx tz tc : TE} {x z : Int} {b : Bool} (hx : Ev K tx Δ (.int x)) (h0 : Ev K tz Δ (.int z)) (hc : Ev K tc Δ (.bool b)) :
    Ev K (tOp (rIxL K) (tLst (tCons tx (tCons tz tNil))) (tCB (fun xs H Q => (∃ i, xs = [.int i] ∧ Q (.int i) H) ∨ ∃ k, xs = [.bl k] ∧ Q (.int (if k then 1 else 0)) H) (tCons tc tNil))) Δ (.int (if b then z else x)) :=
  ev_op (ev_of (en_lst (ea_cons hx (ea_cons h0 ea_nil)) (by show 2 ≤ 100000; decide))) (ev_cb (ea_cons hc ea_nil) rc_int_b) (by cases b <;> exact rv_ixL rfl)
theorem dec_if (p : Prop) [Decidable p] (x y : Int) : (if decide p = true then x else y) = if p then x else y := by by_cases h : p <;> simp [h]
abbrev s__law_ends : Stmt := topS 37
abbrev N__law_ends : List Str := ["_law_board_here", "_law_edge", "_law_line", "_law_column"]
theorem sc__law_ends : FnScope N__law_ends ["_law_board_here", "_law_edge"] (defScope s__law_ends) := ⟨rfl, rfl, rfl, by decide +kernel, rfl, by decide +kernel, by decide +kernel⟩
theorem bi__law_ends : BindsAt "_law_ends" s__law_ends ["_law_board_here", "_law_edge"] := fun _ _ _ _ _ _ us hl => match us, hl with | [_, _], _ => rfl

def F_lends (ds es : List Dt) : Prop := ∃ r c e : Nat, ds = [bd r c, .int (e : Int)] ∧ Brd r c ∧ e < 2 * (r * c) ∧ es = [.int ((e : Int) / 2), .int (endB r c (e : Int))]
theorem ok__law_ends (A : FnAt K mg "_law_ends" s__law_ends) (b_int : mg "int" = none) : Has P w K mg base "_law_ends" 1 ["_law_board_here", "_law_edge"] (spDL K F_lends) := by
  have nd := sc__law_ends.nd
  refine has_list A bi__law_ends sc__law_ends (fun ds d ⟨_, _, _, h, _⟩ => by rw [h]; rfl) fun cdv f A outer s H E hr => ⟨_, (pss_cons (ps_par (i := 2) (j := 3) (by rfl) nd rfl rfl (by decide) rfl rfl (pa_cons (pe_op op_fdiv (pe_op op_fdiv (pv 1) pe_int) (pe_ix (ix_tupK (K := K) (by rfl)) (pv 0) pe_int (fun _ _ => rfl))) (pa_cons (pe_op op_mod (pe_op op_fdiv (pv 1) pe_int) (pe_ix (ix_tupK (K := K) (by rfl)) (pv 0) pe_int (fun _ _ => rfl))) pa_nil)) (by rfl))
    (pss_cons (ps_if (pt_cmpR (op_eqK (K := K) (by rfl) (by exact hr.units)) (pe_op op_mod (pv 1) pe_int) pe_int (nomark _)) (pss_one (ps_ret (pe_lst (pa_cons (pe_op op_fdiv (pv 1) pe_int) (pa_cons (pe_op op_add (pe_op op_mul (pv 2) (pe_ix (ix_tupK (K := K) (by rfl)) (pv 0) pe_int (fun _ _ => rfl))) (pe_ix (ix_listK (K := K) (by rfl)) (pe_lst (pa_cons (pe_op op_add (pv 3) pe_int) (pa_cons pe_int pa_nil))) (pe_callTy call_int1 (by rfl) b_int (by decide +kernel) (pa_cons (pe_cmpR (op_eqK (K := K) (by rfl) (by exact hr.units)) (pv 3) (pe_op op_sub (pe_ix (ix_tupK (K := K) (by rfl)) (pv 0) pe_int (fun _ _ => rfl)) pe_int) (nomark _)) pa_nil)) (fun _ _ => rfl))) pa_nil))))) pss_nil)
    (pss_one (ps_ret (pe_lst (pa_cons (pe_op op_fdiv (pv 1) pe_int) (pa_cons (pe_op op_add (pe_op op_mul (pe_ix (ix_listK (K := K) (by rfl)) (pe_lst (pa_cons (pe_op op_add (pv 2) pe_int) (pa_cons pe_int pa_nil))) (pe_callTy call_int1 (by rfl) b_int (by decide +kernel) (pa_cons (pe_cmpR (op_eqK (K := K) (by rfl) (by exact hr.units)) (pv 2) (pe_op op_sub (pe_ix (ix_tupK (K := K) (by rfl)) (pv 0) pe_int (fun _ _ => rfl)) pe_int) (nomark _)) pa_nil)) (fun _ _ => rfl)) (pe_ix (ix_tupK (K := K) (by rfl)) (pv 0) pe_int (fun _ _ => rfl))) (pv 3)) pa_nil))))))), fun ds es hF => ?_⟩
  obtain ⟨r, c, e, rfl, hB, he, rfl⟩ := hF
  obtain ⟨r2, r5, c2, c5⟩ := id hB
  have hrc25 : r * c ≤ 25 := Nat.mul_le_mul r5 c5
  have ho := oth_ok hB he
  have ha : ∀ {Δ : Sl}, Δ[1]? = some (some (.d (.int (e : Int)))) → Ev K (tOp (rI CDiv fun i j => .int (i / j)) (tVar 1) (tC (.int 2))) Δ (.int ((e : Int) / 2)) := fun h => ev_op (ev_var h) ev_int (rv_I (cdiv ⟨by decide, by decide⟩))
  have mc : ∀ x : Int, CMul x (c : Int) := fun x => cmul' ⟨by omega, by omega⟩
  refine sx_seq (sx_par (ea_cons (ev_op (ha rfl) (ev_op (ev_var rfl) ev_int (rv_ixT rfl)) (rv_I (cdiv ⟨by omega, by omega⟩))) (ea_cons (ev_op (ha rfl) (ev_op (ev_var rfl) ev_int (rv_ixT rfl)) (rv_I (by show (0 : Int) < c; omega))) ea_nil))) ?_
  by_cases hd : (e : Int) % 2 = 0
  · refine sx_seqRL (sx_if (b := true) (et_is (et_test (ev_op (ev_op (ev_var rfl) ev_int (rv_I (by show (0 : Int) < 2; decide))) ev_int (rv_eqD rfl rfl))) (by rw [eqv_int]; exact decide_eq_true hd)) (fun _ => sx_retL (en_is (en_lst (ea_cons (ha rfl) (ea_cons (ev_op (ev_op (ev_var rfl) (ev_op (ev_var rfl) ev_int (rv_ixT rfl)) (rv_I (mc _)))
      (ev_pick (ev_op (ev_var rfl) ev_int rv_I0) ev_int (ev_op (ev_var rfl) (ev_op (ev_op (ev_var rfl) ev_int (rv_ixT rfl)) ev_int rv_I0) (rv_eqD rfl rfl))) rv_I0) ea_nil)) (by show 2 ≤ 100000; decide)) ?_)) fun h => nomatch h)
    rw [← ho, eqv_int, dec_if]
    unfold othI
    rw [if_pos hd]
  · refine sx_skip (et_is (et_test (ev_op (ev_op (ev_var rfl) ev_int (rv_I (by show (0 : Int) < 2; decide))) ev_int (rv_eqD rfl rfl))) (by rw [eqv_int]; exact decide_eq_false hd)) (sx_retL (en_is (en_lst (ea_cons (ha rfl) (ea_cons (ev_op (ev_op
      (ev_pick (ev_op (ev_var rfl) ev_int rv_I0) ev_int (ev_op (ev_var rfl) (ev_op (ev_op (ev_var rfl) ev_int (rv_ixT rfl)) ev_int rv_I0) (rv_eqD rfl rfl))) (ev_op (ev_var rfl) ev_int (rv_ixT rfl)) (rv_I (mc _))) (ev_var rfl) rv_I0) ea_nil)) (by show 2 ≤ 100000; decide)) ?_))
    rw [← ho, eqv_int, dec_if]
    unfold othI
    rw [if_neg hd]
abbrev s__law_crosses : Stmt := topS 38
abbrev N__law_crosses : List Str := ["_law_board_here", "_law_edge", "_law_line", "_law_column"]
theorem sc__law_crosses : FnScope N__law_crosses ["_law_board_here", "_law_edge"] (defScope s__law_crosses) := ⟨rfl, rfl, rfl, by decide +kernel, rfl, by decide +kernel, by decide +kernel⟩
theorem bi__law_crosses : BindsAt "_law_crosses" s__law_crosses ["_law_board_here", "_law_edge"] := fun _ _ _ _ _ _ us hl => match us, hl with | [_, _], _ => rfl

def F_lcross (ds : List Dt) (d : Dt) : Prop := ∃ (r c : Nat) (e : Int), ds = [bd r c, .int e] ∧ Brd r c ∧ d = bd (bi (crA r c e)) (bi (crB r c e))
theorem ok__law_crosses (A : FnAt K mg "_law_crosses" s__law_crosses) (b_int : mg "int" = none) : Has P w K mg base "_law_crosses" 1 ["_law_board_here", "_law_edge"] (spD K F_lcross) := by
  have nd := sc__law_crosses.nd
  refine has_pure A bi__law_crosses sc__law_crosses (fun ds d ⟨_, _, _, h, _⟩ => by rw [h]; rfl) fun cdv f A outer s H E hr => ⟨_, (pss_cons (ps_par (i := 2) (j := 3) (by rfl) nd rfl rfl (by decide) rfl rfl (pa_cons (pe_op op_fdiv (pe_op op_fdiv (pv 1) pe_int) (pe_ix (ix_tupK (K := K) (by rfl)) (pv 0) pe_int (fun _ _ => rfl))) (pa_cons (pe_op op_mod (pe_op op_fdiv (pv 1) pe_int) (pe_ix (ix_tupK (K := K) (by rfl)) (pv 0) pe_int (fun _ _ => rfl))) pa_nil)) (by rfl))
    (pss_one (ps_ret (pe_tup (pa_cons (pe_callTy call_int1 (by rfl) b_int (by decide +kernel) (pa_cons (pe_and (pe_cmpR (op_eqK (K := K) (by rfl) (by exact hr.units)) (pe_op op_mod (pv 1) pe_int) pe_int (nomark _)) (pe_one (pe_cmpR (op_eqK (K := K) (by rfl) (by exact hr.units)) (pv 3) (pe_op op_sub (pe_ix (ix_tupK (K := K) (by rfl)) (pv 0) pe_int (fun _ _ => rfl)) pe_int) (nomark _)))) pa_nil)) (pa_cons (pe_callTy call_int1 (by rfl) b_int (by decide +kernel) (pa_cons (pe_and (pe_cmpR (op_eqK (K := K) (by rfl) (by exact hr.units)) (pe_op op_mod (pv 1) pe_int) pe_int (nomark _)) (pe_one (pe_cmpR (op_eqK (K := K) (by rfl) (by exact hr.units)) (pv 2) (pe_op op_sub (pe_ix (ix_tupK (K := K) (by rfl)) (pv 0) pe_int (fun _ _ => rfl)) pe_int) (nomark _)))) pa_nil)) pa_nil)))))), fun ds d hF => .inl ?_⟩
  obtain ⟨r, c, e, rfl, hB, rfl⟩ := hF
  obtain ⟨r2, r5, c2, c5⟩ := id hB
  have ha : ∀ {Δ : Sl}, Δ[1]? = some (some (.d (.int e))) → Ev K (tOp (rI CDiv fun i j => .int (i / j)) (tVar 1) (tC (.int 2))) Δ (.int (e / 2)) := fun h => ev_op (ev_var h) ev_int (rv_I (cdiv ⟨by decide, by decide⟩))
  refine sx_seq (sx_par (ea_cons (ev_op (ha rfl) (ev_op (ev_var rfl) ev_int (rv_ixT rfl)) (rv_I (cdiv ⟨by omega, by omega⟩))) (ea_cons (ev_op (ha rfl) (ev_op (ev_var rfl) ev_int (rv_ixT rfl)) (rv_I (by show (0 : Int) < c; omega))) ea_nil))) ?_
  refine sx_ret (ev_is (ev_tup (ea_cons (ev_cb (ea_cons (ev_andV (ev_op (ev_op (ev_var rfl) ev_int (rv_I (by show (0 : Int) < 2; decide))) ev_int (rv_eqD rfl rfl)) fun _ => ev_op (ev_var rfl) (ev_op (ev_op (ev_var rfl) ev_int (rv_ixT rfl)) ev_int rv_I0) (rv_eqD rfl rfl)) ea_nil) rc_int_b)
    (ea_cons (ev_cb (ea_cons (ev_andV (ev_op (ev_op (ev_var rfl) ev_int (rv_I (by show (0 : Int) < 2; decide))) ev_int (rv_eqD rfl rfl)) fun _ => ev_op (ev_var rfl) (ev_op (ev_op (ev_var rfl) ev_int (rv_ixT rfl)) ev_int rv_I0) (rv_eqD rfl rfl)) ea_nil) rc_int_b) ea_nil)) (by show 2 ≤ 100000; decide)) ?_)
  rw [eqv_int, eqv_int, eqv_int, eqv_int]
  have e1 : decide (e % 2 = 0) = !decide (e % 2 = 1) := by
    have : e % 2 = 0 ∨ e % 2 = 1 := by omega
    rcases this with h | h <;> rw [h] <;> rfl
  rw [e1]
  rfl
abbrev s__law_lit : Stmt := topS 39
abbrev N__law_lit : List Str := ["_law_board_here", "_law_flips_here", "_law_ends_here", "_law_edge", "_law_site"]
theorem sc__law_lit : FnScope N__law_lit ["_law_board_here", "_law_flips_here"] (defScope s__law_lit) := ⟨rfl, rfl, rfl, by decide +kernel, rfl, by decide +kernel, by decide +kernel⟩
theorem bi__law_lit : BindsAt "_law_lit" s__law_lit ["_law_board_here", "_law_flips_here"] := fun _ _ _ _ _ _ us hl => match us, hl with | [_, _], _ => rfl

theorem ok__law_lit (A : FnAt K mg "_law_lit" s__law_lit) (b_tuple : mg "tuple" = none) (b_range : mg "range" = none) (h__law_ends : Has P w K mg base "_law_ends" 1 ["_law_board_here", "_law_edge"] (spDL K F_lends)) : Has P w K mg base "_law_lit" 2 ["_law_board_here", "_law_flips_here"] (spD K F_checks) := by
  have nd := sc__law_lit.nd
  refine has_pure A bi__law_lit sc__law_lit (fun ds d ⟨_, _, _, h, _⟩ => by rw [h]; rfl) fun cdv f A outer s H E hr => ⟨_, (pss_cons (ps_set (i := 2) nd rfl (by first | exact .inl rfl | exact .inr rfl) (pe_lst pa_nil))
    (pss_cons (ps_for PassesOwn.never rfl (pi_tupK (K := K) (by rfl) (pv 1)) (pg_name (i := 3) nd rfl (by first | exact .inl rfl | exact .inr rfl)) (pss_one (ps_set (i := 2) nd rfl (by first | exact .inl rfl | exact .inr rfl) (pe_op op_cat (pv 2) (ca h__law_ends hr (by rfl) (pa_cons (pv 0) (pa_cons (pv 3) pa_nil)))))))
    (pss_one (ps_ret (pe_callTy (kc_tup (K := K) (by rfl)) (by rfl) b_tuple (by decide +kernel) (pa_cons (pe_lc (own := [("_law_site", 4)]) (g := gName 4) (by rfl) nd (pi_range1 (by rfl) b_range (pa_cons (pe_op op_mul (pe_ix (ix_tupK (K := K) (by rfl)) (pv 0) pe_int (fun _ _ => rfl)) (pe_ix (ix_tupK (K := K) (by rfl)) (pv 0) pe_int (fun _ _ => rfl))) pa_nil)) (blkOk_by (own := [("_law_site", 4)]) (N := N__law_lit) (sc := defScope s__law_lit) (by decide +kernel)) (fun _ _ _ _ _ => (pg_name (i := 4) nd rfl (by first | exact .inl rfl | exact .inr rfl))) (fun _ _ _ _ _ => (pts_one (pt_cmpR (op_eqK (K := K) (by rfl) (by exact hr.units)) (pe_op op_mod (pe_countK (K := K) (by rfl) (pv 2) (pa_cons (pv 4) pa_nil)) pe_int) pe_int (nomark _)))) (fun _ _ _ _ _ => (pv 4))) pa_nil)))))), fun ds d hF => .inl ?_⟩
  obtain ⟨r, c, l, rfl, hB, hR, rfl⟩ := hF
  obtain ⟨r2, r5, c2, c5⟩ := id hB
  have hrc : (((r * c : Nat) : Int)) = (r : Int) * c := Int.natCast_mul r c
  have hrc25 : r * c ≤ 25 := Nat.mul_le_mul r5 c5
  have hlen := rise_len hR
  refine sx_letL (en_lst ea_nil (by decide)) ?_
  have el : ∀ i, (endsL r c (l.take i)).length ≤ 2 * i := fun i => by
    unfold endsL
    rw [List.length_flatMap]
    have : ∀ m : List Int, (m.map fun e => [e / 2, endB r c e].length).sum = 2 * m.length := fun m => by
      induction m with
      | nil => rfl
      | cons x m ih => rw [List.map_cons, List.sum_cons, ih]; show 2 + 2 * m.length = 2 * (m.length + 1); omega
    rw [this, List.length_take]
    omega
  refine sx_seq (sx_for (ds := l.map .int) (js := [3])
    (fun i => [some (.d (bd r c)), some (.d (ti l)), some (.l ((endsL r c (l.take i)).map .int)), none, none])
    (fun i => [some (.d (bd r c)), some (.d (ti l)), some (.l ((endsL r c (l.take i)).map .int)), some (.d (.int (l.getD i 0))), none])
    (ei_tup (ev_var rfl)) (fun i d hd => ?_) (fun i hi => .inl ?_)) ?_
  · obtain ⟨hi, e⟩ := List.getElem?_eq_some_iff.mp hd
    rw [List.length_map] at hi
    rw [List.getElem_map] at e
    subst e
    have e2 : l.getD i 0 = l[i] := by rw [List.getD_eq_getElem?_getD, List.getElem?_eq_getElem hi]; rfl
    rw [e2]
    exact eg_name
  · rw [List.length_map] at hi
    have e2 : l.getD i 0 = l[i] := by rw [List.getD_eq_getElem?_getD, List.getElem?_eq_getElem hi]; rfl
    obtain ⟨b0, b1⟩ := hR.2 _ (List.getElem_mem hi)
    obtain ⟨n, hn⟩ : ∃ n : Nat, l[i] = (n : Int) := ⟨l[i].toNat, by omega⟩
    rw [hn] at b0 b1
    have hn2 : n < 2 * (r * c) := by omega
    have e3 : endsL r c (l.take (i + 1)) = endsL r c (l.take i) ++ [(n : Int) / 2, endB r c (n : Int)] := by
      rw [List.take_add_one, List.getElem?_eq_getElem hi, hn]
      unfold endsL
      rw [List.flatMap_append]
      rfl
    rw [e2, hn]
    have e4 := el i
    refine sx_weak (sx_asgL (en_is (en_cat (en_var rfl) (en_call (F := F_lends) (ea_cons (ev_var rfl) (ea_cons (ev_var rfl) ea_nil)) ⟨r, c, n, rfl, hB, hn2, rfl⟩) (by rw [List.length_map]; show _ + 2 ≤ 100000; omega)) (ys := (endsL r c (l.take (i + 1))).map .int) (by rw [e3, List.map_append]; rfl))) ⟨rfl, fun j u hj => ?_⟩
    match j with
    | 0 => exact hj
    | 1 => exact hj
    | 2 => exact hj
    | 3 => cases hj
    | 4 => cases hj
    | j + 5 => cases hj
  rw [List.length_map, List.take_length]
  refine sx_ret (ev_is (ev_cb (ea_cons (ev_of (en_lc (K := K) (js := [4]) (vs := [4]) (fun d => match d with | .int i => decide ((endsL r c l).count i % 2 = 1) | _ => false) (fun d => d) (fun d => [some (.d (bd r c)), some (.d (ti l)), some (.l ((endsL r c l).map .int)), none, some (.d d)])
    (ei_rng1 (j := ((r * c : Nat) : Int)) (ea_cons (ev_is (ev_op (ev_op (ev_var rfl) ev_int (rv_ixT rfl)) (ev_op (ev_var rfl) ev_int (rv_ixT rfl)) (rv_I (cmul ⟨by omega, by omega⟩))) (by rw [hrc])) ea_nil) ⟨by omega, by omega⟩) (by rw [upto_len]; omega) (by simp) (fun d hd => eg_name) (fun d hd => by
      obtain ⟨i, _, rfl⟩ := List.mem_map.mp hd
      refine et_is (et_test (ev_op (ev_op (ev_count (ev_varL rfl) (ev_var rfl) fun G H v s dv => ?_) ev_int (rv_I (by show (0 : Int) < 2; decide))) ev_int (rv_eqD rfl rfl))) ?_
      · cases dv with
        | lst h1 h2 => exact .inl ⟨rfl, _, gr_l s h1⟩
      · rw [eqv_int]
        exact decide_eq_decide.mpr (by omega)) (fun d hd _ => ev_var rfl))) ea_nil) rc_tupL) ?_)
  refine congrArg PyData.tuple ?_
  rw [Int.toNat_natCast]
  refine upto_filter _ _ _ fun k hk => ?_
  show decide ((endsL r c l).count (0 + (k : Int)) % 2 = 1) = _
  rw [Int.zero_add]
  rfl
abbrev s__law_seams : Stmt := topS 40
abbrev N__law_seams : List Str := ["_law_board_here", "_law_flips_here", "_law_pairs", "_law_edge", "_law_pair"]
theorem sc__law_seams : FnScope N__law_seams ["_law_board_here", "_law_flips_here"] (defScope s__law_seams) := ⟨rfl, rfl, rfl, by decide +kernel, rfl, by decide +kernel, by decide +kernel⟩
theorem bi__law_seams : BindsAt "_law_seams" s__law_seams ["_law_board_here", "_law_flips_here"] := fun _ _ _ _ _ _ us hl => match us, hl with | [_, _], _ => rfl

theorem sum_bi (f : Int → Bool) : ∀ l : List Int, (l.map fun e => bi (f e)).sum = (((l.filter f).length : Nat) : Int)
  | [] => rfl
  | x :: l => by
    rw [List.map_cons, List.sum_cons, sum_bi f l, List.filter_cons]
    cases f x
    · show 0 + _ = _
      rw [Int.zero_add]; rfl
    · show 1 + _ = (((l.filter f).length + 1 : Nat) : Int)
      omega
theorem ok__law_seams (A : FnAt K mg "_law_seams" s__law_seams) (b_sum : mg "sum" = none) (h__law_crosses : Has P w K mg base "_law_crosses" 1 ["_law_board_here", "_law_edge"] (spD K F_lcross)) : Has P w K mg base "_law_seams" 2 ["_law_board_here", "_law_flips_here"] (spD K F_seams) := by
  have nd := sc__law_seams.nd
  refine has_pure A bi__law_seams sc__law_seams (fun ds d ⟨_, _, _, h, _⟩ => by rw [h]; rfl) fun cdv f A outer s H E hr => ⟨_, (pss_cons (ps_setLc (i := 2) (own := [("_law_edge", 3)]) (g := gName 3) (tt := tYes) (by rfl) nd rfl rfl (sw_true rfl rfl rfl (by decide +kernel)) (pi_tupK (K := K) (by rfl) (pv 1)) (blkOk_by (own := [("_law_edge", 3)]) (N := N__law_seams) (sc := defScope s__law_seams) (by decide +kernel)) (fun _ _ _ _ _ => (pg_name (i := 3) nd rfl (by first | exact .inl rfl | exact .inr rfl))) (fun _ _ _ _ _ => pts_nil) (fun _ _ _ _ _ => (ca h__law_crosses hr (by rfl) (pa_cons (pv 0) (pa_cons (pv 3) pa_nil)))))
    (pss_one (ps_ret (pe_tup (pa_cons (pe_op op_mod (pe_callB (kc_sum (K := K) (by rfl) rfl) (by rfl) b_sum (by decide +kernel) (pa_cons (pe_lc (own := [("_law_pair", 4)]) (g := gName 4) (tt := tYes) (by rfl) nd (pi_listK (K := K) (by rfl) (pv 2)) (blkOk_by (own := [("_law_pair", 4)]) (N := N__law_seams) (sc := defScope s__law_seams) (by decide +kernel)) (fun _ _ _ _ _ => (pg_name (i := 4) nd rfl (by first | exact .inl rfl | exact .inr rfl))) (fun _ _ _ _ _ => pts_nil) (fun _ _ _ _ _ => (pe_ix (ix_tupK (K := K) (by rfl)) (pv 4) pe_int (fun _ _ => rfl)))) pa_nil)) pe_int) (pa_cons (pe_op op_mod (pe_callB (kc_sum (K := K) (by rfl) rfl) (by rfl) b_sum (by decide +kernel) (pa_cons (pe_lc (own := [("_law_pair", 4)]) (g := gName 4) (tt := tYes) (by rfl) nd (pi_listK (K := K) (by rfl) (pv 2)) (blkOk_by (own := [("_law_pair", 4)]) (N := N__law_seams) (sc := defScope s__law_seams) (by decide +kernel)) (fun _ _ _ _ _ => (pg_name (i := 4) nd rfl (by first | exact .inl rfl | exact .inr rfl))) (fun _ _ _ _ _ => pts_nil) (fun _ _ _ _ _ => (pe_ix (ix_tupK (K := K) (by rfl)) (pv 4) pe_int (fun _ _ => rfl)))) pa_nil)) pe_int) pa_nil)))))), fun ds d hF => .inl ?_⟩
  obtain ⟨r, c, l, rfl, hB, hR, rfl⟩ := hF
  obtain ⟨r2, r5, c2, c5⟩ := id hB
  have hrc25 : r * c ≤ 25 := Nat.mul_le_mul r5 c5
  have hlen := rise_len hR
  have pr : ∀ (q : Dt → Dt) (m : List Dt), (m.filter fun _ => true).map q = m.map q := fun q m => by rw [List.filter_eq_self.mpr fun _ _ => rfl]
  refine sx_letL (en_is (en_lc (K := K) (ds := l.map .int) (js := [3]) (vs := [3]) (fun _ => true) (fun d => match d with | .int e => bd (bi (crA r c e)) (bi (crB r c e)) | _ => .none) (fun d => [some (.d (bd r c)), some (.d (ti l)), none, some (.d d), none])
    (ei_tup (ev_var rfl)) (by rw [List.length_map]; omega) (by simp) (fun d hd => eg_name) (fun d hd => et_yes) (fun d hd _ => by
      obtain ⟨e, _, rfl⟩ := List.mem_map.mp hd
      exact ev_call (F := F_lcross) (ea_cons (ev_var rfl) (ea_cons (ev_var rfl) ea_nil)) ⟨r, c, e, rfl, hB, rfl⟩)) (ys := l.map fun e => bd (bi (crA r c e)) (bi (crB r c e))) (by rw [pr, List.map_map]; rfl)) ?_
  have one : ∀ (j : Int) (g : Int → Bool), (∀ e, atI [PyData.int (bi (crA r c e)), PyData.int (bi (crB r c e))] j = some (.int (bi (g e)))) → Ev K (tCB (rSum K) (tCons (tLc (iList K (tVar 2)) (gName 4) tYes (tOp (rIxT K) (tVar 4) (tC (.int j))) [4]) tNil)) [some (.d (bd r c)), some (.d (ti l)), some (.l (l.map fun e => bd (bi (crA r c e)) (bi (crB r c e)))), none, none] (.int (((l.filter g).length : Nat) : Int)) := fun j g hg => by
    rw [← sum_bi]
    refine ev_cb (ea_cons (ev_of (en_is (en_lc (K := K) (ds := l.map fun e => bd (bi (crA r c e)) (bi (crB r c e))) (js := [4]) (vs := [4]) (fun _ => true) (fun d => match d with | .tuple xs => (atI xs j).getD .none | _ => .none) (fun d => [some (.d (bd r c)), some (.d (ti l)), some (.l (l.map fun e => bd (bi (crA r c e)) (bi (crB r c e)))), none, some (.d d)])
      (ei_list (ev_varL rfl)) (by rw [List.length_map]; omega) (by simp) (fun d hd => eg_name) (fun d hd => et_yes) (fun d hd _ => by
        obtain ⟨e, _, rfl⟩ := List.mem_map.mp hd
        refine ev_is (ev_op (ev_var rfl) ev_int (rv_ixT (hg e))) ?_
        show _ = (atI [PyData.int (bi (crA r c e)), PyData.int (bi (crB r c e))] j).getD .none
        rw [hg]; rfl)) (ys := (l.map fun e => bi (g e)).map .int) ?_)) ea_nil) rc_sum
    rw [pr, List.map_map, List.map_map]
    apply List.map_congr_left
    intro e _
    show (atI [PyData.int (bi (crA r c e)), PyData.int (bi (crB r c e))] j).getD .none = .int (bi (g e))
    rw [hg]; rfl
  exact sx_ret (ev_tup (ea_cons (ev_op (one 0 _ fun _ => rfl) ev_int (rv_I (by show (0 : Int) < 2; decide))) (ea_cons (ev_op (one 1 _ fun _ => rfl) ev_int (rv_I (by show (0 : Int) < 2; decide))) ea_nil)) (by show 2 ≤ 100000; decide))
end
end Sb

namespace Sb
open PySem PySem.Spec PyProof.Rows L2
section
variable {P : Program} {w : World} {K : PySem.W.Frag} {mg : Str → Option Value} {base : Heap}
abbrev s_law : Stmt := topS 41
abbrev N_law : List Str := ["_law_script", "_law_row", "_law_turn", "_law_board_here", "_law_many", "_law_one", "_law_faces", "_law_two", "_law_due", "_law_face", "_law_other", "_law_three", "_law_found", "_law_still"]
theorem sc_law : FnScope N_law ["_law_script"] (defScope s_law) := ⟨rfl, rfl, rfl, by decide +kernel, rfl, by decide +kernel, by decide +kernel⟩
theorem bi_law : BindsAt "law" s_law ["_law_script"] := fun _ _ _ _ _ _ us hl => match us, hl with | [_], _ => rfl

theorem ok_law {f : Addr} {fd : FuncData} (F : Fun K "law" "law" s_law f fd) (b_range : mg "range" = none) (b_tuple : mg "tuple" = none)
    (h__law_board : Has P w K mg base "_law_board" 2 ["_law_row", "_law_most"] (spR K Pre_board F_board)) (h__law_flips : Has P w K mg base "_law_flips" 3 ["_law_row", "_law_board_here"] (spR K Pre_flips F_flips))
    (h__law_some : Has P w K mg base "_law_some" 2 ["_law_row", "_law_many", "_law_most"] (spR K Pre_some F_some)) (h_turned : Has P w K mg base "turned" 4 ["board", "flips", "faces"] (spD K F_turned))
    (h_led : Has P w K mg base "led" 5 ["board", "one", "other"] (spD K F_led)) (h_after : Has P w K mg base "after" 4 ["board", "one", "other"] (spD K F_after))
    (h__law_lit : Has P w K mg base "_law_lit" 2 ["_law_board_here", "_law_flips_here"] (spD K F_checks)) (h__law_seams : Has P w K mg base "_law_seams" 2 ["_law_board_here", "_law_flips_here"] (spD K F_seams))
    (h__law_alike : Has P w K mg base "_law_alike" 4 ["_law_one", "_law_due"] (spD K (F_alike 4))) : FnOk P w K mg base CX0 6 f fd ["_law_script"] (spLaw K) := by
  have nd := sc_law.nd
  refine F.ok sc_law (fun vs H Q E h => ?_) (fun cdv A outer s H vs Q E hr h => ?_)
  · obtain ⟨a, ns, rfl, _⟩ := h
    rfl
  obtain ⟨a, ns, rfl, hS, hlen, q⟩ := h
  refine ⟨_, (pss_cons (ps_set (i := 1) nd rfl (by first | exact .inl rfl | exact .inr rfl) (pe_lst (pa_cons (pv 0) (pa_cons pe_int (pa_cons pe_int (pa_cons pe_int pa_nil))))))
    (pss_cons (ps_for PassesOwn.never rfl (pi_range1 (by rfl) b_range (pa_cons pe_int pa_nil)) (pg_name (i := 2) nd rfl (by first | exact .inl rfl | exact .inr rfl)) (pss_cons (ps_set (i := 3) nd rfl (by first | exact .inl rfl | exact .inr rfl) (ca h__law_board (hr.mono (by decide)) (by rfl) (pa_cons (pv 1) (pa_cons pe_int pa_nil))))
    (pss_cons (ps_set (i := 4) nd rfl (by first | exact .inl rfl | exact .inr rfl) (pe_op op_mul (pe_ix (ix_tupK (K := K) (by rfl)) (pv 3) pe_int (fun _ _ => rfl)) (pe_ix (ix_tupK (K := K) (by rfl)) (pv 3) pe_int (fun _ _ => rfl))))
    (pss_cons (ps_asg (pe_tup (pa_cons (ca h__law_flips (hr.mono (by decide)) (by rfl) (pa_cons (pv 1) (pa_cons (pv 3) pa_nil))) (pa_cons (ca h__law_some (hr.mono (by decide)) (by rfl) (pa_cons (pv 1) (pa_cons (pv 4) (pa_cons (pv 4) pa_nil)))) pa_nil))) (pg_tup (by rfl) (pgs_cons (pg_name (i := 5) nd rfl (by first | exact .inl rfl | exact .inr rfl)) (pgs_cons (pg_name (i := 6) nd rfl (by first | exact .inl rfl | exact .inr rfl)) pgs_nil))))
    (pss_cons (ps_set (i := 7) nd rfl (by first | exact .inl rfl | exact .inr rfl) (ca h_turned (hr.mono (by decide)) (by rfl) (pa_cons (pv 3) (pa_cons (pv 5) (pa_cons (pv 6) pa_nil)))))
    (pss_cons (ps_set (i := 8) nd rfl (by first | exact .inl rfl | exact .inr rfl) (pv 6))
    (pss_cons (ps_if (pt_cmpR (op_inK (K := K) (by rfl)) pe_int (pv 6) (by rfl)) (pss_one (ps_set (i := 8) nd rfl (by first | exact .inl rfl | exact .inr rfl) (pe_callTy (kc_tup (K := K) (by rfl)) (by rfl) b_tuple (by decide +kernel) (pa_cons (pe_lc (own := [("_law_face", 9)]) (g := gName 9) (by rfl) nd (pi_range1 (by rfl) b_range (pa_cons (pv 4) pa_nil)) (blkOk_by (own := [("_law_face", 9)]) (N := N_law) (sc := defScope s_law) (by decide +kernel)) (fun _ _ _ _ _ => (pg_name (i := 9) nd rfl (by first | exact .inl rfl | exact .inr rfl))) (fun _ _ _ _ _ => (pts_one (pt_cmpR (op_niK (K := K) (by rfl)) (pv 9) (pv 6) (by rfl)))) (fun _ _ _ _ _ => (pv 9))) pa_nil)))) pss_nil)
    (pss_cons (ps_if (PW.pt (pw_or (pt_not (pt_val (ca h__law_alike (hr.mono (by decide)) (by rfl) (pa_cons (ca h_led hr (by rfl) (pa_cons (pv 3) (pa_cons (pv 5) (pa_cons (pv 7) pa_nil)))) (pa_cons (pv 8) pa_nil))))) (pw_or1 (pt_not (pt_val (ca h__law_alike (hr.mono (by decide)) (by rfl) (pa_cons (ca h_turned (hr.mono (by decide)) (by rfl) (pa_cons (pv 3) (pa_cons (pv 5) (pa_cons (pv 8) pa_nil)))) (pa_cons (pv 7) pa_nil)))))))) (pss_one (ps_ret pe_bl)) pss_nil)
    (pss_cons (ps_set (i := 10) nd rfl (by first | exact .inl rfl | exact .inr rfl) (ca h__law_flips (hr.mono (by decide)) (by rfl) (pa_cons (pv 1) (pa_cons (pv 3) pa_nil))))
    (pss_cons (ps_set (i := 11) nd rfl (by first | exact .inl rfl | exact .inr rfl) (ca h_after (hr.mono (by decide)) (by rfl) (pa_cons (pv 3) (pa_cons (pv 7) (pa_cons (pv 10) pa_nil)))))
    (pss_cons (ps_set (i := 12) nd rfl (by first | exact .inl rfl | exact .inr rfl) (ca h_led hr (by rfl) (pa_cons (pv 3) (pa_cons (pv 5) (pa_cons (pv 11) pa_nil)))))
    (pss_cons (ps_set (i := 13) nd rfl (by first | exact .inl rfl | exact .inr rfl) (pe_and (pe_cmpR (op_eqK (K := K) (by rfl) (by exact hr.units)) (ca h__law_lit (hr.mono (by decide)) (by rfl) (pa_cons (pv 3) (pa_cons (pv 10) pa_nil))) (pe_tup pa_nil) (nomark _)) (pe_one (pe_cmpR (op_eqK (K := K) (by rfl) (by exact hr.units)) (ca h__law_seams (hr.mono (by decide)) (by rfl) (pa_cons (pv 3) (pa_cons (pv 10) pa_nil))) (pe_tup (pa_cons pe_int (pa_cons pe_int pa_nil))) (nomark _)))))
    (pss_cons (ps_if (pt_cmpR (op_neK (K := K) (by rfl) (by exact hr.units)) (pe_cmpR op_notN (pv 12) pe_non (nomark _)) (pv 13) (nomark _)) (pss_one (ps_ret pe_bl)) pss_nil)
    (pss_one (ps_if (pt_cmpR op_notN (pv 12) pe_non (nomark _)) (pss_one (ps_if (PW.pt (pw_or (pt_cmpR (op_inK (K := K) (by rfl)) pe_int (pv 12) (by rfl)) (pw_or1 (pt_not (pt_val (ca h__law_alike (hr.mono (by decide)) (by rfl) (pa_cons (ca h_turned (hr.mono (by decide)) (by rfl) (pa_cons (pv 3) (pa_cons (pv 5) (pa_cons (pv 12) pa_nil)))) (pa_cons (pv 11) pa_nil)))))))) (pss_one (ps_ret pe_bl)) pss_nil)) pss_nil)))))))))))))))
    (pss_one (ps_ret pe_bl)))), ?_⟩
  refine law_go (n := 12) hS q fun L => ?_
  refine sr_for (PD := fun ds => ds = upto 0 5) (fun _ _ Δ => Δ.length = 14 ∧ Δ[1]? = some (some (.r L))) (ri_of (ei_rng1 (j := 5) (ea_cons ev_int ea_nil) ⟨by decide, by decide⟩) rfl) (fun _ _ => ⟨rfl, rfl⟩) (fun ds i d Δi _ _ ⟨hl, h1⟩ => ?_) (fun ds Δ' _ _ => sr_of (sx_ret ev_bl) rfl)
  refine sr_weak (Δ2 := none :: some (.r L) :: List.replicate 12 none) ?_ (lt_row (by rw [List.length_set]; exact hl) (by rw [List.getElem?_set_ne (by decide)]; exact h1))
  refine sr_asg (er_call (PL := fun ds => ds = [.int 5]) rfl (era_of (ea_cons ev_int ea_nil) rfl) fun ds h => ⟨h, fun d hd => hd⟩) fun d ⟨r, c, hd, hB⟩ => ?_
  subst hd
  obtain ⟨r2, r5, c2, c5⟩ := id hB
  have hrc : (((r * c : Nat) : Int)) = (r : Int) * c := Int.natCast_mul r c
  have hrc25 : r * c ≤ 25 := Nat.mul_le_mul r5 c5
  have hrc4 : 4 ≤ r * c := Nat.mul_le_mul r2 c2
  have two : 2 * (r * c) ≤ 1000 := by omega
  refine sr_pure (sx_asg (ev_is (ev_op (ev_op (ev_var rfl) ev_int (rv_ixT rfl)) (ev_op (ev_var rfl) ev_int (rv_ixT rfl)) (rv_I (cmul ⟨by omega, by omega⟩))) (y := .int ((r * c : Nat) : Int)) (by rw [hrc]))) ?_
  refine sr_unp (PA := fun d => ∃ f F, d = .tuple [ti (sel (2 * (r * c)) f), ti (sel (r * c) F)]) (er_tup (PL := fun ds => ∃ f F, ds = [ti (sel (2 * (r * c)) f), ti (sel (r * c) F)]) (era_cons (er_flips hB rfl rfl) (era_cons (PM := fun ds => ds = []) (PL := fun ds => ∃ G, ds = [ti (sel (r * c) G)]) (er_some rfl (ev_var rfl) (ev_var rfl) (by omega) (by omega)) (era_nil rfl) fun x xs ⟨G, hx⟩ hxs => ⟨G, by rw [hx, hxs]⟩) fun x xs ⟨F, hx⟩ ⟨G, hxs⟩ => ⟨F, G, by rw [hx, hxs]⟩)
    fun ds ⟨F, G, h⟩ => ⟨by rw [h]; show 2 ≤ 100000; decide, F, G, by rw [h]⟩) fun d ⟨f, F, hd⟩ => ?_
  subst hd
  refine ⟨_, _, eg_pair, ?_⟩
  have tu : ∀ {Δ : Sl} {ta tb : TE} {j : Nat} {f F : Nat → Bool}, Δ[j]? = some (some (.d (bd r c))) → Ev K ta Δ (ti (sel (2 * (r * c)) f)) → Ev K tb Δ (ti (sel (r * c) F)) → Ev K (tCall (spD K F_turned) [] E0 (tCons (tVar j) (tCons ta (tCons tb tNil)))) Δ (ti (sel (2 * (r * c)) fun k => f k ^^ tr r c F k)) := fun h1 h2 h3 => ev_call (ea_cons (ev_var h1) (ea_cons h2 (ea_cons h3 ea_nil))) (turned_at hB _ _)
  refine sr_pure (sx_asg (tu rfl (ev_var rfl) (ev_var rfl))) ?_
  -- due
  refine sr_pure (sx_asg (ev_var rfl)) ?_
  have f0 : hasI 0 (sel (r * c) F) = F 0 := hasI_sel (k := 0) (by omega)
  refine sr_pure (t := tIfS _ _ _) (Δ1 := [none, some (.r L), none, some (.d (bd r c)), some (.d (.int ((r * c : Nat) : Int))), some (.d (ti (sel (2 * (r * c)) f))), some (.d (ti (sel (r * c) F))), some (.d (ti (sel (2 * (r * c)) fun k => f k ^^ tr r c F k))), some (.d (ti (sel (r * c) fun k => F k ^^ F 0))), none, none, none, none, none])
    (sx_if (et_is (et_test (ev_op ev_int (ev_var rfl) rv_inT)) f0) (fun h => ?_) (fun h => ?_)) ?_
  · rw [h]
    refine sx_asg (ev_is (ev_cb (ea_cons (ev_of (en_lc (K := K) (js := [9]) (vs := [9]) (fun d => match d with | .int i => !hasI i (sel (r * c) F) | _ => false) (fun d => d) (fun d => [none, some (.r L), none, some (.d (bd r c)), some (.d (.int ((r * c : Nat) : Int))), some (.d (ti (sel (2 * (r * c)) f))), some (.d (ti (sel (r * c) F))), some (.d (ti (sel (2 * (r * c)) fun k => f k ^^ tr r c F k))), some (.d (ti (sel (r * c) F))), some (.d d), none, none, none, none])
      (ei_rng1 (j := ((r * c : Nat) : Int)) (ea_cons (ev_var rfl) ea_nil) ⟨by omega, by omega⟩) (by rw [upto_len]; omega) (by simp) (fun d hd => eg_name) (fun d hd => by
        obtain ⟨i, _, rfl⟩ := List.mem_map.mp hd
        exact et_test (ev_op (ev_var rfl) (ev_var rfl) rv_niT)) (fun d hd _ => ev_var rfl))) ea_nil) rc_tupL) ?_)
    refine congrArg PyData.tuple ?_
    rw [Int.toNat_natCast]
    refine upto_filter _ _ _ fun k hk => ?_
    show (!hasI (0 + (k : Int)) (sel (r * c) F)) = _
    rw [Int.zero_add, hasI_sel hk]
    cases F k <;> rfl
  · have e3 : (sel (r * c) fun k => F k ^^ F 0) = sel (r * c) F := sel_congr fun k _ => by rw [h, Bool.xor_false]
    rw [e3]
    exact sx_nil
  have trc : ∀ k, k < 2 * (r * c) → tr r c (fun p => F p ^^ F 0) k = tr r c F k := fun k hk => by
    rw [tr_xor]
    cases F 0
    · rw [tr_ff, Bool.xor_false]
    · rw [tr_all hB hk, Bool.xor_false]
  refine sr_skip (et_or_ff (et_alike (plain_sel _ _ (by omega)) (ev_call (F := F_led) (ea_cons (ev_var rfl) (ea_cons (ev_var rfl) (ea_cons (ev_var rfl) ea_nil))) (led_tr hB f _ F fun e _ => xor_cancel _ _)) (ev_var rfl))
    (et_alike (plain_sel _ _ two) (ev_is (tu rfl (ev_var rfl) (ev_var rfl)) (congrArg ti (sel_congr fun k hk => by rw [trc k hk]))) (ev_var rfl))) ?_
  refine sr_asg (er_flips hB rfl rfl) fun d ⟨h, hd⟩ => ?_
  subst hd
  refine sr_pure (sx_asg (ev_call (ea_cons (ev_var rfl) (ea_cons (ev_var rfl) (ea_cons (ev_var rfl) ea_nil))) (after_at hB (fun k => f k ^^ tr r c F k) h))) ?_
  -- what is told of the third
  have apx : ∀ e, e < 2 * (r * c) → (f e ^^ ((f e ^^ tr r c F e) ^^ h e)) = (tr r c F e ^^ h e) := fun e _ => by cases f e <;> cases tr r c F e <;> cases h e <;> rfl
  have lg : sel (r * c) (lit r c fun k => f k ^^ ((f k ^^ tr r c F k) ^^ h k)) = sel (r * c) (lit r c h) := sel_congr fun s hs => by rw [lit_congr apx, lit_xor, lit_tr hB F hs, Bool.false_xor]
  have ag : sA r c (fun k => f k ^^ ((f k ^^ tr r c F k) ^^ h k)) = sA r c h := by rw [sA_congr apx, sA_xor, sA_tr hB, Bool.false_xor]
  have bg : sB r c (fun k => f k ^^ ((f k ^^ tr r c F k) ^^ h k)) = sB r c h := by rw [sB_congr apx, sB_xor, sB_tr hB, Bool.false_xor]
  obtain ⟨told, st, hF, hst, hT⟩ : ∃ told st, F_led [bd r c, ti (sel (2 * (r * c)) f), ti (sel (2 * (r * c)) fun k => (f k ^^ tr r c F k) ^^ h k)] told ∧
      (decide (sel (r * c) (lit r c h) = []) && (decide (bi (sA r c h) = 0) && decide (bi (sB r c h) = 0))) = st ∧
      ((st = true ∧ told = ti (sel (r * c) (fw c fun k => f k ^^ ((f k ^^ tr r c F k) ^^ h k))) ∧ ∀ e, e < 2 * (r * c) → (f e ^^ tr r c (fw c fun k => f k ^^ ((f k ^^ tr r c F k) ^^ h k)) e) = ((f e ^^ tr r c F e) ^^ h e)) ∨ (st = false ∧ told = .none)) := by
    have bb : ∀ a : Bool, decide (bi a = 0) = decide (a = false) := fun a => by cases a <;> rfl
    rw [bb, bb]
    by_cases hc : sel (r * c) (lit r c h) = [] ∧ sA r c h = false ∧ sB r c h = false
    · have hc2 := hc
      rw [← lg, ← ag, ← bg] at hc2
      refine ⟨_, true, ⟨r, c, f, _, rfl, hB, .inl ⟨hc2, rfl⟩⟩, by rw [decide_eq_true hc.1, decide_eq_true hc.2.1, decide_eq_true hc.2.2]; rfl, .inl ⟨rfl, rfl, fun e he => ?_⟩⟩
      rw [tr_fw hB _ (sel_nil_iff.mp hc2.1) hc2.2.1 hc2.2.2 e he, xor_cancel]
    · have hc2 := hc
      rw [← lg, ← ag, ← bg] at hc2
      refine ⟨_, false, ⟨r, c, f, _, rfl, hB, .inr ⟨hc2, rfl⟩⟩, ?_, .inr ⟨rfl, rfl⟩⟩
      cases q : (decide (sel (r * c) (lit r c h) = []) && (decide (sA r c h = false) && decide (sB r c h = false))) with
      | false => rfl
      | true =>
        simp only [Bool.and_eq_true, decide_eq_true_eq] at q
        exact absurd q hc
  refine sr_pure (sx_asg (ev_call (F := F_led) (ea_cons (ev_var rfl) (ea_cons (ev_var rfl) (ea_cons (ev_var rfl) ea_nil))) hF)) ?_
  refine sr_pure (sx_asg (ev_is (ev_andV (ev_op (ev_call (ea_cons (ev_var rfl) (ea_cons (ev_var rfl) ea_nil)) (checks_at hB h)) (ev_tup ea_nil (by decide)) (rv_eqD (shaped_ti _) (shaped_ti []))) fun _ => ev_op (ev_call (ea_cons (ev_var rfl) (ea_cons (ev_var rfl) ea_nil)) (seams_at hB h)) (ev_tup (ea_cons ev_int (ea_cons ev_int ea_nil)) (by show 2 ≤ 100000; decide)) (rv_eqD (bd_bi _ _) rfl)) (y := .bool st) (by
    have e1 : PyData.eqv (ti (sel (r * c) (lit r c h))) (.tuple []) = decide (sel (r * c) (lit r c h) = []) := eqv_ti _ []
    rw [e1, eqv_bd, hst]))) ?_
  refine sr_skip (et_is (et_test (ev_op (ev_op (ev_var rfl) ev_non rv_notN) (ev_var rfl) (rv_neD rfl rfl))) ?_) ?_
  · rcases hT with ⟨ha, hh, _⟩ | ⟨ha, hh⟩ <;> subst hh <;> subst ha <;> rfl
  rcases hT with ⟨ha, hh, he⟩ | ⟨ha, hh⟩
  · subst hh
    refine sr_of (sx_if (et_is (et_test (ev_op (ev_var rfl) ev_non rv_notN)) (rfl : _ = true)) (fun _ => sx_pass1 (et_or_ff (et_is (et_test (ev_op ev_int (ev_var rfl) rv_inT)) ?_)
      (et_alike (plain_sel _ _ two) (ev_is (tu rfl (ev_var rfl) (ev_var rfl)) (congrArg ti (sel_congr he))) (ev_var rfl)))) fun h => nomatch h) ⟨_, .inl rfl, rfl, rfl⟩
    exact hasI_sel (k := 0) (f := fw c _) (by omega)
  · subst hh
    exact sr_of (sx_pass1 (et_is (et_test (ev_op (ev_var rfl) ev_non rv_notN)) rfl)) ⟨_, .inl rfl, rfl, rfl⟩
end
end Sb

namespace Sb
open PySem PySem.Spec PyProof.Rows L2
theorem all_mk {l : PySem.W.OpenLaw} {w : World} {K : PySem.W.Frag} {h : Heap} {mg : Str → Option Value} {fa : Addr} {q_LEAST_SIDE : Tok} {q_MOST_SIDE : Tok} (X : K.In h) (G : h.Ns mainGlobals mg) (hfa : mg "law" = some (.ref fa))
    (t__law_taken : TextFn K "_law_taken" s__law_taken) (t__law_board : TextFn K "_law_board" s__law_board) (t_is_whole : TextFn K "is_whole" s_is_whole) (t_is_side : TextFn K "is_side" s_is_side) (t_require_board : TextFn K "require_board" s_require_board) (t_first_misplaced : TextFn K "first_misplaced" s_first_misplaced) (t_site_count : TextFn K "site_count" s_site_count) (t_edge_count : TextFn K "edge_count" s_edge_count) (t_require_flips : TextFn K "require_flips" s_require_flips) (t_require_faces : TextFn K "require_faces" s_require_faces) (t_odd_ones : TextFn K "odd_ones" s_odd_ones) (t_site_below : TextFn K "site_below" s_site_below) (t_site_right_of : TextFn K "site_right_of" s_site_right_of) (t_edges_round : TextFn K "edges_round" s_edges_round) (t_turned : TextFn K "turned" s_turned) (t__law_some : TextFn K "_law_some" s__law_some) (t__law_flips : TextFn K "_law_flips" s__law_flips) (t_after : TextFn K "after" s_after) (t_faces_within : TextFn K "faces_within" s_faces_within) (t_goes_down : TextFn K "goes_down" s_goes_down) (t_edge_ends : TextFn K "edge_ends" s_edge_ends) (t_checks : TextFn K "checks" s_checks) (t_crosses_first_seam : TextFn K "crosses_first_seam" s_crosses_first_seam) (t_crosses_second_seam : TextFn K "crosses_second_seam" s_crosses_second_seam) (t_seams : TextFn K "seams" s_seams) (t_led : TextFn K "led" s_led) (t__law_alike : TextFn K "_law_alike" s__law_alike) (t__law_ends : TextFn K "_law_ends" s__law_ends) (t__law_lit : TextFn K "_law_lit" s__law_lit) (t__law_crosses : TextFn K "_law_crosses" s__law_crosses) (t__law_seams : TextFn K "_law_seams" s__law_seams) (t_law : TextFn K "law" s_law) (z_len : PySem.W.nsIn K mainGlobals "len" = some none) (z_isinstance : PySem.W.nsIn K mainGlobals "isinstance" = some none) (z_int : PySem.W.nsIn K mainGlobals "int" = some none) (z_bool : PySem.W.nsIn K mainGlobals "bool" = some none) (z_tuple : PySem.W.nsIn K mainGlobals "tuple" = some none) (z_enumerate : PySem.W.nsIn K mainGlobals "enumerate" = some none) (z_range : PySem.W.nsIn K mainGlobals "range" = some none) (z_sorted : PySem.W.nsIn K mainGlobals "sorted" = some none) (z_min : PySem.W.nsIn K mainGlobals "min" = some none) (z_list : PySem.W.nsIn K mainGlobals "list" = some none) (z_sum : PySem.W.nsIn K mainGlobals "sum" = some none) (z_LEAST_SIDE : PySem.W.nsIn K mainGlobals "LEAST_SIDE" = some (some (.int 2 q_LEAST_SIDE))) (z_MOST_SIDE : PySem.W.nsIn K mainGlobals "MOST_SIDE" = some (some (.int 5 q_MOST_SIDE))) :
    ∃ fd : FuncData, (∀ (s : Shared) (v : Value), BindsTo s fd ⟨[v], []⟩ [("_law_script", v)]) ∧ ∀ base : Heap, K.In base → base.Ns mainGlobals mg → FnOk l.prog w K mg base CX0 6 fa fd ["_law_script"] (spLaw K) := by
  have b_len : mg "len" = none := PySem.W.mg_none_of X G z_len
  have b_isinstance : mg "isinstance" = none := PySem.W.mg_none_of X G z_isinstance
  have b_int : mg "int" = none := PySem.W.mg_none_of X G z_int
  have b_bool : mg "bool" = none := PySem.W.mg_none_of X G z_bool
  have b_tuple : mg "tuple" = none := PySem.W.mg_none_of X G z_tuple
  have b_enumerate : mg "enumerate" = none := PySem.W.mg_none_of X G z_enumerate
  have b_range : mg "range" = none := PySem.W.mg_none_of X G z_range
  have b_sorted : mg "sorted" = none := PySem.W.mg_none_of X G z_sorted
  have b_min : mg "min" = none := PySem.W.mg_none_of X G z_min
  have b_list : mg "list" = none := PySem.W.mg_none_of X G z_list
  have b_sum : mg "sum" = none := PySem.W.mg_none_of X G z_sum
  have m_LEAST_SIDE := PySem.W.mg_of X G z_LEAST_SIDE
  have m_MOST_SIDE := PySem.W.mg_of X G z_MOST_SIDE
  obtain ⟨f, oc, od, osl, kV, dc, pm, an, cd, ct, a, l1, c, k⟩ := t_law.ex
  have e := hfa.symm.trans (PySem.W.mg_of X G a)
  cases e
  refine ⟨PySem.W.fnOf "law" "law" (defArgs s_law) (defBody s_law) (defScope s_law) .none kV dc pm an cd ct, fun s v => .of_eq rfl, fun base _ _ => ?_⟩
  have h__law_taken := ok__law_taken (P := l.prog) (w := w) (base := base) (A := t__law_taken.at_ X G) (b_len := b_len)  
  have h__law_board := ok__law_board (P := l.prog) (w := w) (base := base) (A := t__law_board.at_ X G)   (h__law_taken := h__law_taken)
  have h_is_whole := ok_is_whole (P := l.prog) (w := w) (base := base) (A := t_is_whole.at_ X G) (b_isinstance := b_isinstance) (b_int := b_int) (b_bool := b_bool)  
  have h_is_side := ok_is_side (P := l.prog) (w := w) (base := base) (A := t_is_side.at_ X G)  (m_LEAST_SIDE := m_LEAST_SIDE) (m_MOST_SIDE := m_MOST_SIDE) (h_is_whole := h_is_whole)
  have h_require_board := ok_require_board (P := l.prog) (w := w) (base := base) (A := t_require_board.at_ X G) (b_isinstance := b_isinstance) (b_tuple := b_tuple) (b_len := b_len)  (h_is_side := h_is_side)
  have h_first_misplaced := ok_first_misplaced (P := l.prog) (w := w) (base := base) (A := t_first_misplaced.at_ X G) (b_enumerate := b_enumerate) (b_isinstance := b_isinstance) (b_tuple := b_tuple)  (h_is_whole := h_is_whole)
  have h_site_count := ok_site_count (P := l.prog) (w := w) (base := base) (A := t_site_count.at_ X G)   
  have h_edge_count := ok_edge_count (P := l.prog) (w := w) (base := base) (A := t_edge_count.at_ X G)   (h_site_count := h_site_count)
  have h_require_flips := ok_require_flips (P := l.prog) (w := w) (base := base) (A := t_require_flips.at_ X G)   (h_first_misplaced := h_first_misplaced) (h_edge_count := h_edge_count)
  have h_require_faces := ok_require_faces (P := l.prog) (w := w) (base := base) (A := t_require_faces.at_ X G)   (h_first_misplaced := h_first_misplaced) (h_site_count := h_site_count)
  have h_odd_ones := ok_odd_ones (P := l.prog) (w := w) (base := base) (A := t_odd_ones.at_ X G) (b_tuple := b_tuple) (b_enumerate := b_enumerate)  
  have h_site_below := ok_site_below (P := l.prog) (w := w) (base := base) (A := t_site_below.at_ X G)   (h_site_count := h_site_count)
  have h_site_right_of := ok_site_right_of (P := l.prog) (w := w) (base := base) (A := t_site_right_of.at_ X G)   
  have h_edges_round := ok_edges_round (P := l.prog) (w := w) (base := base) (A := t_edges_round.at_ X G)   (h_site_below := h_site_below) (h_site_right_of := h_site_right_of)
  have h_turned := ok_turned (P := l.prog) (w := w) (base := base) (A := t_turned.at_ X G)   (h_require_board := h_require_board) (h_require_flips := h_require_flips) (h_require_faces := h_require_faces) (h_odd_ones := h_odd_ones) (h_edge_count := h_edge_count) (h_edges_round := h_edges_round)
  have h__law_some := ok__law_some (P := l.prog) (w := w) (base := base) (A := t__law_some.at_ X G) (b_range := b_range) (b_tuple := b_tuple) (b_sorted := b_sorted) (b_min := b_min) (b_int := b_int)  (h__law_taken := h__law_taken)
  have h__law_flips := ok__law_flips (P := l.prog) (w := w) (base := base) (A := t__law_flips.at_ X G) (b_list := b_list) (b_tuple := b_tuple) (b_range := b_range)  (h__law_some := h__law_some) (h__law_taken := h__law_taken)
  have h_after := ok_after (P := l.prog) (w := w) (base := base) (A := t_after.at_ X G)   (h_require_board := h_require_board) (h_require_flips := h_require_flips) (h_odd_ones := h_odd_ones) (h_edge_count := h_edge_count)
  have h_faces_within := ok_faces_within (P := l.prog) (w := w) (base := base) (A := t_faces_within.at_ X G) (b_range := b_range) (b_tuple := b_tuple) (b_enumerate := b_enumerate)  (h_site_count := h_site_count)
  have h_goes_down := ok_goes_down (P := l.prog) (w := w) (base := base) (A := t_goes_down.at_ X G)   
  have h_edge_ends := ok_edge_ends (P := l.prog) (w := w) (base := base) (A := t_edge_ends.at_ X G)   (h_goes_down := h_goes_down) (h_site_right_of := h_site_right_of) (h_site_below := h_site_below)
  have h_checks := ok_checks (P := l.prog) (w := w) (base := base) (A := t_checks.at_ X G)   (h_require_board := h_require_board) (h_require_flips := h_require_flips) (h_odd_ones := h_odd_ones) (h_site_count := h_site_count) (h_edge_ends := h_edge_ends)
  have h_crosses_first_seam := ok_crosses_first_seam (P := l.prog) (w := w) (base := base) (A := t_crosses_first_seam.at_ X G)   (h_goes_down := h_goes_down)
  have h_crosses_second_seam := ok_crosses_second_seam (P := l.prog) (w := w) (base := base) (A := t_crosses_second_seam.at_ X G)   (h_goes_down := h_goes_down)
  have h_seams := ok_seams (P := l.prog) (w := w) (base := base) (A := t_seams.at_ X G) (b_len := b_len)  (h_require_board := h_require_board) (h_require_flips := h_require_flips) (h_crosses_first_seam := h_crosses_first_seam) (h_crosses_second_seam := h_crosses_second_seam)
  have h_led := ok_led (P := l.prog) (w := w) (base := base) (A := t_led.at_ X G)   (h_after := h_after) (h_faces_within := h_faces_within) (h_checks := h_checks) (h_seams := h_seams)
  have h__law_alike := ok__law_alike (P := l.prog) (w := w) (base := base) (A := t__law_alike.at_ X G) (b_isinstance := b_isinstance) (b_tuple := b_tuple) (b_list := b_list) (b_bool := b_bool) (b_len := b_len) (b_range := b_range)   4
  have h__law_ends := ok__law_ends (P := l.prog) (w := w) (base := base) (A := t__law_ends.at_ X G) (b_int := b_int)  
  have h__law_lit := ok__law_lit (P := l.prog) (w := w) (base := base) (A := t__law_lit.at_ X G) (b_tuple := b_tuple) (b_range := b_range)  (h__law_ends := h__law_ends)
  have h__law_crosses := ok__law_crosses (P := l.prog) (w := w) (base := base) (A := t__law_crosses.at_ X G) (b_int := b_int)  
  have h__law_seams := ok__law_seams (P := l.prog) (w := w) (base := base) (A := t__law_seams.at_ X G) (b_sum := b_sum)  (h__law_crosses := h__law_crosses)
  exact ok_law (F := fun_mk (st := s_law) l1 c k) (b_range := b_range) (b_tuple := b_tuple)  (h__law_board := h__law_board) (h_turned := h_turned) (h__law_flips := h__law_flips) (h_after := h_after) (h_led := h_led) (h__law_some := h__law_some) (h__law_alike := h__law_alike) (h__law_lit := h__law_lit) (h__law_seams := h__law_seams)
end Sb
open PySem PySem.W PyProof.Rows
local macro_rules | `(tactic| walk_at "tf") => `(tactic| (refine' Sb.textFn_mk ?a ?l ?c ?k; (case a => k_is); (case l => k_is); (case c => k_is); (case k => k_is)))
set_option maxRecDepth 100000 in
set_option maxHeartbeats 0 in
theorem PySem.Challenge.cw_seamboard_k04_led_by_faces_holds : PySem.Challenge.rw_seamboard_k04_led_by_faces.Holds := by
  w_on; o_law; k_head; (case hw => w_witness2)
  k_fill
  refine L2.walk_of (l := PySem.Challenge.rw_seamboard_k04_led_by_faces) (n := 63) (k := 6) (x := "_law_script") (CX := fun _ => L2.CX0) (sp := fun w => Sb.spLaw _) rfl (by decide) rfl ⟨rfl, by decide, by decide⟩ (fun w h Y => PySem.W.kIn_of Y) ?F (fun _ _ a ns hl _ hS => ⟨a, ns, rfl, hS, hl, fun _ => rfl⟩) (fun _ _ _ _ _ h => h)
  case F =>
    intro w mg fa h KX G hmg
    refine' Sb.all_mk KX G hmg ?t__law_taken ?t__law_board ?t_is_whole ?t_is_side ?t_require_board ?t_first_misplaced ?t_site_count ?t_edge_count ?t_require_flips ?t_require_faces ?t_odd_ones ?t_site_below ?t_site_right_of ?t_edges_round ?t_turned ?t__law_some ?t__law_flips ?t_after ?t_faces_within ?t_goes_down ?t_edge_ends ?t_checks ?t_crosses_first_seam ?t_crosses_second_seam ?t_seams ?t_led ?t__law_alike ?t__law_ends ?t__law_lit ?t__law_crosses ?t__law_seams ?t_law ?z_len ?z_isinstance ?z_int ?z_bool ?z_tuple ?z_enumerate ?z_range ?z_sorted ?z_min ?z_list ?z_sum ?z_LEAST_SIDE ?z_MOST_SIDE
    (case t__law_taken => walk_at "tf")
    (case t__law_board => walk_at "tf")
    (case t_is_whole => walk_at "tf")
    (case t_is_side => walk_at "tf")
    (case t_require_board => walk_at "tf")
    (case t_first_misplaced => walk_at "tf")
    (case t_site_count => walk_at "tf")
    (case t_edge_count => walk_at "tf")
    (case t_require_flips => walk_at "tf")
    (case t_require_faces => walk_at "tf")
    (case t_odd_ones => walk_at "tf")
    (case t_site_below => walk_at "tf")
    (case t_site_right_of => walk_at "tf")
    (case t_edges_round => walk_at "tf")
    (case t_turned => walk_at "tf")
    (case t__law_some => walk_at "tf")
    (case t__law_flips => walk_at "tf")
    (case t_after => walk_at "tf")
    (case t_faces_within => walk_at "tf")
    (case t_goes_down => walk_at "tf")
    (case t_edge_ends => walk_at "tf")
    (case t_checks => walk_at "tf")
    (case t_crosses_first_seam => walk_at "tf")
    (case t_crosses_second_seam => walk_at "tf")
    (case t_seams => walk_at "tf")
    (case t_led => walk_at "tf")
    (case t__law_alike => walk_at "tf")
    (case t__law_ends => walk_at "tf")
    (case t__law_lit => walk_at "tf")
    (case t__law_crosses => walk_at "tf")
    (case t__law_seams => walk_at "tf")
    (case t_law => walk_at "tf")
    (case z_len => k_is)
    (case z_isinstance => k_is)
    (case z_int => k_is)
    (case z_bool => k_is)
    (case z_tuple => k_is)
    (case z_enumerate => k_is)
    (case z_range => k_is)
    (case z_sorted => k_is)
    (case z_min => k_is)
    (case z_list => k_is)
    (case z_sum => k_is)
    (case z_LEAST_SIDE => k_is)
    (case z_MOST_SIDE => k_is)
