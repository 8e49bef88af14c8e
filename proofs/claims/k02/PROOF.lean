import PyProof.Rows.All
import Wide.All
import OpenK.AllK
import Wide.FinOn
import HandS.ForMost
import HandS.IsInst
import HandS.Evl
import PySem.Challenge.RW_logreplica_k02_agrees
set_option Elab.async false
set_option linter.all false
set_option maxRecDepth 100000
set_option maxHeartbeats 1000000
namespace G
open PySem L2 Evl

/-! ### states: a base B of things that stay, the heap H; how both grow -/
structure Gr (B H B1 H1 : Hp) : Prop where
  bb : Ex B B1
  bh : Ex B1 H1
  hh : Ex H H1
  nw : ∀ a, B a = none → B1 a ≠ none → H a = none
theorem Gr.refl {B H : Hp} (h : Ex B H) : Gr B H B H := ⟨Ex.refl _, h, Ex.refl _, fun a h1 h2 => absurd h1 h2⟩
theorem ex_none {H H1 : Hp} (e : Ex H H1) {a : Addr} (h : H1 a = none) : H a = none := fresh_back e h
theorem Gr.trans {B H B1 H1 B2 H2 : Hp} (g : Gr B H B1 H1) (k : Gr B1 H1 B2 H2) : Gr B H B2 H2 :=
  ⟨g.bb.trans k.bb, k.bh, g.hh.trans k.hh, fun a h1 h2 => by
    cases e : B1 a with
    | none => exact ex_none g.hh (k.nw a e h2)
    | some o => exact g.nw a h1 (by rw [e]; exact fun z => nomatch z)⟩
theorem Gr.le {B H B1 H1 : Hp} (g : Gr B H B1 H1) : Gr B1 H1 B1 H1 := Gr.refl g.bh
/-- what is mutable stays outside the base -/
theorem Gr.out {B H B1 H1 : Hp} (g : Gr B H B1 H1) {a : Addr} {o : HO} (hb : B a = none) (hh : H a = some o) : B1 a = none := by
  cases e : B1 a with
  | none => rfl
  | some u =>
    have := g.nw a hb (by rw [e]; exact fun z => nomatch z)
    rw [this] at hh
    cases hh
theorem upd_ex {B H : Hp} {p : Addr} {o : HO} (h : Ex B H) : Ex (upd B p o) (upd H p o) := fun a u e => by
  by_cases ha : a = p
  · subst ha
    rw [upd_same] at e ⊢
    exact e
  · rw [upd_ne ha] at e ⊢
    exact h a u e
theorem Gr.new {B H : Hp} {p : Addr} {o : HO} (h : Ex B H) (hp : H p = none) : Gr B H (upd B p o) (upd H p o) :=
  ⟨Ex.new (ex_none h hp), upd_ex h, Ex.new hp, fun a h1 h2 => by
    by_cases ha : a = p
    · rw [ha]; exact hp
    · rw [upd_ne ha] at h2; exact absurd h1 h2⟩
/-- a new thing that may change -/
theorem Gr.newM {B H : Hp} {p : Addr} {o : HO} (h : Ex B H) (hp : H p = none) : Gr B H B (upd H p o) :=
  ⟨Ex.refl _, h.trans (Ex.new hp), Ex.new hp, fun a h1 h2 => absurd h1 h2⟩
/-- a thing that the beginning did not know is changed -/
theorem Gr.mut {B H B1 H1 : Hp} {l : Addr} {o : HO} (g : Gr B H B1 H1) (hl : H l = none) (hb : B1 l = none) : Gr B H B1 (upd H1 l o) :=
  ⟨g.bb, Ex.mut g.bh hb, Ex.mut g.hh hl, g.nw⟩
/-- .. and from then on stays -/
theorem Gr.froz {B H B1 H1 : Hp} {l : Addr} {o : HO} (g : Gr B H B1 H1) (hl : H l = none) (hb : B1 l = none) (h1 : H1 l = some o) : Gr B H (upd B1 l o) H1 :=
  ⟨g.bb.trans (Ex.new hb), fun a u e => by
    by_cases ha : a = l
    · subst ha
      rw [upd_same] at e
      rw [h1]; exact e
    · rw [upd_ne ha] at e
      exact g.bh a u e, g.hh, fun a q1 q2 => by
    by_cases ha : a = l
    · rw [ha]; exact hl
    · rw [upd_ne ha] at q2
      exact g.nw a q1 q2⟩

/-! ### data over a base -/
def dV : PyData → V
  | .int i => .int i
  | .bool b => .bl b
  | .str x => .str x
  | _ => .non
mutual
def Dq (K : PySem.W.Frag) (B : Hp) : PyData → V → Prop
  | .none, v => v = .non
  | .bool b, v => v = .bl b
  | .int i, v => v = .int i
  | .str x, v => v = .str x
  | .list ds, v => ∃ a xs, v = .ref a ∧ B a = some (.lst xs) ∧ DqAll K B ds xs
  | .tuple ds, v => ∃ a xs, v = .ref a ∧ B a = some (.tup xs) ∧ DqAll K B ds xs
  | .dict kvs, v => ∃ a, v = .ref a ∧ SqL K B a (kvs.map fun p => dV p.1)
def DqAll (K : PySem.W.Frag) (B : Hp) : List PyData → List V → Prop
  | [], xs => xs = []
  | d :: ds, xs => ∃ v vs, xs = v :: vs ∧ Dq K B d v ∧ DqAll K B ds vs
end
variable {K : PySem.W.Frag}
mutual
theorem Dq.mono {B B1 : Hp} (e : Ex B B1) : ∀ {d : PyData} {v : V}, Dq K B d v → Dq K B1 d v
  | .none, _, h => h
  | .bool _, _, h => h
  | .int _, _, h => h
  | .str _, _, h => h
  | .list ds, _, h => by
    unfold Dq at h ⊢
    obtain ⟨a, xs, rfl, h1, h2⟩ := h
    exact ⟨a, xs, rfl, e _ _ h1, DqAll.mono e h2⟩
  | .tuple ds, _, h => by
    unfold Dq at h ⊢
    obtain ⟨a, xs, rfl, h1, h2⟩ := h
    exact ⟨a, xs, rfl, e _ _ h1, DqAll.mono e h2⟩
  | .dict kvs, _, h => by
    unfold Dq at h ⊢
    obtain ⟨a, rfl, h1⟩ := h
    exact ⟨a, rfl, ex_l e h1⟩
theorem DqAll.mono {B B1 : Hp} (e : Ex B B1) : ∀ {ds : List PyData} {vs : List V}, DqAll K B ds vs → DqAll K B1 ds vs
  | [], _, h => by
    unfold DqAll at h ⊢
    exact h
  | d :: ds, _, h => by
    unfold DqAll at h ⊢
    obtain ⟨v, vs, rfl, h1, h2⟩ := h
    exact ⟨v, vs, rfl, Dq.mono e h1, DqAll.mono e h2⟩
end
theorem dq_int {B : Hp} {i : Int} {v : V} : Dq K B (.int i) v ↔ v = .int i := by unfold Dq; exact Iff.rfl
theorem dq_bool {B : Hp} {i : Bool} {v : V} : Dq K B (.bool i) v ↔ v = .bl i := by unfold Dq; exact Iff.rfl
theorem dq_str {B : Hp} {i : Str} {v : V} : Dq K B (.str i) v ↔ v = .str i := by unfold Dq; exact Iff.rfl
theorem dq_none {B : Hp} {v : V} : Dq K B .none v ↔ v = .non := by unfold Dq; exact Iff.rfl
theorem dq_list {B : Hp} {ds : List PyData} {v : V} : Dq K B (.list ds) v ↔ ∃ a xs, v = .ref a ∧ B a = some (.lst xs) ∧ DqAll K B ds xs := by rw [Dq]
theorem dq_tuple {B : Hp} {ds : List PyData} {v : V} : Dq K B (.tuple ds) v ↔ ∃ a xs, v = .ref a ∧ B a = some (.tup xs) ∧ DqAll K B ds xs := by rw [Dq]
theorem dqa_nil {B : Hp} {xs : List V} : DqAll K B [] xs ↔ xs = [] := by rw [DqAll]
theorem dqa_cons {B : Hp} {d : PyData} {ds : List PyData} {xs : List V} : DqAll K B (d :: ds) xs ↔ ∃ v vs, xs = v :: vs ∧ Dq K B d v ∧ DqAll K B ds vs := by rw [DqAll]
theorem DqAll.len {B : Hp} : ∀ {ds : List PyData} {xs : List V}, DqAll K B ds xs → xs.length = ds.length
  | [], _, h => by rw [dqa_nil.mp h]; rfl
  | d :: ds, _, h => by
    obtain ⟨v, vs, rfl, _, h2⟩ := dqa_cons.mp h
    rw [List.length_cons, List.length_cons, DqAll.len h2]
theorem DqAll.get {B : Hp} : ∀ {ds : List PyData} {xs : List V} {i : Nat} {d : PyData}, DqAll K B ds xs → ds[i]? = some d → ∃ v, xs[i]? = some v ∧ Dq K B d v
  | [], _, _, _, _, h => by simp at h
  | e :: ds, _, 0, d, h, hi => by
    obtain ⟨v, vs, rfl, h1, h2⟩ := dqa_cons.mp h
    have : e = d := by simpa using hi
    subst this
    exact ⟨v, rfl, h1⟩
  | e :: ds, _, i + 1, d, h, hi => by
    obtain ⟨v, vs, rfl, h1, h2⟩ := dqa_cons.mp h
    obtain ⟨u, q1, q2⟩ := DqAll.get (i := i) h2 (by simpa using hi)
    exact ⟨u, by simpa using q1, q2⟩
theorem DqAll.get' {B : Hp} : ∀ {ds : List PyData} {xs : List V} {i : Nat} {v : V}, DqAll K B ds xs → xs[i]? = some v → ∃ d, ds[i]? = some d ∧ Dq K B d v
  | [], _, _, _, h, hi => by rw [dqa_nil.mp h] at hi; simp at hi
  | e :: ds, _, 0, v, h, hi => by
    obtain ⟨u, vs, rfl, h1, h2⟩ := dqa_cons.mp h
    have : u = v := by simpa using hi
    subst this
    exact ⟨e, rfl, h1⟩
  | e :: ds, _, i + 1, v, h, hi => by
    obtain ⟨u, vs, rfl, h1, h2⟩ := dqa_cons.mp h
    obtain ⟨d, q1, q2⟩ := DqAll.get' (i := i) h2 (by simpa using hi)
    exact ⟨d, by simpa using q1, q2⟩
theorem DqAll.append {B : Hp} : ∀ {ds es : List PyData} {xs ys : List V}, DqAll K B ds xs → DqAll K B es ys → DqAll K B (ds ++ es) (xs ++ ys)
  | [], _, _, _, h, k => by rw [dqa_nil.mp h]; exact k
  | d :: ds, _, _, _, h, k => by
    obtain ⟨v, vs, rfl, h1, h2⟩ := dqa_cons.mp h
    exact dqa_cons.mpr ⟨v, _, rfl, h1, DqAll.append h2 k⟩
theorem DqAll.one {B : Hp} {d : PyData} {v : V} (h : Dq K B d v) : DqAll K B [d] [v] := dqa_cons.mpr ⟨v, [], rfl, h, dqa_nil.mpr rfl⟩
theorem DqAll.drop {B : Hp} : ∀ {ds : List PyData} {xs : List V} (n : Nat), DqAll K B ds xs → DqAll K B (ds.drop n) (xs.drop n)
  | _, _, 0, h => h
  | [], _, n + 1, h => by rw [dqa_nil.mp h]; exact dqa_nil.mpr rfl
  | d :: ds, _, n + 1, h => by
    obtain ⟨v, vs, rfl, h1, h2⟩ := dqa_cons.mp h
    exact DqAll.drop n h2
theorem DqAll.take {B : Hp} : ∀ {ds : List PyData} {xs : List V} (n : Nat), DqAll K B ds xs → DqAll K B (ds.take n) (xs.take n)
  | _, _, 0, h => dqa_nil.mpr rfl
  | [], _, n + 1, h => by rw [dqa_nil.mp h]; exact dqa_nil.mpr rfl
  | d :: ds, _, n + 1, h => by
    obtain ⟨v, vs, rfl, h1, h2⟩ := dqa_cons.mp h
    exact dqa_cons.mpr ⟨v, _, rfl, h1, DqAll.take n h2⟩
theorem DqAll.ints {B : Hp} : ∀ (ns : List Int), DqAll K B (ns.map PyData.int) (ns.map V.int)
  | [] => dqa_nil.mpr rfl
  | n :: ns => dqa_cons.mpr ⟨_, _, rfl, dq_int.mpr rfl, DqAll.ints ns⟩
mutual
/-- no script in it -/
def noS : PyData → Bool
  | .list ds => noSAll ds
  | .tuple ds => noSAll ds
  | .dict _ => false
  | .none => true
  | .bool _ => true
  | .int _ => true
  | .str _ => true
def noSAll : List PyData → Bool
  | [] => true
  | d :: ds => noS d && noSAll ds
end
mutual
theorem Dq.dp {B H : Hp} (e : Ex B H) : ∀ {d : PyData} {v : V}, d.canLay0 = true → Dq K B d v → Dp K H v d
  | .none, _, _, h => by rw [dq_none.mp h]; exact .non
  | .bool _, _, _, h => by rw [dq_bool.mp h]; exact .bl _
  | .int _, _, _, h => by rw [dq_int.mp h]; exact .int _
  | .str _, _, _, h => by rw [dq_str.mp h]; exact .str _
  | .list ds, _, c, h => by
    obtain ⟨a, xs, rfl, h1, h2⟩ := dq_list.mp h
    exact .lst (sq_of (e _ _ h1)) (DqAll.dp e (by unfold PyData.canLay0 at c; exact c) h2)
  | .tuple ds, _, c, h => by
    obtain ⟨a, xs, rfl, h1, h2⟩ := dq_tuple.mp h
    exact .tup (st_of (e _ _ h1)) (DqAll.dp e (by unfold PyData.canLay0 at c; exact c) h2)
  | .dict kvs, _, c, h => by
    unfold PyData.canLay0 at c
    cases c
theorem DqAll.dp {B H : Hp} (e : Ex B H) : ∀ {ds : List PyData} {vs : List V}, PyData.canLayAll0 ds = true → DqAll K B ds vs → DpAll K H vs ds
  | [], _, _, h => by rw [dqa_nil.mp h]; exact .nil
  | d :: ds, _, c, h => by
    obtain ⟨v, vs, rfl, h1, h2⟩ := dqa_cons.mp h
    unfold PyData.canLayAll0 at c
    have c2 := Bool.and_eq_true_iff.mp c
    exact .cons (Dq.dp e c2.1 h1) (DqAll.dp e c2.2 h2)
end

/-! ### what evaluates to what -/
def EvP (te : TE) (σ : L2.St) (B H : Hp) (P : Hp → V → Prop) : Prop := ∀ B1 H1, Gr B H B1 H1 → ∀ Q : VK, (∀ v B2 H2, Gr B1 H1 B2 H2 → P B2 v → Q v H2) → te σ H1 Q
def EvD (K : PySem.W.Frag) (te : TE) (σ : L2.St) (B H : Hp) (d : PyData) : Prop := EvP te σ B H fun B1 v => Dq K B1 d v
def EvV (te : TE) (σ : L2.St) (B H : Hp) (x : V) : Prop := EvP te σ B H fun _ v => v = x
def EvT (K : PySem.W.Frag) (tt : TT) (σ : L2.St) (B H : Hp) (b : Bool) : Prop := ∀ B1 H1, Gr B H B1 H1 → ∀ Q : Bool → Hp → Prop, (∀ B2 H2, Gr B1 H1 B2 H2 → Q b H2) → tt σ H1 Q
def EvA (ta : TA) (σ : L2.St) (B H : Hp) (P : Hp → List V → Prop) : Prop := ∀ B1 H1, Gr B H B1 H1 → ∀ Q : List V → Hp → Prop, (∀ vs B2 H2, Gr B1 H1 B2 H2 → P B2 vs → Q vs H2) → ta σ H1 Q
def EvO (K : PySem.W.Frag) (to : TO) (σ : L2.St) (B H : Hp) (o : Option Int) : Prop := ∀ B1 H1, Gr B H B1 H1 → ∀ Q : Option Int → Hp → Prop, (∀ B2 H2, Gr B1 H1 B2 H2 → Q o H2) → to σ H1 Q

section
variable {σ : L2.St} {B H B1 H1 : Hp} {ta tb te tx : TE} {t u : TT} {x y z v : V} {r : R2} {d e : PyData} {ds es : List PyData} {i j k : Int} {b c : Bool}
theorem EvP.mono {P : Hp → V → Prop} (g : Gr B H B1 H1) (h : EvP te σ B H P) : EvP te σ B1 H1 P := fun B2 H2 q Q k => h B2 H2 (g.trans q) Q k
theorem EvD.mono (g : Gr B H B1 H1) (h : EvD K te σ B H d) : EvD K te σ B1 H1 d := EvP.mono g h
theorem EvT.mono (g : Gr B H B1 H1) (h : EvT K t σ B H b) : EvT K t σ B1 H1 b := fun B2 H2 q Q k => h B2 H2 (g.trans q) Q k
theorem EvA.mono {tr : TA} {P : Hp → List V → Prop} (g : Gr B H B1 H1) (h : EvA tr σ B H P) : EvA tr σ B1 H1 P := fun B2 H2 q Q k => h B2 H2 (g.trans q) Q k
theorem EvP.imp {P P' : Hp → V → Prop} (h : EvP te σ B H P) (k : ∀ B1 H1 v, Gr B H B1 H1 → P B1 v → P' B1 v) : EvP te σ B H P' := fun B1 H1 g Q q => h B1 H1 g Q fun v B2 H2 g2 p => q v B2 H2 g2 (k B2 H2 v (g.trans g2) p)
theorem EvD.is (h : EvD K te σ B H d) (q : d = e) : EvD K te σ B H e := by rw [← q]; exact h
theorem EvV.is (h : EvV te σ B H x) (q : x = y) : EvV te σ B H y := by rw [← q]; exact h
theorem EvT.is (h : EvT K t σ B H b) (q : b = c) : EvT K t σ B H c := by rw [← q]; exact h
theorem EvD.vI (h : EvD K te σ B H (.int i)) : EvV te σ B H (.int i) := EvP.imp h fun _ _ _ _ p => dq_int.mp p
theorem EvD.vB (h : EvD K te σ B H (.bool b)) : EvV te σ B H (.bl b) := EvP.imp h fun _ _ _ _ p => dq_bool.mp p
theorem EvD.vS {s : Str} (h : EvD K te σ B H (.str s)) : EvV te σ B H (.str s) := EvP.imp h fun _ _ _ _ p => dq_str.mp p
theorem EvD.vN (h : EvD K te σ B H .none) : EvV te σ B H .non := EvP.imp h fun _ _ _ _ p => dq_none.mp p
theorem EvV.dI (h : EvV te σ B H (.int i)) : EvD K te σ B H (.int i) := EvP.imp h fun _ _ _ _ p => dq_int.mpr p
theorem EvV.dB (h : EvV te σ B H (.bl b)) : EvD K te σ B H (.bool b) := EvP.imp h fun _ _ _ _ p => dq_bool.mpr p
theorem EvV.dS {s : Str} (h : EvV te σ B H (.str s)) : EvD K te σ B H (.str s) := EvP.imp h fun _ _ _ _ p => dq_str.mpr p
theorem EvV.dN (h : EvV te σ B H .non) : EvD K te σ B H .none := EvP.imp h fun _ _ _ _ p => dq_none.mpr p
/-- a rule that leaves the heap as it is -/
theorem evp_still {P : Hp → V → Prop} (h : ∀ B1 H1, Gr B H B1 H1 → ∀ Q : VK, (∀ v, P B1 v → Q v H1) → te σ H1 Q) : EvP te σ B H P := fun B1 H1 g Q q => h B1 H1 g Q fun v p => q v B1 H1 g.le p
theorem ev_c : EvV (tC x) σ B H x := fun B1 H1 g Q q => q _ B1 H1 g.le rfl
theorem evd_cI : EvD K (tC (.int i)) σ B H (.int i) := ev_c.dI
theorem evd_cB : EvD K (tC (.bl b)) σ B H (.bool b) := ev_c.dB
theorem evd_cS {s : Str} : EvD K (tC (.str s)) σ B H (.str s) := ev_c.dS
theorem evd_cN : EvD K (tC .non) σ B H .none := ev_c.dN
theorem ev_var {n : Nat} (h : σ[n]? = some (some x)) : EvV (tVar n) σ B H x := fun B1 H1 g Q q => ⟨x, h, q _ B1 H1 g.le rfl⟩
theorem evd_vI {n : Nat} (h : σ[n]? = some (some (.int i))) : EvD K (tVar n) σ B H (.int i) := (ev_var h).dI
theorem evd_vB {n : Nat} (h : σ[n]? = some (some (.bl b))) : EvD K (tVar n) σ B H (.bool b) := (ev_var h).dB
theorem evd_vS {n : Nat} {s : Str} (h : σ[n]? = some (some (.str s))) : EvD K (tVar n) σ B H (.str s) := (ev_var h).dS
theorem evd_vN {n : Nat} (h : σ[n]? = some (some .non)) : EvD K (tVar n) σ B H .none := (ev_var h).dN
theorem evd_v {n : Nat} (h : σ[n]? = some (some x)) (hd : Dq K B d x) : EvD K (tVar n) σ B H d := fun B1 H1 g Q q => ⟨x, h, q _ B1 H1 g.le (hd.mono g.bb)⟩
/-- two operands -/
theorem evp_op {P : Hp → V → Prop} {P1 P2 : Hp → V → Prop} (ha : EvP ta σ B H P1) (hb : EvP tb σ B H P2) (m1 : ∀ B1 B2 v, Ex B1 B2 → P1 B1 v → P1 B2 v)
    (hr : ∀ x y B1 H1, Gr B H B1 H1 → P1 B1 x → P2 B1 y → ∀ Q : VK, (∀ v B2 H2, Gr B1 H1 B2 H2 → P B2 v → Q v H2) → r x y H1 Q) : EvP (tOp r ta tb) σ B H P := fun B1 H1 g Q q =>
  ha B1 H1 g _ fun x B2 H2 g2 p1 => hb B2 H2 (g.trans g2) _ fun y B3 H3 g3 p2 => hr x y B3 H3 ((g.trans g2).trans g3) (m1 _ _ _ g3.bb p1) p2 Q fun v B4 H4 g4 p => q v B4 H4 ((g2.trans g3).trans g4) p
theorem evd_op (ha : EvD K ta σ B H d) (hb : EvD K tb σ B H e) {f : PyData}
    (hr : ∀ x y B1 H1, Gr B H B1 H1 → Dq K B1 d x → Dq K B1 e y → ∀ Q : VK, (∀ v B2 H2, Gr B1 H1 B2 H2 → Dq K B2 f v → Q v H2) → r x y H1 Q) : EvD K (tOp r ta tb) σ B H f :=
  evp_op ha hb (fun _ _ _ e p => p.mono e) hr
theorem evd_I0 {g : Int → Int → V} {m : Int} (ha : EvD K ta σ B H (.int i)) (hb : EvD K tb σ B H (.int j)) (hg : g i j = .int m) : EvD K (tOp (rI0 g) ta tb) σ B H (.int m) :=
  evd_op ha hb fun x y B1 H1 gr h1 h2 Q q => ⟨i, j, dq_int.mp h1, dq_int.mp h2, q _ B1 H1 gr.le (dq_int.mpr hg)⟩
theorem evd_B0 {g : Int → Int → V} {m : Bool} (ha : EvD K ta σ B H (.int i)) (hb : EvD K tb σ B H (.int j)) (hg : g i j = .bl m) : EvD K (tOp (rI0 g) ta tb) σ B H (.bool m) :=
  evd_op ha hb fun x y B1 H1 gr h1 h2 Q q => ⟨i, j, dq_int.mp h1, dq_int.mp h2, q _ B1 H1 gr.le (dq_bool.mpr hg)⟩
theorem evd_IC {C : Int → Int → Prop} {g : Int → Int → V} {m : Int} (ha : EvD K ta σ B H (.int i)) (hb : EvD K tb σ B H (.int j)) (hg : g i j = .int m) (hc : C i j) : EvD K (tOp (rI C g) ta tb) σ B H (.int m) :=
  evd_op ha hb fun x y B1 H1 gr h1 h2 Q q => ⟨i, j, dq_int.mp h1, dq_int.mp h2, hc, q _ B1 H1 gr.le (dq_int.mpr hg)⟩
theorem evd_neg (ha : EvD K ta σ B H (.int i)) : EvD K (tUn (rU fun i => .int (-i)) ta) σ B H (.int (-i)) := fun B1 H1 g Q q =>
  ha B1 H1 g _ fun x B2 H2 g2 p => ⟨i, dq_int.mp p, q _ B2 H2 g2 (dq_int.mpr rfl)⟩
theorem evd_eqI (ha : EvD K ta σ B H (.int i)) (hb : EvD K tb σ B H (.int j)) : EvD K (tOp rEq ta tb) σ B H (.bool (decide (i = j))) :=
  evd_op ha hb fun x y B1 H1 gr h1 h2 Q q => by
    rw [dq_int.mp h1, dq_int.mp h2]
    exact ⟨rfl, q _ B1 H1 gr.le (dq_bool.mpr (by rw [dec_int, Bool.beq_eq_decide_eq]))⟩
theorem evd_neI (ha : EvD K ta σ B H (.int i)) (hb : EvD K tb σ B H (.int j)) : EvD K (tOp rNe ta tb) σ B H (.bool (!decide (i = j))) :=
  evd_op ha hb fun x y B1 H1 gr h1 h2 Q q => by
    rw [dq_int.mp h1, dq_int.mp h2]
    exact ⟨rfl, q _ B1 H1 gr.le (dq_bool.mpr (by rw [dec_int, Bool.beq_eq_decide_eq]))⟩
theorem evd_eqB (ha : EvD K ta σ B H (.bool b)) (hb : EvD K tb σ B H (.bool c)) : EvD K (tOp rEq ta tb) σ B H (.bool (b == c)) :=
  evd_op ha hb fun x y B1 H1 gr h1 h2 Q q => by
    rw [dq_bool.mp h1, dq_bool.mp h2]
    exact ⟨rfl, q _ B1 H1 gr.le (dq_bool.mpr (by rw [dec_bl]))⟩
theorem evd_neB (ha : EvD K ta σ B H (.bool b)) (hb : EvD K tb σ B H (.bool c)) : EvD K (tOp rNe ta tb) σ B H (.bool (b != c)) :=
  evd_op ha hb fun x y B1 H1 gr h1 h2 Q q => by
    rw [dq_bool.mp h1, dq_bool.mp h2]
    exact ⟨rfl, q _ B1 H1 gr.le (dq_bool.mpr (by rw [dec_bl]; rfl))⟩
theorem evd_eqS {s s' : Str} (ha : EvD K ta σ B H (.str s)) (hb : EvD K tb σ B H (.str s')) : EvD K (tOp rEq ta tb) σ B H (.bool (s == s')) :=
  evd_op ha hb fun x y B1 H1 gr h1 h2 Q q => by
    rw [dq_str.mp h1, dq_str.mp h2]
    exact ⟨rfl, q _ B1 H1 gr.le (dq_bool.mpr (by rw [dec_str]))⟩
theorem evd_isN (ha : EvD K ta σ B H d) {b : Bool} (hb : ∀ B1 v, Dq K B1 d v → decide (v = .non) = b) : EvD K (tOp (fun x y H Q => y = .non ∧ Q (.bl (decide (x = .non))) H) ta (tC .non)) σ B H (.bool b) :=
  evd_op ha evd_cN fun x y B1 H1 gr h1 h2 Q q => ⟨dq_none.mp h2, q _ B1 H1 gr.le (dq_bool.mpr (by rw [hb _ _ h1]))⟩
theorem evd_eqD (ha : EvD K ta σ B H d) (hb : EvD K tb σ B H e) (s1 : SeqAt.shaped d = true) (s2 : SeqAt.shaped e = true) : EvD K (tOp (rEqD K) ta tb) σ B H (.bool (PyData.eqv d e)) :=
  evd_op ha hb fun x y B1 H1 gr h1 h2 Q q => ⟨d, e, h1.dp gr.bh (SeqAt.canLay_of_shaped s1), h2.dp gr.bh (SeqAt.canLay_of_shaped s2), s1, s2, q _ B1 H1 gr.le (dq_bool.mpr rfl)⟩
theorem evd_neD (ha : EvD K ta σ B H d) (hb : EvD K tb σ B H e) (s1 : SeqAt.shaped d = true) (s2 : SeqAt.shaped e = true) : EvD K (tOp (rNeD K) ta tb) σ B H (.bool (!PyData.eqv d e)) :=
  evd_op ha hb fun x y B1 H1 gr h1 h2 Q q => ⟨d, e, h1.dp gr.bh (SeqAt.canLay_of_shaped s1), h2.dp gr.bh (SeqAt.canLay_of_shaped s2), s1, s2, q _ B1 H1 gr.le (dq_bool.mpr rfl)⟩
theorem atI_all {B : Hp} {xs : List V} (h : DqAll K B ds xs) (hi : atI ds i = some d) : ∃ v, atI xs i = some v ∧ Dq K B d v := by
  unfold atI at hi ⊢
  rw [h.len]
  cases e : ixN ds.length i with
  | none =>
    rw [e] at hi
    cases hi
  | some n =>
    rw [e] at hi
    exact h.get hi
theorem evd_ixL (ha : EvD K ta σ B H (.list ds)) (hb : EvD K tb σ B H (.int i)) (hi : atI ds i = some d) : EvD K (tOp (rIxL K) ta tb) σ B H d :=
  evd_op ha hb fun x y B1 H1 gr h1 h2 Q q => by
    obtain ⟨a, xs, rfl, q1, q2⟩ := dq_list.mp h1
    obtain ⟨v, q3, q4⟩ := atI_all q2 hi
    exact ⟨a, xs, i, v, rfl, dq_int.mp h2, sq_of (gr.bh _ _ q1), q3, q v B1 H1 gr.le q4⟩
theorem evd_ixT (ha : EvD K ta σ B H (.tuple ds)) (hb : EvD K tb σ B H (.int i)) (hi : atI ds i = some d) : EvD K (tOp (rIxT K) ta tb) σ B H d :=
  evd_op ha hb fun x y B1 H1 gr h1 h2 Q q => by
    obtain ⟨a, xs, rfl, q1, q2⟩ := dq_tuple.mp h1
    obtain ⟨v, q3, q4⟩ := atI_all q2 hi
    exact ⟨a, xs, i, v, rfl, dq_int.mp h2, st_of (gr.bh _ _ q1), q3, q v B1 H1 gr.le q4⟩
theorem evd_ixS {s : Str} {n : Nat} (ha : EvD K ta σ B H (.str s)) (hb : EvD K tb σ B H (.int i)) (hl : s.length ≤ 100000) (hi : atI s.cps.toList i = some n) : EvD K (tOp rIxS ta tb) σ B H (.str ⟨#[n]⟩) :=
  evd_op ha hb fun x y B1 H1 gr h1 h2 Q q => ⟨s, i, n, dq_str.mp h1, dq_int.mp h2, sz_of hl, hi, q _ B1 H1 gr.le (dq_str.mpr rfl)⟩
/-- an item of the script -/
def scr (ns : List Int) : PyData := .dict (ns.map fun n => (.int n, .none))
theorem dq_scr {ns : List Int} : Dq K B (scr ns) v ↔ ∃ a, v = .ref a ∧ SqL K B a (ns.map V.int) := by
  unfold scr
  rw [Dq, List.map_map]
  exact Iff.rfl
theorem evd_ixSc {ns : List Int} {m : Int} (ha : EvD K ta σ B H (scr ns)) (hb : EvD K tb σ B H (.int i)) (hi : atI ns i = some m) : EvD K (tOp (rIxL K) ta tb) σ B H (.int m) :=
  evd_op ha hb fun x y B1 H1 gr h1 h2 Q q => by
    obtain ⟨a, rfl, q1⟩ := dq_scr.mp h1
    refine ⟨a, _, i, .int m, rfl, dq_int.mp h2, ex_l gr.bh q1, ?_, q _ B1 H1 gr.le (dq_int.mpr rfl)⟩
    unfold atI at hi ⊢
    rw [List.length_map]
    cases e : ixN ns.length i with
    | none =>
      rw [e] at hi
      cases hi
    | some n =>
      rw [e] at hi
      have hi : ns[n]? = some m := hi
      show (ns.map V.int)[n]? = some (V.int m)
      rw [List.getElem?_map, hi]
      rfl
/-- arguments -/
theorem ea_nil : EvA tNil σ B H fun B1 vs => DqAll K B1 [] vs := fun B1 H1 g Q q => q [] B1 H1 g.le (dqa_nil.mpr rfl)
theorem ea_cons {tr : TA} (h : EvD K ta σ B H d) (hr : EvA tr σ B H fun B1 vs => DqAll K B1 ds vs) : EvA (tCons ta tr) σ B H fun B1 vs => DqAll K B1 (d :: ds) vs := fun B1 H1 g Q q =>
  h B1 H1 g _ fun x B2 H2 g2 p => hr B2 H2 (g.trans g2) _ fun vs B3 H3 g3 p2 => q _ B3 H3 (g2.trans g3) (dqa_cons.mpr ⟨x, vs, rfl, p.mono g3.bb, p2⟩)
theorem evd_lst {tr : TA} (h : EvA tr σ B H fun B1 vs => DqAll K B1 ds vs) (hl : ds.length ≤ 100000) : EvD K (tLst tr) σ B H (.list ds) := fun B1 H1 g Q q =>
  h B1 H1 g _ fun xs B2 H2 g2 p => ⟨sz_of (by rw [p.len]; exact hl), fun l hl => q _ _ _ (g2.trans (Gr.new g2.bh hl)) (dq_list.mpr ⟨l, xs, rfl, upd_same, p.mono (Ex.new (ex_none g2.bh hl))⟩)⟩
theorem evd_tup {tr : TA} (h : EvA tr σ B H fun B1 vs => DqAll K B1 ds vs) (hl : ds.length ≤ 100000) : EvD K (tTup tr) σ B H (.tuple ds) := fun B1 H1 g Q q =>
  h B1 H1 g _ fun xs B2 H2 g2 p => ⟨sz_of (by rw [p.len]; exact hl), fun l hl => q _ _ _ (g2.trans (Gr.new g2.bh hl)) (dq_tuple.mpr ⟨l, xs, rfl, upd_same, p.mono (Ex.new (ex_none g2.bh hl))⟩)⟩
theorem evd_cb {r : List V → Hp → VK → Prop} {tr : TA} {f : PyData} (h : EvA tr σ B H fun B1 vs => DqAll K B1 ds vs) (hr : ∀ vs B1 H1, Gr B H B1 H1 → DqAll K B1 ds vs → ∀ Q : VK, (∀ v B2 H2, Gr B1 H1 B2 H2 → Dq K B2 f v → Q v H2) → r vs H1 Q) : EvD K (tCB r tr) σ B H f := fun B1 H1 g Q q =>
  h B1 H1 g _ fun vs B2 H2 g2 p => hr vs B2 H2 (g.trans g2) p Q fun v B3 H3 g3 p3 => q v B3 H3 (g2.trans g3) p3
theorem evd_list (h : EvD K ta σ B H (.list ds)) : EvD K (tCB (rListS K) (tCons ta tNil)) σ B H (.list ds) := evd_cb (ea_cons h ea_nil) fun vs B1 H1 g p Q q => by
  obtain ⟨v, vs', rfl, p1, p2⟩ := dqa_cons.mp p
  cases dqa_nil.mp p2
  obtain ⟨a, xs, rfl, q1, q2⟩ := dq_list.mp p1
  exact ⟨a, xs, rfl, .inl (sq_of (g.bh _ _ q1)), fun l hl => q _ _ _ (Gr.new g.bh hl) (dq_list.mpr ⟨l, xs, rfl, upd_same, q2.mono (Ex.new (ex_none g.bh hl))⟩)⟩
theorem evd_len (h : EvD K ta σ B H (.list ds)) : EvD K (tCB (rLenS K) (tCons ta tNil)) σ B H (.int (ds.length : Int)) := evd_cb (ea_cons h ea_nil) fun vs B1 H1 g p Q q => by
  obtain ⟨v, vs', rfl, p1, p2⟩ := dqa_cons.mp p
  cases dqa_nil.mp p2
  obtain ⟨a, xs, rfl, q1, q2⟩ := dq_list.mp p1
  exact ⟨a, xs, rfl, .inl (sq_of (g.bh _ _ q1)), q _ B1 H1 g.le (dq_int.mpr (by rw [q2.len]))⟩
theorem evd_lenT (h : EvD K ta σ B H (.tuple ds)) : EvD K (tCB (rLenS K) (tCons ta tNil)) σ B H (.int (ds.length : Int)) := evd_cb (ea_cons h ea_nil) fun vs B1 H1 g p Q q => by
  obtain ⟨v, vs', rfl, p1, p2⟩ := dqa_cons.mp p
  cases dqa_nil.mp p2
  obtain ⟨a, xs, rfl, q1, q2⟩ := dq_tuple.mp p1
  exact ⟨a, xs, rfl, .inr (st_of (g.bh _ _ q1)), q _ B1 H1 g.le (dq_int.mpr (by rw [q2.len]))⟩
theorem evd_lenSc {ns : List Int} (h : EvD K ta σ B H (scr ns)) : EvD K (tCB (rLenS K) (tCons ta tNil)) σ B H (.int (ns.length : Int)) := evd_cb (ea_cons h ea_nil) fun vs B1 H1 g p Q q => by
  obtain ⟨v, vs', rfl, p1, p2⟩ := dqa_cons.mp p
  cases dqa_nil.mp p2
  obtain ⟨a, rfl, q1⟩ := dq_scr.mp p1
  exact ⟨a, _, rfl, .inl (ex_l g.bh q1), q _ B1 H1 g.le (dq_int.mpr (by rw [List.length_map]))⟩
/-- isinstance of data -/
def dTy : PyData → String
  | .none => "NoneType"
  | .bool _ => "bool"
  | .int _ => "int"
  | .str _ => "str"
  | .list _ => "list"
  | .tuple _ => "tuple"
  | .dict _ => "?"
theorem Dq.ty {B H : Hp} (g : Ex B H) {T : String} (hT : dTy d = T) (hn : T ≠ "?") (h : Dq K B d v) : TyX K H v (.type T) := by
  subst hT
  cases d with
  | none => rw [dq_none.mp h]; exact .base .non
  | bool b => rw [dq_bool.mp h]; exact .base (.bl b)
  | int b => rw [dq_int.mp h]; exact .base (.int b)
  | str b => rw [dq_str.mp h]; exact .base (.str b)
  | list ds =>
    obtain ⟨a, xs, rfl, q1, _⟩ := dq_list.mp h
    exact .base (.lst (g _ _ q1))
  | tuple ds =>
    obtain ⟨a, xs, rfl, q1, _⟩ := dq_tuple.mp h
    exact .base (.tup (g _ _ q1))
  | dict kvs => exact absurd rfl hn
theorem evd_isi {T T2 : String} (h : EvD K ta σ B H d) (hk : kitB T T2 = some b) (hT : dTy d = T := by rfl) (hn : T ≠ "?" := by decide) : EvD K (tCB (rIsi K) (tCons ta (tCons (tC (.ty T2)) tNil))) σ B H (.bool b) := fun B1 H1 g Q q =>
  h B1 H1 g _ fun x B2 H2 g2 p => ⟨x, .ty T2, .type T, .type T2, b, rfl, .ty T2, p.ty g2.bh hT hn, kit_ty hk, q _ B2 H2 g2 (dq_bool.mpr rfl)⟩
/-- and, or, not; if -/
theorem evd_andV (h1 : EvD K ta σ B H (.bool b)) (h2 : b = true → EvD K tb σ B H (.bool c)) : EvD K (tAndV ta tb) σ B H (.bool (b && c)) := fun B1 H1 g Q q =>
  h1 B1 H1 g _ fun x B2 H2 g2 p => ⟨b, dq_bool.mp p, by
    cases b with
    | true => exact h2 rfl B2 H2 (g.trans g2) Q fun v B3 H3 g3 p3 => q v B3 H3 (g2.trans g3) p3
    | false => exact q _ B2 H2 g2 (dq_bool.mpr rfl)⟩
theorem evd_andV0 (h1 : EvD K ta σ B H (.bool false)) : EvD K (tAndV ta tb) σ B H (.bool false) := EvD.is (evd_andV (c := false) h1 fun z => nomatch z) rfl
theorem evd_andV1 (h1 : EvD K ta σ B H (.bool true)) (h2 : EvD K tb σ B H (.bool c)) : EvD K (tAndV ta tb) σ B H (.bool c) := EvD.is (evd_andV h1 fun _ => h2) rfl
theorem et_and1 (h1 : EvT K t σ B H true) (h2 : EvT K u σ B H c) : EvT K (tAnd t u) σ B H c := fun B1 H1 g Q q => h1 B1 H1 g _ fun B2 H2 g2 => h2 B2 H2 (g.trans g2) Q fun B3 H3 g3 => q B3 H3 (g2.trans g3)
theorem et_or0 (h1 : EvT K t σ B H false) (h2 : EvT K u σ B H c) : EvT K (tOr t u) σ B H c := fun B1 H1 g Q q => h1 B1 H1 g _ fun B2 H2 g2 => h2 B2 H2 (g.trans g2) Q fun B3 H3 g3 => q B3 H3 (g2.trans g3)
theorem evd_orV (h1 : EvD K ta σ B H (.bool b)) (h2 : b = false → EvD K tb σ B H (.bool c)) : EvD K (tOrV ta tb) σ B H (.bool (b || c)) := fun B1 H1 g Q q =>
  h1 B1 H1 g _ fun x B2 H2 g2 p => ⟨b, dq_bool.mp p, by
    cases b with
    | false => exact h2 rfl B2 H2 (g.trans g2) Q fun v B3 H3 g3 p3 => q v B3 H3 (g2.trans g3) p3
    | true => exact q _ B2 H2 g2 (dq_bool.mpr rfl)⟩
theorem evd_notV (h1 : EvD K ta σ B H (.bool b)) : EvD K (tNotV ta) σ B H (.bool (!b)) := fun B1 H1 g Q q =>
  h1 B1 H1 g _ fun x B2 H2 g2 p => ⟨b, dq_bool.mp p, q _ B2 H2 g2 (dq_bool.mpr rfl)⟩
theorem evd_if (h : EvT K t σ B H b) (h1 : b = true → EvD K ta σ B H d) (h2 : b = false → EvD K tb σ B H d) : EvD K (tIf t ta tb) σ B H d := fun B1 H1 g Q q =>
  h B1 H1 g _ fun B2 H2 g2 => by
    cases b with
    | true => exact h1 rfl B2 H2 (g.trans g2) Q fun v B3 H3 g3 p3 => q v B3 H3 (g2.trans g3) p3
    | false => exact h2 rfl B2 H2 (g.trans g2) Q fun v B3 H3 g3 p3 => q v B3 H3 (g2.trans g3) p3
theorem et_test (h : EvD K te σ B H (.bool b)) : EvT K (tTest te) σ B H b := fun B1 H1 g Q q => h B1 H1 g _ fun x B2 H2 g2 p => ⟨b, dq_bool.mp p, q B2 H2 g2⟩
theorem et_B (h : EvD K te σ B H (.bool b)) : EvT K (tB te) σ B H b := fun B1 H1 g Q q => h B1 H1 g _ fun x B2 H2 g2 p => ⟨b, dq_bool.mp p, q B2 H2 g2⟩
theorem et_and (h1 : EvT K t σ B H b) (h2 : b = true → EvT K u σ B H c) : EvT K (tAnd t u) σ B H (b && c) := fun B1 H1 g Q q => h1 B1 H1 g _ fun B2 H2 g2 => by
  cases b with
  | true => exact h2 rfl B2 H2 (g.trans g2) Q fun B3 H3 g3 => q B3 H3 (g2.trans g3)
  | false => exact q B2 H2 g2
theorem et_or (h1 : EvT K t σ B H b) (h2 : b = false → EvT K u σ B H c) : EvT K (tOr t u) σ B H (b || c) := fun B1 H1 g Q q => h1 B1 H1 g _ fun B2 H2 g2 => by
  cases b with
  | false => exact h2 rfl B2 H2 (g.trans g2) Q fun B3 H3 g3 => q B3 H3 (g2.trans g3)
  | true => exact q B2 H2 g2
theorem et_not (h1 : EvT K t σ B H b) : EvT K (tNot t) σ B H (!b) := fun B1 H1 g Q q => h1 B1 H1 g _ fun B2 H2 g2 => q B2 H2 g2
theorem et_truL (h : EvD K ta σ B H (.list ds)) : EvT K (fun σ H Q => ta σ H fun x H' => ∃ k, TruV K x H' k ∧ Q k H') σ B H (!ds.isEmpty) := fun B1 H1 g Q q => h B1 H1 g _ fun x B2 H2 g2 p => by
  obtain ⟨a, xs, rfl, q1, q2⟩ := dq_list.mp p
  refine ⟨!ds.isEmpty, .inl ⟨xs, sq_of (g2.bh _ _ q1), ?_⟩, q B2 H2 g2⟩
  have := q2.len
  cases xs with
  | nil => cases ds with
    | nil => rfl
    | cons d ds => simp at this
  | cons x xs => cases ds with
    | nil => simp at this
    | cons d ds => rfl
theorem eo_none : EvO K tNoPart σ B H none := fun B1 H1 g Q q => q B1 H1 g.le
theorem eo_some (h : EvD K te σ B H (.int i)) : EvO K (tPart te) σ B H (some i) := fun B1 H1 g Q q => h B1 H1 g _ fun x B2 H2 g2 p => ⟨i, dq_int.mp p, q B2 H2 g2⟩
def cutD (xs : List PyData) (lo hi : Option Int) : List PyData := (xs.drop (HT.sIx xs.length 0 lo)).take (HT.sIx xs.length xs.length hi - HT.sIx xs.length 0 lo)
theorem evd_sl {tl th : TO} {lo hi : Option Int} (h : EvD K te σ B H (.list ds)) (h1 : EvO K tl σ B H lo) (h2 : EvO K th σ B H hi) : EvD K (tSl (rSlL K) te tl th) σ B H (.list (cutD ds lo hi)) := fun B1 H1 g Q q =>
  h B1 H1 g _ fun x B2 H2 g2 p => h1 B2 H2 (g.trans g2) _ fun B3 H3 g3 => h2 B3 H3 ((g.trans g2).trans g3) _ fun B4 H4 g4 => by
    obtain ⟨a, xs, rfl, q1, q2⟩ := dq_list.mp p
    refine ⟨a, xs, rfl, sq_of (g4.bh _ _ (g4.bb _ _ (g3.bb _ _ q1))), fun l hl => q _ _ _ ((g2.trans (g3.trans g4)).trans (Gr.new g4.bh hl)) (dq_list.mpr ⟨l, _, rfl, upd_same, ?_⟩)⟩
    unfold cutV cutD
    rw [q2.len]
    exact ((q2.mono (g3.bb.trans (g4.bb.trans (Ex.new (ex_none g4.bh hl))))).drop _).take _
theorem evd_cat (ha : EvD K ta σ B H (.list ds)) (hb : EvD K tb σ B H (.list es)) (hl : ds.length + es.length ≤ 100000) : EvD K (tOp rCat ta tb) σ B H (.list (ds ++ es)) :=
  evd_op ha hb fun x y B1 H1 gr h1 h2 Q q => by
    obtain ⟨a, xs, rfl, q1, q2⟩ := dq_list.mp h1
    obtain ⟨b, ys, rfl, q3, q4⟩ := dq_list.mp h2
    exact ⟨a, b, xs, ys, rfl, rfl, gr.bh _ _ q1, gr.bh _ _ q3, sz_of (by rw [q2.len, q4.len]; exact hl), fun l hl => q _ _ _ (Gr.new gr.bh hl)
      (dq_list.mpr ⟨l, _, rfl, upd_same, (q2.append q4).mono (Ex.new (ex_none gr.bh hl))⟩)⟩
theorem evd_addS {s s' : Str} (ha : EvD K ta σ B H (.str s)) (hb : EvD K tb σ B H (.str s')) (hl : s.length + s'.length ≤ 100000) :
    EvD K (tOp (fun x y H Q => ∃ i j, x = .str i ∧ y = .str j ∧ i.length + j.length ≤ sizeLine ∧ Q (.str (i ++ j)) H) ta tb) σ B H (.str (s ++ s')) :=
  evd_op ha hb fun x y B1 H1 gr h1 h2 Q q => ⟨s, s', dq_str.mp h1, dq_str.mp h2, sz_of hl, q _ B1 H1 gr.le (dq_str.mpr rfl)⟩

/-! ### calls of defs that change nothing -/
def spD (K : PySem.W.Frag) (R : List PyData → PyData → Prop) : Sp := fun vs H Q _ => ∃ B ds d, Ex B H ∧ DqAll K B ds vs ∧ R ds d ∧ ∀ v B1 H1, Gr B H B1 H1 → Dq K B1 d v → Q v H1
theorem evd_call {R : List PyData → PyData → Prop} {tr : TA} {E : XK} (h : EvA tr σ B H fun B1 vs => DqAll K B1 ds vs) (hr : R ds d) : EvD K (tCall (spD K R) [] E tr) σ B H d := fun B1 H1 g Q q =>
  h B1 H1 g _ fun vs B2 H2 g2 p => ⟨B2, ds, d, g2.bh, by rw [List.append_nil]; exact p, hr, fun v B3 H3 g3 p3 => q v B3 H3 (g2.trans g3) p3⟩

/-! ### statements -/
variable {D : Ends} {tu tw tz : TS} {n : Nat}
theorem s_asgD (g0 : Ex B H) (h : EvD K te σ B H d) (k : ∀ v B1 H1, Gr B H B1 H1 → Dq K B1 d v → D.nx (σ.set n (some v)) H1) : tAsg te (gName n) D σ H := h B H (Gr.refl g0) _ k
theorem s_asgI (g0 : Ex B H) (h : EvD K te σ B H (.int i)) (k : ∀ B1 H1, Gr B H B1 H1 → D.nx (σ.set n (some (.int i))) H1) : tAsg te (gName n) D σ H := s_asgD g0 h fun v B1 H1 g p => by rw [dq_int.mp p]; exact k B1 H1 g
theorem s_asgB (g0 : Ex B H) (h : EvD K te σ B H (.bool b)) (k : ∀ B1 H1, Gr B H B1 H1 → D.nx (σ.set n (some (.bl b))) H1) : tAsg te (gName n) D σ H := s_asgD g0 h fun v B1 H1 g p => by rw [dq_bool.mp p]; exact k B1 H1 g
theorem s_asgS {s : Str} (g0 : Ex B H) (h : EvD K te σ B H (.str s)) (k : ∀ B1 H1, Gr B H B1 H1 → D.nx (σ.set n (some (.str s))) H1) : tAsg te (gName n) D σ H := s_asgD g0 h fun v B1 H1 g p => by rw [dq_str.mp p]; exact k B1 H1 g
theorem q_asgD (g0 : Ex B H) (h : EvD K te σ B H d) (k : ∀ v B1 H1, Gr B H B1 H1 → Dq K B1 d v → tz D (σ.set n (some v)) H1) : tSeq (tAsg te (gName n)) tz D σ H := s_asgD (D := { D with nx := tz D }) g0 h k
theorem q_asgI (g0 : Ex B H) (h : EvD K te σ B H (.int i)) (k : ∀ B1 H1, Gr B H B1 H1 → tz D (σ.set n (some (.int i))) H1) : tSeq (tAsg te (gName n)) tz D σ H := s_asgI (D := { D with nx := tz D }) g0 h k
theorem q_asgB (g0 : Ex B H) (h : EvD K te σ B H (.bool b)) (k : ∀ B1 H1, Gr B H B1 H1 → tz D (σ.set n (some (.bl b))) H1) : tSeq (tAsg te (gName n)) tz D σ H := s_asgB (D := { D with nx := tz D }) g0 h k
theorem q_asgS {s : Str} (g0 : Ex B H) (h : EvD K te σ B H (.str s)) (k : ∀ B1 H1, Gr B H B1 H1 → tz D (σ.set n (some (.str s))) H1) : tSeq (tAsg te (gName n)) tz D σ H := s_asgS (D := { D with nx := tz D }) g0 h k
theorem s_ret (g0 : Ex B H) (h : EvD K te σ B H d) (k : ∀ v B1 H1, Gr B H B1 H1 → Dq K B1 d v → D.rt v H1) : tRet te D σ H := h B H (Gr.refl g0) _ k
theorem s_if (g0 : Ex B H) (h : EvT K t σ B H b) (h1 : b = true → ∀ B1 H1, Gr B H B1 H1 → tu D σ H1) (h2 : b = false → ∀ B1 H1, Gr B H B1 H1 → tw D σ H1) : tIfS t tu tw D σ H := h B H (Gr.refl g0) _ fun B1 H1 g => by
  cases b with
  | true => exact h1 rfl B1 H1 g
  | false => exact h2 rfl B1 H1 g
theorem q_if (g0 : Ex B H) (h : EvT K t σ B H b) (h1 : b = true → ∀ B1 H1, Gr B H B1 H1 → tu { D with nx := tz D } σ H1) (h2 : b = false → ∀ B1 H1, Gr B H B1 H1 → tw { D with nx := tz D } σ H1) : tSeq (tIfS t tu tw) tz D σ H := s_if (D := { D with nx := tz D }) g0 h h1 h2
/-- an if without else -/
theorem q_when (g0 : Ex B H) (h : EvT K t σ B H b) (h1 : b = true → ∀ B1 H1, Gr B H B1 H1 → tu { D with nx := tz D } σ H1) (h2 : b = false → ∀ B1 H1, Gr B H B1 H1 → tz D σ H1) : tSeq (tIfS t tu tNext) tz D σ H := s_if (D := { D with nx := tz D }) g0 h h1 h2
theorem s_when (g0 : Ex B H) (h : EvT K t σ B H b) (h1 : b = true → ∀ B1 H1, Gr B H B1 H1 → tu D σ H1) (h2 : b = false → ∀ B1 H1, Gr B H B1 H1 → D.nx σ H1) : tIfS t tu tNext D σ H := s_if g0 h h1 h2
/-- if c: x = e, an int; told by the value that x has behind it -/
theorem q_ifI (g0 : Ex B H) (h : EvT K t σ B H b) (h1 : b = true → EvD K te σ B H (.int i)) (h2 : b = false → σ.set n (some (.int i)) = σ) (k : ∀ B1 H1, Gr B H B1 H1 → tz D (σ.set n (some (.int i))) H1) : tSeq (tIfS t (tAsg te (gName n)) tNext) tz D σ H :=
  q_when g0 h (fun hb B1 H1 g => s_asgI (D := { D with nx := tz D }) g.bh ((h1 hb).mono g) fun B2 H2 g2 => k B2 H2 (g.trans g2)) (fun hb B1 H1 g => by
    have q := k B1 H1 g
    rw [h2 hb] at q
    exact q)
theorem q_drop {P : Hp → V → Prop} (g0 : Ex B H) (h : EvP te σ B H P) (k : ∀ B1 H1, Gr B H B1 H1 → tz D σ H1) : tSeq (tDrop te) tz D σ H := h B H (Gr.refl g0) _ fun _ B1 H1 g _ => k B1 H1 g
theorem s_drop {P : Hp → V → Prop} (g0 : Ex B H) (h : EvP te σ B H P) (k : ∀ B1 H1, Gr B H B1 H1 → D.nx σ H1) : tDrop te D σ H := h B H (Gr.refl g0) _ fun _ B1 H1 g _ => k B1 H1 g
/-- what follows is shown once, from Mid -/
theorem q_mid (Mid : L2.St → Hp → Hp → Prop) (h1 : (∀ σ1 B1 H1, Mid σ1 B1 H1 → tz D σ1 H1) → tSeq tu tz D σ H) (h2 : ∀ σ1 B1 H1, Mid σ1 B1 H1 → tz D σ1 H1) : tSeq tu tz D σ H := h1 h2
theorem evd_chain {tc : TE} {g g' : Int → Int → V} (ha : EvD K ta σ B H (.int i)) (hb : EvD K tb σ B H (.int j)) (hg : g i j = .bl b) (hc : b = true → EvD K tc σ B H (.int k)) (hg' : g' j k = .bl c) :
    EvD K (tChain (rI0 g) (rI0 g') ta tb tc) σ B H (.bool (b && c)) := fun B1 H1 gr Q q =>
  ha B1 H1 gr _ fun x B2 H2 g2 p => hb B2 H2 (gr.trans g2) _ fun y B3 H3 g3 p3 => ⟨i, j, dq_int.mp p, dq_int.mp p3, b, hg, by
    cases b with
    | true => exact hc rfl B3 H3 ((gr.trans g2).trans g3) _ fun z B4 H4 g4 p4 => ⟨j, k, dq_int.mp p3, dq_int.mp p4, q _ B4 H4 ((g2.trans g3).trans g4) (dq_bool.mpr hg')⟩
    | false => exact q _ B3 H3 (g2.trans g3) (dq_bool.mpr rfl)⟩
/-- loops over data; the word speaks of turn, slots, base, heap, and is chosen when the list is there -/
theorem s_forD {tl : TE} {g : TG} (g0 : Ex B H) (h : EvD K tl σ B H (.list ds))
    (k : ∀ B1 H1, Gr B H B1 H1 → ∃ Pv : Nat → L2.St → Hp → Hp → Prop, Pv 0 σ B1 H1 ∧ (∀ i σ' B2 H2, Pv i σ' B2 H2 → Ex B1 B2 ∧ Ex B2 H2) ∧
      (∀ i d v σ' B2 H2, ds[i]? = some d → Dq K B2 d v → Pv i σ' B2 H2 → g v σ' H2 fun σ2 H3 => tu { D with nx := fun σ3 H4 => ∃ B4, Pv (i + 1) σ3 B4 H4, ct := fun σ3 H4 => ∃ B4, Pv (i + 1) σ3 B4 H4, bk := D.nx } σ2 H3) ∧
      (∀ σ' B2 H2, Pv ds.length σ' B2 H2 → D.nx σ' H2)) : tFor (iList K tl) g tu D σ H :=
  h B H (Gr.refl g0) _ fun v B1 H1 g1 p => by
    obtain ⟨a, xs, rfl, q1, q2⟩ := dq_list.mp p
    obtain ⟨Pv, p0, pe, ps, pd⟩ := k B1 H1 g1
    refine ⟨a, rfl, ⟨xs, sq_of (g1.bh _ _ q1)⟩, for_list (fun i σ' H' => ∃ B', Pv i σ' B' H') ⟨B1, p0⟩ (fun i σ' H' hi ⟨B', w⟩ => sq_of ((pe _ _ _ _ w).2 _ _ ((pe _ _ _ _ w).1 _ _ q1))) ?_ ?_⟩
    · rintro i x σ' H' hx ⟨B', w⟩
      obtain ⟨d, e1, e2⟩ := q2.get' hx
      exact ps i d x σ' B' H' e1 (e2.mono (pe _ _ _ _ w).1) w
    · rintro σ' H' ⟨B', w⟩
      rw [q2.len] at w
      exact pd σ' B' H' w
theorem q_forD {tl : TE} {g : TG} (g0 : Ex B H) (h : EvD K tl σ B H (.list ds))
    (k : ∀ B1 H1, Gr B H B1 H1 → ∃ Pv : Nat → L2.St → Hp → Hp → Prop, Pv 0 σ B1 H1 ∧ (∀ i σ' B2 H2, Pv i σ' B2 H2 → Ex B1 B2 ∧ Ex B2 H2) ∧
      (∀ i d v σ' B2 H2, ds[i]? = some d → Dq K B2 d v → Pv i σ' B2 H2 → g v σ' H2 fun σ2 H3 => tu { D with nx := fun σ3 H4 => ∃ B4, Pv (i + 1) σ3 B4 H4, ct := fun σ3 H4 => ∃ B4, Pv (i + 1) σ3 B4 H4, bk := tz D } σ2 H3) ∧
      (∀ σ' B2 H2, Pv ds.length σ' B2 H2 → tz D σ' H2)) : tSeq (tFor (iList K tl) g tu) tz D σ H := s_forD (D := { D with nx := tz D }) g0 h k
theorem s_forR {ta : TA} {m : Int} (g0 : Ex B H) (h : EvA ta σ B H fun B1 vs => DqAll K B1 [.int m] vs) (hm : m ≤ 100000)
    (k : ∀ B1 H1, Gr B H B1 H1 → ∃ Pv : Nat → L2.St → Hp → Hp → Prop, Pv 0 σ B1 H1 ∧
      (∀ (i : Nat) σ' B2 H2, (i : Int) < m → Pv i σ' B2 H2 → tu { D with nx := fun σ3 H4 => ∃ B4, Pv (i + 1) σ3 B4 H4, ct := fun σ3 H4 => ∃ B4, Pv (i + 1) σ3 B4 H4, bk := D.nx } (σ'.set n (some (.int (i : Int)))) H2) ∧
      (∀ σ' B2 H2, Pv m.toNat σ' B2 H2 → D.nx σ' H2)) (hm0 : -100000 ≤ m := by omega) : tFor (iRng1 ta) (gName n) tu D σ H :=
  h B H (Gr.refl g0) _ fun vs B1 H1 g1 p => by
    obtain ⟨v, vs', rfl, e1, e2⟩ := dqa_cons.mp p
    cases dqa_nil.mp e2
    cases dq_int.mp e1
    obtain ⟨Pv, p0, ps, pd⟩ := k B1 H1 g1
    refine ⟨m, rfl, by omega, by omega, for_range (lo := 0) (n := m.toNat) (fun i σ' H' => ∃ B', Pv i σ' B' H') ⟨B1, p0⟩ (fun i σ' H' hi ⟨B', w⟩ => ?_) (fun σ' H' ⟨B', w⟩ => pd σ' B' H' w)⟩
    have e0 : (0 : Int) + (i : Int) = (i : Int) := Int.zero_add _
    show tu _ (σ'.set n (some (.int ((0 : Int) + (i : Int))))) H'
    rw [e0]
    exact ps i σ' B' H' (by omega) w
theorem q_forR {ta : TA} {m : Int} (g0 : Ex B H) (h : EvA ta σ B H fun B1 vs => DqAll K B1 [.int m] vs) (hm : m ≤ 100000)
    (k : ∀ B1 H1, Gr B H B1 H1 → ∃ Pv : Nat → L2.St → Hp → Hp → Prop, Pv 0 σ B1 H1 ∧
      (∀ (i : Nat) σ' B2 H2, (i : Int) < m → Pv i σ' B2 H2 → tu { D with nx := fun σ3 H4 => ∃ B4, Pv (i + 1) σ3 B4 H4, ct := fun σ3 H4 => ∃ B4, Pv (i + 1) σ3 B4 H4, bk := tz D } (σ'.set n (some (.int (i : Int)))) H2) ∧
      (∀ σ' B2 H2, Pv m.toNat σ' B2 H2 → tz D σ' H2)) (hm0 : -100000 ≤ m := by omega) : tSeq (tFor (iRng1 ta) (gName n) tu) tz D σ H := s_forR (D := { D with nx := tz D }) g0 h hm k hm0
theorem s_forR2 {ta : TA} {lo m : Int} (g0 : Ex B H) (h : EvA ta σ B H fun B1 vs => DqAll K B1 [.int lo, .int m] vs) (hm : -100000 ≤ lo ∧ lo ≤ 100000 ∧ -100000 ≤ m ∧ m ≤ 100000)
    (k : ∀ B1 H1, Gr B H B1 H1 → ∃ Pv : Nat → L2.St → Hp → Hp → Prop, Pv 0 σ B1 H1 ∧
      (∀ (i : Nat) σ' B2 H2, lo + (i : Int) < m → Pv i σ' B2 H2 → tu { D with nx := fun σ3 H4 => ∃ B4, Pv (i + 1) σ3 B4 H4, ct := fun σ3 H4 => ∃ B4, Pv (i + 1) σ3 B4 H4, bk := D.nx } (σ'.set n (some (.int (lo + (i : Int))))) H2) ∧
      (∀ σ' B2 H2, Pv (m - lo).toNat σ' B2 H2 → D.nx σ' H2)) : tFor (iRng2 ta) (gName n) tu D σ H :=
  h B H (Gr.refl g0) _ fun vs B1 H1 g1 p => by
    obtain ⟨v, vs', rfl, e1, e2⟩ := dqa_cons.mp p
    obtain ⟨v2, vs2, rfl, e3, e4⟩ := dqa_cons.mp e2
    cases dqa_nil.mp e4
    cases dq_int.mp e1
    cases dq_int.mp e3
    obtain ⟨Pv, p0, ps, pd⟩ := k B1 H1 g1
    exact ⟨lo, m, rfl, ⟨by omega, by omega, by omega, by omega⟩, for_range (lo := lo) (n := (m - lo).toNat) (fun i σ' H' => ∃ B', Pv i σ' B' H') ⟨B1, p0⟩ (fun i σ' H' hi ⟨B', w⟩ => ps i σ' B' H' (by omega) w) (fun σ' H' ⟨B', w⟩ => pd σ' B' H' w)⟩
theorem q_forR2 {ta : TA} {lo m : Int} (g0 : Ex B H) (h : EvA ta σ B H fun B1 vs => DqAll K B1 [.int lo, .int m] vs) (hm : -100000 ≤ lo ∧ lo ≤ 100000 ∧ -100000 ≤ m ∧ m ≤ 100000)
    (k : ∀ B1 H1, Gr B H B1 H1 → ∃ Pv : Nat → L2.St → Hp → Hp → Prop, Pv 0 σ B1 H1 ∧
      (∀ (i : Nat) σ' B2 H2, lo + (i : Int) < m → Pv i σ' B2 H2 → tu { D with nx := fun σ3 H4 => ∃ B4, Pv (i + 1) σ3 B4 H4, ct := fun σ3 H4 => ∃ B4, Pv (i + 1) σ3 B4 H4, bk := tz D } (σ'.set n (some (.int (lo + (i : Int))))) H2) ∧
      (∀ σ' B2 H2, Pv (m - lo).toNat σ' B2 H2 → tz D σ' H2)) : tSeq (tFor (iRng2 ta) (gName n) tu) tz D σ H := s_forR2 (D := { D with nx := tz D }) g0 h hm k
/-- while, by a number that falls -/
theorem s_while (Wv : Nat → L2.St → Hp → Hp → Prop) (m0 : Nat) (h0 : Wv m0 σ B H)
    (hs : ∀ m σ' B1 H1, Wv m σ' B1 H1 → ∃ b, Ex B1 H1 ∧ EvT K t σ' B1 H1 b ∧ (b = true → ∀ B2 H2, Gr B1 H1 B2 H2 → tu { D with nx := fun σ3 H3 => ∃ m' B3, m' < m ∧ Wv m' σ3 B3 H3, ct := fun σ3 H3 => ∃ m' B3, m' < m ∧ Wv m' σ3 B3 H3, bk := D.nx } σ' H2) ∧ (b = false → ∀ B2 H2, Gr B1 H1 B2 H2 → D.nx σ' H2)) : tWhile t tu D σ H :=
  ⟨fun m σ' H' => ∃ B', Wv m σ' B' H', ⟨m0, B, h0⟩, fun m σ' H' ⟨B', w⟩ => by
    obtain ⟨b, e, ht, h1, h2⟩ := hs m σ' B' H' w
    refine ht B' H' (Gr.refl e) _ fun B2 H2 g => ?_
    cases b with
    | true => exact ⟨_, fun σ3 H3 ⟨m', B3, hl, w3⟩ => ⟨m', hl, B3, w3⟩, h1 rfl B2 H2 g⟩
    | false => exact h2 rfl B2 H2 g⟩
theorem q_while (Wv : Nat → L2.St → Hp → Hp → Prop) (m0 : Nat) (h0 : Wv m0 σ B H)
    (hs : ∀ m σ' B1 H1, Wv m σ' B1 H1 → ∃ b, Ex B1 H1 ∧ EvT K t σ' B1 H1 b ∧ (b = true → ∀ B2 H2, Gr B1 H1 B2 H2 → tu { D with nx := fun σ3 H3 => ∃ m' B3, m' < m ∧ Wv m' σ3 B3 H3, ct := fun σ3 H3 => ∃ m' B3, m' < m ∧ Wv m' σ3 B3 H3, bk := tz D } σ' H2) ∧ (b = false → ∀ B2 H2, Gr B1 H1 B2 H2 → tz D σ' H2)) : tSeq (tWhile t tu) tz D σ H := s_while (D := { D with nx := tz D }) Wv m0 h0 hs
/-- x = []: a list that may change -/
theorem q_newL (g0 : Ex B H) (k : ∀ l, H l = none → B l = none → Ex B (upd H l (.lst [])) → tz D (σ.set n (some (.ref l))) (upd H l (.lst []))) : tSeq (tAsg (tLst tNil) (gName n)) tz D σ H :=
  ⟨Nat.zero_le _, fun l hl => k l hl (ex_none g0 hl) (g0.trans (Ex.new hl))⟩
/-- l.append(e) -/
theorem s_app {l : Addr} {xs : List V} (g0 : Ex B H) (hb : B l = none) (hl : H l = some (.lst xs)) (ha : σ[n]? = some (some (.ref l))) (h : EvD K te σ B H d) (hz : xs.length < 100000)
    (k : ∀ v B1 H1, Gr B H B1 H1 → Dq K B1 d v → B1 l = none → Ex B1 (upd H1 l (.lst (xs ++ [v]))) → D.nx σ (upd H1 l (.lst (xs ++ [v])))) : tDrop (tBM K "list" rAppend (tVar n) (tCons te tNil)) D σ H :=
  ⟨_, ha, .inl ⟨rfl, xs, sq_of hl⟩, h B H (Gr.refl g0) _ fun v B1 H1 g p => ⟨l, xs, v, rfl, rfl, g.hh _ _ hl, sz_lt hz, k v B1 H1 g p (g.out hb hl) (Ex.mut g.bh (g.out hb hl))⟩⟩
theorem q_app {l : Addr} {xs : List V} (g0 : Ex B H) (hb : B l = none) (hl : H l = some (.lst xs)) (ha : σ[n]? = some (some (.ref l))) (h : EvD K te σ B H d) (hz : xs.length < 100000)
    (k : ∀ v B1 H1, Gr B H B1 H1 → Dq K B1 d v → B1 l = none → Ex B1 (upd H1 l (.lst (xs ++ [v]))) → tz D σ (upd H1 l (.lst (xs ++ [v])))) : tSeq (tDrop (tBM K "list" rAppend (tVar n) (tCons te tNil))) tz D σ H := s_app (D := { D with nx := tz D }) g0 hb hl ha h hz k
/-- comprehensions over a range, no if: the turn's item f k -/
theorem evd_lcR {ta : TA} {m : Int} {j : Nat} {vs : List Nat} (f : Nat → PyData) (h : EvA ta σ B H fun B1 vs => DqAll K B1 [.int m] vs) (hm : m ≤ 40000) (hw : ∀ x, wipe ((wipe σ vs).set j (some x)) vs = wipe σ vs)
    (he : ∀ (i : Nat) B1 H1, Gr B H B1 H1 → (i : Int) < m → EvD K te ((wipe σ vs).set j (some (.int (i : Int)))) B1 H1 (f i)) (hm0 : -40000 ≤ m := by omega) :
    EvD K (tLc (iRng1 ta) (gName j) tYes te vs) σ B H (.list ((List.range m.toNat).map f)) := fun B0 H0 g Q q =>
  h B0 H0 g _ fun vs' B1 H1 g1 p => by
    obtain ⟨v, vs2, rfl, e1, e2⟩ := dqa_cons.mp p
    cases dqa_nil.mp e2
    cases dq_int.mp e1
    refine ⟨m, rfl, by omega, by omega, fun Dl hD => ?_⟩
    refine lc_range (lo := 0) (n := m.toNat) (fun i H' => ∃ B' acc, Gr B1 H1 B' H' ∧ B' Dl = none ∧ H' Dl = some (.lst acc) ∧ DqAll K B' ((List.range i).map f) acc) ⟨B1, [], Gr.newM g1.bh hD, ex_none g1.bh hD, upd_same, dqa_nil.mpr rfl⟩ ?_ ?_
    · rintro i H' hi ⟨B', acc, gg, b1, b2, b3⟩
      refine ⟨hw _, ?_⟩
      have e0 : (0 : Int) + (i : Int) = (i : Int) := Int.zero_add _
      unfold tYes
      dsimp only
      rw [if_pos rfl, e0]
      refine he i B' H' ((g.trans g1).trans gg) (by omega) B' H' gg.le _ fun v B2 H2 g2 pv => ⟨acc, g2.hh _ _ b2, ?_, B2, _, (gg.trans g2).mut hD (g2.out b1 b2), g2.out b1 b2, upd_same, ?_⟩
      · have := b3.len
        rw [List.length_map, List.length_range] at this
        exact sz_lt (by omega)
      · rw [List.range_succ, List.map_append]
        exact (b3.mono g2.bb).append (DqAll.one pv)
    · rintro H' ⟨B', acc, gg, b1, b2, b3⟩
      exact q _ _ H' (g1.trans (gg.froz hD b1 b2)) (dq_list.mpr ⟨Dl, acc, rfl, upd_same, b3.mono (Ex.new b1)⟩)
end

/-! ### defs of the text -/
structure DefAt (K : PySem.W.Frag) (mg : Str → Option Value) (x : Str) (st : Stmt) (ps : List Str) (f : Addr) (fd : FuncData) : Prop where
  F : Fun K x x st f fd
  b : Binds K fd ps []
  g : mg x = some (.ref f)
structure Callee (P : Program) (w : World) (K : PySem.W.Frag) (mg : Str → Option Value) (base : Heap) (k : Nat) (x : Str) (ps : List Str) (sp : Sp) (f : Addr) (fd : FuncData) : Prop where
  G : FnOk P w K mg base CX0 k f fd ps sp
  kp : PySem.W.keepIn K (.ref f) = true
  b : Binds K fd ps []
  g : mg x = some (.ref f)
section
variable {P : Program} {w : World} {mg : Str → Option Value} {base : Heap} {x : Str} {st : Stmt} {ps N : List Str} {f : Addr} {fd : FuncData} {k : Nat}
theorem DefAt.ok {sp : Sp} (D : DefAt K mg x st ps f fd) (G : FnOk P w K mg base CX0 k f fd ps sp) : Callee P w K mg base k x ps sp f fd := ⟨G, D.F.kp, D.b, D.g⟩
theorem DefAt.run {R : List PyData → PyData → Prop} (D : DefAt K mg x st ps f fd) (S : FnScope N ps (defScope st)) (len : ∀ ds d, R ds d → ds.length = ps.length)
    (body : ∀ (cdv : Value) (A : Around) (outer : List Env) (s : Shared) (B H : Hp) (vs : List V) (ds : List PyData) (d : PyData) (Q : VK) (E : XK), Room k (A.deeper (PyProof.Rows.envOfC x (defScope st) s.heap.objs.size f cdv)) → R ds d → Ex B H → DqAll K B ds vs → (∀ v B1 H1, Gr B H B1 H1 → Dq K B1 d v → Q v H1) →
      ∃ t, PSs (cxOf CX0 P w K mg base N x (defScope st) f cdv A outer s H E).nox (defBody st) t ∧ t { nx := fun _ H' => Q .non H', rt := Q } (start N vs) H) : Callee P w K mg base (k + 1) x ps (spD K R) f fd := by
  refine D.ok (D.F.ok S (fun vs H Q E h => ?_) (fun cdv A outer s H vs Q E hr h => ?_))
  · obtain ⟨B, ds, d, _, hv, hR, _⟩ := h
    rw [hv.len, len ds d hR]
  · obtain ⟨B, ds, d, eb, hv, hR, q⟩ := h
    exact body cdv A outer s B H vs ds d Q E hr hR eb hv q
end
/-- a chain that is not looked at -/
def GrE (B H B1 H1 : Hp) : Prop := Gr B H B1 H1

/-! ### rows as data -/
abbrev Ent := Int × Str
def entD (e : Ent) : PyData := .tuple [.int e.1, .str e.2]
def rowD (es : List Ent) : PyData := .list (es.map entD)
/-- the words are texts -/
def okRow (es : List Ent) : Prop := ∀ e ∈ es, PyData.strOk e.2 = true
theorem eqv_ent (e f : Ent) : PyData.eqv (entD e) (entD f) = decide (e = f) := by
  obtain ⟨a, x⟩ := e
  obtain ⟨b, y⟩ := f
  unfold entD
  simp only [PyData.eqv, PyData.eqvAll, Bool.and_true, Prod.mk.injEq, Bool.decide_and, Bool.beq_eq_decide_eq]
theorem eqvAll_row : ∀ es fs : List Ent, PyData.eqvAll (es.map entD) (fs.map entD) = decide (es = fs)
  | [], [] => by simp [PyData.eqvAll]
  | [], f :: fs => by simp [PyData.eqvAll]
  | e :: es, [] => by simp [PyData.eqvAll]
  | e :: es, f :: fs => by
    show PyData.eqvAll (entD e :: es.map entD) (entD f :: fs.map entD) = _
    rw [PyData.eqvAll, eqv_ent, eqvAll_row es fs]
    simp [List.cons.injEq, Bool.decide_and]
theorem eqv_row (es fs : List Ent) : PyData.eqv (rowD es) (rowD fs) = decide (es = fs) := by
  unfold rowD
  rw [PyData.eqv]
  exact eqvAll_row es fs
theorem canLay_ent {e : Ent} (h : PyData.strOk e.2 = true) : (entD e).canLay0 = true := by
  unfold entD
  simp [PyData.canLay0, PyData.canLayAll0, h]
theorem canLay_ents : ∀ {es : List Ent}, okRow es → PyData.canLayAll0 (es.map entD) = true
  | [], _ => by simp [PyData.canLayAll0]
  | e :: es, h => by
    show PyData.canLayAll0 (entD e :: es.map entD) = true
    rw [PyData.canLayAll0, canLay_ent (h e List.mem_cons_self), canLay_ents fun x hx => h x (List.mem_cons_of_mem _ hx)]
    rfl
theorem depth_ents : ∀ es : List Ent, PyData.depthAll (es.map entD) ≤ 1
  | [] => by simp [PyData.depthAll]
  | e :: es => by
    show PyData.depthAll (entD e :: es.map entD) ≤ 1
    rw [PyData.depthAll]
    have h := depth_ents es
    have h2 : (entD e).depth = 1 := by unfold entD; simp [PyData.depth, PyData.depthAll]
    omega
theorem shaped_row {es : List Ent} (h : okRow es) : SeqAt.shaped (rowD es) = true := by
  unfold SeqAt.shaped rowD
  rw [PyData.canLay0, PyData.depth, canLay_ents h]
  have := depth_ents es
  rw [decide_eq_true (by omega)]
  rfl
theorem okRow.append {es fs : List Ent} (h : okRow es) (k : okRow fs) : okRow (es ++ fs) := fun e he => (List.mem_append.mp he).elim (h e) (k e)
theorem okRow.take {es : List Ent} (h : okRow es) (n : Nat) : okRow (es.take n) := fun e he => h e (List.mem_of_mem_take he)
theorem okRow.drop {es : List Ent} (h : okRow es) (n : Nat) : okRow (es.drop n) := fun e he => h e (List.mem_of_mem_drop he)
theorem rowD_get {es : List Ent} {i : Nat} {e : Ent} (h : es[i]? = some e) : (es.map entD)[i]? = some (entD e) := by rw [List.getElem?_map, h]; rfl
theorem atI_map {α β : Type} (f : α → β) (xs : List α) (i : Int) : atI (xs.map f) i = (atI xs i).map f := by
  unfold atI
  rw [List.length_map]
  cases ixN xs.length i with
  | none => rfl
  | some j =>
    show (xs.map f)[j]? = (xs[j]?).map f
    rw [List.getElem?_map]
theorem atI_in {α : Type} {xs : List α} {i : Int} (h0 : 0 ≤ i) (h : i < (xs.length : Int)) (d : α) : atI xs i = some (xs.getD i.toNat d) := by
  have hl : i.toNat < xs.length := by omega
  have e : i = ((i.toNat : Nat) : Int) := by omega
  have q : atI xs ((i.toNat : Nat) : Int) = some (xs.getD i.toNat d) := atI_nat (by rw [List.getElem?_eq_getElem hl, List.getD_eq_getElem?_getD, List.getElem?_eq_getElem hl]; rfl)
  rw [← e] at q
  exact q

/-! ### texts joined -/
theorem join_cps : ∀ ys : List Str, (PySem.Str.join PySem.Str.empty ys).cps.toList = (ys.map fun y => y.cps.toList).flatten
  | [] => rfl
  | [x] => by simp [PySem.Str.join]
  | x :: y :: r => by
    have ih := join_cps (y :: r)
    show (x ++ PySem.Str.empty ++ PySem.Str.join PySem.Str.empty (y :: r)).cps.toList = _
    have e : (x ++ PySem.Str.empty ++ PySem.Str.join PySem.Str.empty (y :: r)).cps = x.cps ++ PySem.Str.empty.cps ++ (PySem.Str.join PySem.Str.empty (y :: r)).cps := rfl
    rw [e, Array.toList_append, Array.toList_append, ih]
    simp [PySem.Str.empty]
theorem strOk_iff {x : Str} : PyData.strOk x = true ↔ ∀ c ∈ x.cps.toList, c < 0x110000 := by
  unfold PyData.strOk
  rw [← Array.all_toList, List.all_eq_true]
  simp
theorem strOk_join {ys : List Str} (h : ∀ y ∈ ys, PyData.strOk y = true) : PyData.strOk (PySem.Str.join PySem.Str.empty ys) = true := by
  rw [strOk_iff, join_cps]
  intro c hc
  obtain ⟨l, hl, hcl⟩ := List.mem_flatten.mp hc
  obtain ⟨y, hy, rfl⟩ := List.mem_map.mp hl
  exact strOk_iff.mp (h y hy) c hcl
theorem strs_dq {B : Hp} : ∀ {ys : List Str} {xs : List V}, DqAll K B (ys.map PyData.str) xs → xs = ys.map V.str
  | [], _, h => dqa_nil.mp h
  | y :: ys, _, h => by
    obtain ⟨v, vs, rfl, h1, h2⟩ := dqa_cons.mp h
    rw [dq_str.mp h1, strs_dq h2]
    rfl
theorem evd_join {σ : L2.St} {B H : Hp} {te : TE} {ys : List Str} (h : EvD K te σ B H (.list (ys.map PyData.str))) (hz : (ys.map (·.length)).sum ≤ 16777216) :
    EvD K (tM1 (fun x xs H Q => ∃ a p, ∃ ys : List Str, x = .str a ∧ xs = [.ref p] ∧ (SqL K H p (ys.map V.str) ∨ SqT K H p (ys.map V.str)) ∧
      (ys.map (·.length)).sum + ys.length * a.length ≤ 16777216 ∧ Q (.str (Txt.join a ys)) H) (tC (.str (PySem.Str.ofString ""))) te) σ B H (.str (PySem.Str.join PySem.Str.empty ys)) := fun B1 H1 g Q q =>
  ⟨⟨_, rfl⟩, h B1 H1 g _ fun v B2 H2 g2 p => by
    obtain ⟨a, xs, rfl, q1, q2⟩ := dq_list.mp p
    rw [strs_dq q2] at q1
    exact ⟨PySem.Str.ofString "", a, ys, rfl, rfl, .inl (sq_of (g2.bh _ _ q1)), by rw [show (PySem.Str.ofString "").length = 0 from rfl]; omega, q _ B2 H2 g2 (dq_str.mpr (by rw [TL.join_eq]; rfl))⟩⟩
end G

set_option Elab.async false
set_option linter.all false
set_option maxRecDepth 100000
set_option maxHeartbeats 1000000
namespace A02
open PySem L2 G
def topS (i : Nat) : Stmt := PySem.Challenge.pw_logreplica_k02_agrees.main.body.getD i (.Pass ⟨0, 0, 0, 0⟩)
abbrev s_agrees : Stmt := topS 1
theorem sc_agrees : FnScope ["row", "at", "term"] ["row", "at", "term"] (defScope s_agrees) := ⟨rfl, rfl, rfl, by decide +kernel, rfl, by decide +kernel, by decide +kernel⟩
abbrev s_law_cell_at : Stmt := topS 3
theorem sc_law_cell_at : FnScope ["_law_script", "_law_k"] ["_law_script", "_law_k"] (defScope s_law_cell_at) := ⟨rfl, rfl, rfl, by decide +kernel, rfl, by decide +kernel, by decide +kernel⟩
abbrev s_law_mixed : Stmt := topS 4
theorem sc_law_mixed : FnScope ["_law_script", "_law_k", "_law_number"] ["_law_script", "_law_k"] (defScope s_law_mixed) := ⟨rfl, rfl, rfl, by decide +kernel, rfl, by decide +kernel, by decide +kernel⟩
abbrev s_law_sign_by : Stmt := topS 5
theorem sc_law_sign_by : FnScope ["_law_number", "_law_some"] ["_law_number"] (defScope s_law_sign_by) := ⟨rfl, rfl, rfl, by decide +kernel, rfl, by decide +kernel, by decide +kernel⟩
abbrev s_law_word_by : Stmt := topS 6
theorem sc_law_word_by : FnScope ["_law_number", "_law_size", "_law_k"] ["_law_number"] (defScope s_law_word_by) := ⟨rfl, rfl, rfl, by decide +kernel, rfl, by decide +kernel, by decide +kernel⟩
abbrev s_law_entry_by : Stmt := topS 7
theorem sc_law_entry_by : FnScope ["_law_number", "_law_term"] ["_law_number"] (defScope s_law_entry_by) := ⟨rfl, rfl, rfl, by decide +kernel, rfl, by decide +kernel, by decide +kernel⟩
abbrev s_law_row_by : Stmt := topS 8
theorem sc_law_row_by : FnScope ["_law_script", "_law_at", "_law_number", "_law_many", "_law_k"] ["_law_script", "_law_at"] (defScope s_law_row_by) := ⟨rfl, rfl, rfl, by decide +kernel, rfl, by decide +kernel, by decide +kernel⟩
abbrev s_law_whole : Stmt := topS 9
theorem sc_law_whole : FnScope ["_law_found"] ["_law_found"] (defScope s_law_whole) := ⟨rfl, rfl, rfl, by decide +kernel, rfl, by decide +kernel, by decide +kernel⟩
abbrev s_law_rows : Stmt := topS 10
theorem sc_law_rows : FnScope ["_law_found", "_law_entry"] ["_law_found"] (defScope s_law_rows) := ⟨rfl, rfl, rfl, by decide +kernel, rfl, by decide +kernel, by decide +kernel⟩
abbrev s_law_same : Stmt := topS 11
theorem sc_law_same : FnScope ["_law_found", "_law_due"] ["_law_found", "_law_due"] (defScope s_law_same) := ⟨rfl, rfl, rfl, by decide +kernel, rfl, by decide +kernel, by decide +kernel⟩
abbrev s_law : Stmt := topS 12
theorem sc_law : FnScope ["_law_script", "_law_row", "_law_number", "_law_at", "_law_term", "_law_due", "_law_handed", "_law_found"] ["_law_script"] (defScope s_law) := ⟨rfl, rfl, rfl, by decide +kernel, rfl, by decide +kernel, by decide +kernel⟩
structure Bi (mg : Str → Option Value) : Prop where
  z_bool : mg "bool" = none
  z_int : mg "int" = none
  z_isinstance : mg "isinstance" = none
  z_len : mg "len" = none
  z_list : mg "list" = none
  z_range : mg "range" = none
  z_str : mg "str" = none
  z_tuple : mg "tuple" = none
/-! ### the law's own helpers, their values -/
def mixA (c k : Int) : Int := (c + 7919 * k) * 48271 % 2147483647
def mixB (n k : Int) : Int := (n * n + 7 * n + k) % 2147483629
def cellI (ns : List Int) (k : Int) : Int := ns.getD k.toNat 0
def mixed (ns : List Int) (k : Int) : Int := mixB (mixA (cellI ns k) k) k
theorem mixA_b (c k : Int) : 0 ≤ mixA c k ∧ mixA c k < 2147483647 := by unfold mixA; omega
theorem mixB_b (c k : Int) : 0 ≤ mixB c k ∧ mixB c k < 2147483629 := by unfold mixB; omega
theorem mixed_b (ns : List Int) (k : Int) : 0 ≤ mixed ns k ∧ mixed ns k < 2147483629 := mixB_b _ _
section
variable {P : Program} {w : World} {K : PySem.W.Frag} {mg : Str → Option Value} {base : Heap}
def R_cell : List PyData → PyData → Prop := fun ds d => ∃ ns k, ds = [scr ns, .int k] ∧ 0 ≤ k ∧ d = .int (cellI ns k)
theorem cell_in {ns : List Int} {k : Int} (h0 : 0 ≤ k) (h : k < (ns.length : Int)) : atI ns k = some (cellI ns k) := by
  have e : k = ((k.toNat : Nat) : Int) := by omega
  have hl : k.toNat < ns.length := by omega
  have q : atI ns ((k.toNat : Nat) : Int) = some (ns.getD k.toNat 0) := atI_nat (by rw [List.getElem?_eq_getElem hl, List.getD_eq_getElem?_getD, List.getElem?_eq_getElem hl]; rfl)
  rw [← e] at q
  exact q
theorem cell_out {ns : List Int} {k : Int} (h : ¬ k < (ns.length : Int)) : cellI ns k = 0 := by
  unfold cellI
  rw [List.getD_eq_getElem?_getD, List.getElem?_eq_none (by omega)]
  rfl
theorem ok_law_cell_at {f : Addr} {fd : FuncData} {Z : Bi mg} {D : DefAt K mg "_law_cell_at" s_law_cell_at ["_law_script", "_law_k"] f fd} : Callee P w K mg base 1 "_law_cell_at" ["_law_script", "_law_k"] (spD K R_cell) f fd := by
  refine D.run sc_law_cell_at (fun ds d h => by obtain ⟨ns, k, rfl, _⟩ := h; rfl) fun cdv A outer s B H vs ds d Q E hr h eb hv q => ?_
  obtain ⟨ns, k, rfl, hk, rfl⟩ := h
  obtain ⟨v0, vs, rfl, d0, hv⟩ := dqa_cons.mp hv
  obtain ⟨v1, vs, rfl, d1, hv⟩ := dqa_cons.mp hv
  cases dqa_nil.mp hv
  cases dq_int.mp d1
  refine ⟨_, (pss_cons (ps_if (pt_cmpR op_lt (pv 1) (pe_callB call_len_seq (by rfl) Z.z_len (by decide +kernel) (pa_cons (pv 0) pa_nil)) (nomark _)) (pss_one (ps_ret (pe_ix ix_list (pv 0) (pv 1) (fun _ _ => rfl)))) pss_nil)
      (pss_one (ps_ret pe_int))), ?_⟩
  refine q_when (K := K) eb (et_test (evd_B0 (evd_vI rfl) (evd_lenSc (evd_v rfl d0)) rfl)) (fun hb B1 H1 g => ?_) (fun hb B1 H1 g => ?_)
  · exact s_ret (K := K) g.bh (evd_ixSc (evd_v rfl (d0.mono g.bb)) (evd_vI rfl) (cell_in hk (of_decide_eq_true hb))) fun v B2 H2 g2 p => q v B2 H2 (g.trans g2) p
  · exact s_ret (K := K) g.bh evd_cI fun v B2 H2 g2 p => q v B2 H2 (g.trans g2) (by rw [cell_out (of_decide_eq_false hb)]; exact p)
def R_mixed : List PyData → PyData → Prop := fun ds d => ∃ ns k, ds = [scr ns, .int k] ∧ 0 ≤ k ∧ d = .int (mixed ns k)
theorem ok_law_mixed {f fc : Addr} {fd fdc : FuncData} {Z : Bi mg} {D : DefAt K mg "_law_mixed" s_law_mixed ["_law_script", "_law_k"] f fd}
    {c_law_cell_at : Callee P w K mg base 1 "_law_cell_at" ["_law_script", "_law_k"] (spD K R_cell) fc fdc} : Callee P w K mg base 2 "_law_mixed" ["_law_script", "_law_k"] (spD K R_mixed) f fd := by
  refine D.run sc_law_mixed (fun ds d h => by obtain ⟨ns, k, rfl, _⟩ := h; rfl) fun cdv A outer s B H vs ds d Q E hr h eb hv q => ?_
  obtain ⟨ns, k, rfl, hk, rfl⟩ := h
  obtain ⟨v0, vs, rfl, d0, hv⟩ := dqa_cons.mp hv
  obtain ⟨v1, vs, rfl, d1, hv⟩ := dqa_cons.mp hv
  cases dqa_nil.mp hv
  cases dq_int.mp d1
  refine ⟨_, (pss_cons (ps_set (i := 2) sc_law_mixed.nd rfl (.inl rfl) (pe_op op_mod (pe_op op_mul (pe_op op_add (pe_call c_law_cell_at.G (hr.mono (by decide)) (by rfl) c_law_cell_at.g c_law_cell_at.kp c_law_cell_at.b .nil pass0 (pa_cons (pv 0) (pa_cons (pv 1) pa_nil))) (pe_op op_mul pe_int (pv 1))) pe_int) pe_int))
      (pss_one (ps_ret (pe_op op_mod (pe_op op_add (pe_op op_add (pe_op op_mul (pv 2) (pv 2)) (pe_op op_mul pe_int (pv 2))) (pv 1)) pe_int)))), ?_⟩
  have hb := mixA_b (cellI ns k) k
  refine q_asgI (K := K) (i := mixA (cellI ns k) k) eb (evd_IC (evd_IC (evd_I0 (evd_call (ea_cons (evd_v rfl d0) (ea_cons (evd_vI rfl) ea_nil)) ⟨ns, k, rfl, hk, rfl⟩) (evd_IC evd_cI (evd_vI rfl) rfl (.inl (by decide))) rfl) evd_cI rfl (.inr (by decide))) evd_cI rfl (by decide)) fun B1 H1 g => ?_
  refine s_ret (K := K) g.bh (evd_IC (evd_I0 (evd_I0 (evd_IC (evd_vI rfl) (evd_vI rfl) rfl (.inl (by omega))) (evd_IC evd_cI (evd_vI rfl) rfl (.inl (by decide))) rfl) (evd_vI rfl) rfl) evd_cI rfl (by decide)) fun v B2 H2 g2 p => q v B2 H2 (g.trans g2) p
end
section
variable {P : Program} {w : World} {K : PySem.W.Frag} {mg : Str → Option Value} {base : Heap}
/-! ### words -/
def signs : Str := PySem.Str.ofString " !\"#$&'()*+,-./0123456789:;<=>?@ABCDEFGHIJKLMNOPQRSTUVWXYZ[\\]^_`" ++ PySem.Str.ofString "abcdefghijklmnopqrstuvwxyz{|}~"
theorem signs_len : signs.cps.toList.length = 94 := by decide +kernel
theorem signs_ok : (signs.cps.toList.all fun c => decide (c < 0x110000)) = true := by decide +kernel
def signOf (n : Int) : Str := ⟨#[signs.cps.toList.getD (n % 94).toNat 0]⟩
theorem signOf_ok (n : Int) : PyData.strOk (signOf n) = true := by
  rw [strOk_iff]
  intro c hc
  have e : c = signs.cps.toList.getD (n % 94).toNat 0 := by simpa [signOf] using hc
  rw [e, List.getD_eq_getElem?_getD]
  cases q : signs.cps.toList[(n % 94).toNat]? with
  | none => show (0 : Nat) < _; decide
  | some z => exact of_decide_eq_true (List.all_eq_true.mp signs_ok z (List.mem_of_getElem? q))
theorem signOf_len (n : Int) : (signOf n).length = 1 := rfl
def R_sign : List PyData → PyData → Prop := fun ds d => ∃ n, ds = [.int n] ∧ d = .str (signOf n)
theorem ok_law_sign_by {f : Addr} {fd : FuncData} {Z : Bi mg} {D : DefAt K mg "_law_sign_by" s_law_sign_by ["_law_number"] f fd} : Callee P w K mg base 1 "_law_sign_by" ["_law_number"] (spD K R_sign) f fd := by
  refine D.run sc_law_sign_by (fun ds d h => by obtain ⟨n, rfl, _⟩ := h; rfl) fun cdv A outer s B H vs ds d Q E hr h eb hv q => ?_
  obtain ⟨n, rfl, rfl⟩ := h
  obtain ⟨v0, vs, rfl, d0, hv⟩ := dqa_cons.mp hv
  cases dqa_nil.mp hv
  cases dq_int.mp d0
  refine ⟨_, (pss_cons (ps_set (i := 1) sc_law_sign_by.nd rfl (.inl rfl) pe_str)
      (pss_cons (ps_set (i := 1) sc_law_sign_by.nd rfl (.inl rfl) (pe_op op_add_str (pv 1) pe_str))
      (pss_one (ps_ret (pe_ix ix_str (pv 1) (pe_op op_mod (pv 0) pe_int) (fun _ _ => rfl)))))), ?_⟩
  refine q_asgS (K := K) eb evd_cS fun B1 H1 g1 => ?_
  refine q_asgS (K := K) (s := signs) g1.bh (evd_addS (evd_vS rfl) evd_cS (by decide +kernel)) fun B2 H2 g2 => ?_
  have h1 : 0 ≤ n % 94 ∧ n % 94 < 94 := by omega
  refine G.s_ret (K := K) g2.bh (evd_ixS (evd_vS rfl) (evd_IC (evd_vI rfl) evd_cI rfl (by decide)) (by decide +kernel) (atI_in (d := 0) h1.1 (by rw [signs_len]; exact h1.2))) fun v B3 H3 g3 p => q v B3 H3 ((g1.trans g2).trans g3) p
def wsize (n : Int) : Int := if n / 4 % 9 = 1 then 10 + n / 36 % 120 else n % 4
theorem wsize_b (n : Int) : 0 ≤ wsize n ∧ wsize n ≤ 129 := by
  unfold wsize
  split <;> omega
def wordOf (n : Int) : Str := PySem.Str.join PySem.Str.empty ((List.range (wsize n).toNat).map fun k : Nat => signOf (n / 36 + 7 * (k : Int)))
theorem wordOf_ok (n : Int) : PyData.strOk (wordOf n) = true := strOk_join fun y hy => by
  obtain ⟨k, _, rfl⟩ := List.mem_map.mp hy
  exact signOf_ok _
theorem sum_ones {α : Type} (f : α → Str) (h : ∀ a, (f a).length = 1) : ∀ l : List α, ((l.map f).map (·.length)).sum = l.length
  | [] => rfl
  | a :: l => by
    have ih := sum_ones f h l
    rw [List.map_cons, List.map_cons, List.sum_cons, ih, h a, List.length_cons]
    omega
def R_word : List PyData → PyData → Prop := fun ds d => ∃ n, ds = [.int n] ∧ d = .str (wordOf n)
theorem ok_law_word_by {f fs : Addr} {fd fds : FuncData} {Z : Bi mg} {D : DefAt K mg "_law_word_by" s_law_word_by ["_law_number"] f fd}
    {c_law_sign_by : Callee P w K mg base 1 "_law_sign_by" ["_law_number"] (spD K R_sign) fs fds} : Callee P w K mg base 2 "_law_word_by" ["_law_number"] (spD K R_word) f fd := by
  refine D.run sc_law_word_by (fun ds d h => by obtain ⟨n, rfl, _⟩ := h; rfl) fun cdv A outer s B H vs ds d Q E hr h eb hv q => ?_
  obtain ⟨n, rfl, rfl⟩ := h
  obtain ⟨v0, vs, rfl, d0, hv⟩ := dqa_cons.mp hv
  cases dqa_nil.mp hv
  cases dq_int.mp d0
  refine ⟨_, (pss_cons (ps_set (i := 1) sc_law_word_by.nd rfl (.inl rfl) (pe_op op_mod (pv 0) pe_int))
      (pss_cons (ps_if (pt_cmpR op_eq (pe_op op_mod (pe_op op_fdiv (pv 0) pe_int) pe_int) pe_int (nomark _)) (pss_one (ps_set (i := 1) sc_law_word_by.nd rfl (.inl rfl) (pe_op op_add pe_int (pe_op op_mod (pe_op op_fdiv (pv 0) pe_int) pe_int)))) pss_nil)
      (pss_one (ps_ret (pe_join pe_str (pe_lc (own := [("_law_k", 2)]) (g := gName 2) (tt := tYes) rfl sc_law_word_by.nd (pi_range1 (by rfl) Z.z_range (pa_cons (pv 1) pa_nil)) (blkOk_by (own := [("_law_k", 2)]) (N := ["_law_number", "_law_size", "_law_k"]) (sc := defScope s_law_word_by) (by decide +kernel)) (fun _ _ _ _ _ => pg_name (i := 2) sc_law_word_by.nd rfl (Or.inl rfl)) (fun _ _ _ _ _ => pts_nil) (fun _ _ _ _ _ => (pe_call c_law_sign_by.G (hr.mono (by decide)) (by rfl) c_law_sign_by.g c_law_sign_by.kp c_law_sign_by.b .nil pass0 (pa_cons (pe_op op_add (pe_op op_fdiv (pv 0) pe_int) (pe_op op_mul pe_int (pv 2))) pa_nil))))))))), ?_⟩
  have hw := wsize_b n
  refine q_asgI (K := K) eb (evd_IC (evd_vI rfl) evd_cI rfl (by decide)) fun B1 H1 g1 => ?_
  refine q_ifI (K := K) (i := wsize n) g1.bh (et_test (evd_eqI (evd_IC (evd_IC (evd_vI rfl) evd_cI rfl ⟨by decide, by decide⟩) evd_cI rfl (by decide)) evd_cI))
    (fun hb => EvD.is (evd_I0 evd_cI (evd_IC (evd_IC (evd_vI rfl) evd_cI rfl ⟨by decide, by decide⟩) evd_cI rfl (by decide)) rfl) (by unfold wsize; rw [if_pos (of_decide_eq_true hb)]))
    (fun hb => by unfold wsize; rw [if_neg (of_decide_eq_false hb)]; rfl) fun B2 H2 g2 => ?_
  refine G.s_ret (K := K) g2.bh (evd_join (ys := (List.range (wsize n).toNat).map fun k : Nat => signOf (n / 36 + 7 * (k : Int))) (EvD.is (evd_lcR (fun k : Nat => .str (signOf (n / 36 + 7 * (k : Int)))) (ea_cons (evd_vI rfl) ea_nil) (by omega) (fun _ => rfl)
    (fun i B3 H3 g3 hi => evd_call (ea_cons (evd_I0 (evd_IC (evd_vI rfl) evd_cI rfl ⟨by decide, by decide⟩) (evd_IC evd_cI (evd_vI rfl) rfl (.inl (by decide))) rfl) ea_nil) ⟨_, rfl, rfl⟩)) (by rw [List.map_map]; rfl)) ?_) fun v B3 H3 g3 p => q v B3 H3 ((g1.trans g2).trans g3) p
  rw [sum_ones _ (fun _ => signOf_len _), List.length_range]
  omega
end

section
variable {P : Program} {w : World} {K : PySem.W.Frag} {mg : Str → Option Value} {base : Heap}
/-! ### rows that are drawn -/
def termOf (n : Int) : Int := if n / 4 % 6 = 1 then 1 + n ^ 3 else 1 + n % 4
def entOf (n : Int) : Ent := (termOf n, wordOf (n / 24))
theorem termOf_pos {n : Int} (h : 0 ≤ n) : 1 ≤ termOf n := by
  unfold termOf
  split
  · have : 0 ≤ n ^ 3 := Int.pow_nonneg h
    omega
  · omega
def R_entry : List PyData → PyData → Prop := fun ds d => ∃ n, ds = [.int n] ∧ (0 ≤ n ∧ n < 2147483629) ∧ d = entD (entOf n)
theorem ok_law_entry_by {f fs : Addr} {fd fds : FuncData} {Z : Bi mg} {D : DefAt K mg "_law_entry_by" s_law_entry_by ["_law_number"] f fd}
    {c_law_word_by : Callee P w K mg base 2 "_law_word_by" ["_law_number"] (spD K R_word) fs fds} : Callee P w K mg base 3 "_law_entry_by" ["_law_number"] (spD K R_entry) f fd := by
  refine D.run sc_law_entry_by (fun ds d h => by obtain ⟨n, rfl, _⟩ := h; rfl) fun cdv A outer s B H vs ds d Q E hr h eb hv q => ?_
  obtain ⟨n, rfl, hn, rfl⟩ := h
  obtain ⟨v0, vs, rfl, d0, hv⟩ := dqa_cons.mp hv
  cases dqa_nil.mp hv
  cases dq_int.mp d0
  refine ⟨_, (pss_cons (ps_set (i := 1) sc_law_entry_by.nd rfl (.inl rfl) (pe_op op_add pe_int (pe_op op_mod (pv 0) pe_int)))
      (pss_cons (ps_if (pt_cmpR op_eq (pe_op op_mod (pe_op op_fdiv (pv 0) pe_int) pe_int) pe_int (nomark _)) (pss_one (ps_set (i := 1) sc_law_entry_by.nd rfl (.inl rfl) (pe_op op_add pe_int (pe_op op_pow (pv 0) pe_int)))) pss_nil)
      (pss_one (ps_ret (pe_tup (pa_cons (pv 1) (pa_cons (pe_call c_law_word_by.G (hr.mono (by decide)) (by rfl) c_law_word_by.g c_law_word_by.kp c_law_word_by.b .nil pass0 (pa_cons (pe_op op_fdiv (pv 0) pe_int) pa_nil)) pa_nil))))))), ?_⟩
  refine q_asgI (K := K) eb (evd_I0 evd_cI (evd_IC (evd_vI rfl) evd_cI rfl (by decide)) rfl) fun B1 H1 g1 => ?_
  refine q_ifI (K := K) (i := termOf n) g1.bh (et_test (evd_eqI (evd_IC (evd_IC (evd_vI rfl) evd_cI rfl ⟨by decide, by decide⟩) evd_cI rfl (by decide)) evd_cI))
    (fun hb => EvD.is (evd_I0 evd_cI (evd_IC (evd_vI rfl) evd_cI rfl ⟨by decide, by decide, by omega⟩) rfl) (by unfold termOf; rw [if_pos (of_decide_eq_true hb)]; rfl))
    (fun hb => by unfold termOf; rw [if_neg (of_decide_eq_false hb)]; rfl) fun B2 H2 g2 => ?_
  refine G.s_ret (K := K) g2.bh (evd_tup (ea_cons (evd_vI rfl) (ea_cons (evd_call (ea_cons (evd_IC (evd_vI rfl) evd_cI rfl ⟨by decide, by decide⟩) ea_nil) ⟨_, rfl, rfl⟩) ea_nil)) (show 2 ≤ 100000 by decide)) fun v B3 H3 g3 p => q v B3 H3 ((g1.trans g2).trans g3) p
def manyOf (n : Int) : Int := if n / 6 % 4 = 1 then n % 6 + 60 else n % 6
theorem manyOf_b (n : Int) : 0 ≤ manyOf n ∧ manyOf n ≤ 65 := by
  unfold manyOf
  split <;> omega
def rowOf (ns : List Int) (at_ : Int) : List Ent := (List.range (manyOf (mixed ns at_)).toNat).map fun k : Nat => entOf (mixed ns (at_ + 2 + 3 * (k : Int)))
theorem rowOf_len (ns : List Int) (at_ : Int) : (rowOf ns at_).length ≤ 65 := by
  unfold rowOf
  rw [List.length_map, List.length_range]
  have := manyOf_b (mixed ns at_)
  omega
theorem rowOf_ok (ns : List Int) (at_ : Int) : okRow (rowOf ns at_) := fun e he => by
  obtain ⟨k, _, rfl⟩ := List.mem_map.mp he
  exact wordOf_ok _
theorem rowOf_pos (ns : List Int) (at_ : Int) : ∀ e ∈ rowOf ns at_, 1 ≤ e.1 := fun e he => by
  obtain ⟨k, _, rfl⟩ := List.mem_map.mp he
  exact termOf_pos (mixed_b _ _).1
def R_row : List PyData → PyData → Prop := fun ds d => ∃ ns k, ds = [scr ns, .int k] ∧ 0 ≤ k ∧ d = rowD (rowOf ns k)
theorem ok_law_row_by {f fe fm : Addr} {fd fde fdm : FuncData} {Z : Bi mg} {D : DefAt K mg "_law_row_by" s_law_row_by ["_law_script", "_law_at"] f fd}
    {c_law_mixed : Callee P w K mg base 2 "_law_mixed" ["_law_script", "_law_k"] (spD K R_mixed) fm fdm}
    {c_law_entry_by : Callee P w K mg base 3 "_law_entry_by" ["_law_number"] (spD K R_entry) fe fde} : Callee P w K mg base 4 "_law_row_by" ["_law_script", "_law_at"] (spD K R_row) f fd := by
  refine D.run sc_law_row_by (fun ds d h => by obtain ⟨ns, k, rfl, _⟩ := h; rfl) fun cdv A outer s B H vs ds d Q E hr h eb hv q => ?_
  obtain ⟨ns, k, rfl, hk, rfl⟩ := h
  obtain ⟨v0, vs, rfl, d0, hv⟩ := dqa_cons.mp hv
  obtain ⟨v1, vs, rfl, d1, hv⟩ := dqa_cons.mp hv
  cases dqa_nil.mp hv
  cases dq_int.mp d1
  refine ⟨_, (pss_cons (ps_set (i := 2) sc_law_row_by.nd rfl (.inl rfl) (pe_call c_law_mixed.G (hr.mono (by decide)) (by rfl) c_law_mixed.g c_law_mixed.kp c_law_mixed.b .nil pass0 (pa_cons (pv 0) (pa_cons (pv 1) pa_nil))))
      (pss_cons (ps_set (i := 3) sc_law_row_by.nd rfl (.inl rfl) (pe_op op_mod (pv 2) pe_int))
      (pss_cons (ps_if (pt_cmpR op_eq (pe_op op_mod (pe_op op_fdiv (pv 2) pe_int) pe_int) pe_int (nomark _)) (pss_one (ps_set (i := 3) sc_law_row_by.nd rfl (.inl rfl) (pe_op op_add (pv 3) pe_int))) pss_nil)
      (pss_one (ps_ret (pe_lc (own := [("_law_k", 4)]) (g := gName 4) (tt := tYes) rfl sc_law_row_by.nd (pi_range1 (by rfl) Z.z_range (pa_cons (pv 3) pa_nil)) (blkOk_by (own := [("_law_k", 4)]) (N := ["_law_script", "_law_at", "_law_number", "_law_many", "_law_k"]) (sc := defScope s_law_row_by) (by decide +kernel)) (fun _ _ _ _ _ => pg_name (i := 4) sc_law_row_by.nd rfl (Or.inl rfl)) (fun _ _ _ _ _ => pts_nil) (fun _ _ _ _ _ => (pe_call c_law_entry_by.G (hr.mono (by decide)) (by rfl) c_law_entry_by.g c_law_entry_by.kp c_law_entry_by.b .nil pass0 (pa_cons (pe_call c_law_mixed.G (hr.mono (by decide)) (by rfl) c_law_mixed.g c_law_mixed.kp c_law_mixed.b .nil pass0 (pa_cons (pv 0) (pa_cons (pe_op op_add (pe_op op_add (pv 1) pe_int) (pe_op op_mul pe_int (pv 4))) pa_nil))) pa_nil))))))))), ?_⟩
  have hw := manyOf_b (mixed ns k)
  refine q_asgI (K := K) eb (evd_call (ea_cons (evd_v rfl d0) (ea_cons (evd_vI rfl) ea_nil)) ⟨_, _, rfl, hk, rfl⟩) fun B1 H1 g1 => ?_
  refine q_asgI (K := K) g1.bh (evd_IC (evd_vI rfl) evd_cI rfl (by decide)) fun B2 H2 g2 => ?_
  refine q_ifI (K := K) (i := manyOf (mixed ns k)) g2.bh (et_test (evd_eqI (evd_IC (evd_IC (evd_vI rfl) evd_cI rfl ⟨by decide, by decide⟩) evd_cI rfl (by decide)) evd_cI))
    (fun hb => EvD.is (evd_I0 (evd_vI rfl) evd_cI rfl) (by unfold manyOf; rw [if_pos (of_decide_eq_true hb)]))
    (fun hb => by unfold manyOf; rw [if_neg (of_decide_eq_false hb)]; rfl) fun B3 H3 g3 => ?_
  have g := (g1.trans g2).trans g3
  refine G.s_ret (K := K) g3.bh (EvD.is (evd_lcR (fun i : Nat => entD (entOf (mixed ns (k + 2 + 3 * (i : Int))))) (ea_cons (evd_vI rfl) ea_nil) (by omega) (fun _ => rfl)
    (fun i B4 H4 g4 hi => evd_call (ea_cons (evd_call (ea_cons (evd_v rfl (d0.mono (g.trans g4).bb)) (ea_cons (evd_I0 (evd_I0 (evd_vI rfl) evd_cI rfl) (evd_IC evd_cI (evd_vI rfl) rfl (.inl (by decide))) rfl) ea_nil)) ⟨_, _, rfl, by omega, rfl⟩) ea_nil) ⟨_, rfl, mixed_b _ _, rfl⟩)) (by unfold rowD rowOf; rw [List.map_map]; rfl)) fun v B4 H4 g4 p => q v B4 H4 (g.trans g4) p
end

section
variable {P : Program} {w : World} {K : PySem.W.Frag} {mg : Str → Option Value} {base : Heap}
/-! ### looks -/
def wholeD : PyData → Bool
  | .int _ => true
  | _ => false
def noDict : PyData → Bool
  | .dict _ => false
  | _ => true
def R_whole : List PyData → PyData → Prop := fun ds d => ∃ e, ds = [e] ∧ noDict e = true ∧ d = .bool (wholeD e)
theorem ok_law_whole {f : Addr} {fd : FuncData} {Z : Bi mg} {D : DefAt K mg "_law_whole" s_law_whole ["_law_found"] f fd} : Callee P w K mg base 1 "_law_whole" ["_law_found"] (spD K R_whole) f fd := by
  refine D.run sc_law_whole (fun ds d h => by obtain ⟨n, rfl, _⟩ := h; rfl) fun cdv A outer s B H vs ds d Q E hr h eb hv q => ?_
  obtain ⟨e, rfl, he, rfl⟩ := h
  obtain ⟨v0, vs, rfl, d0, hv⟩ := dqa_cons.mp hv
  cases dqa_nil.mp hv
  refine ⟨_, (pss_one (ps_ret (pe_and (pe_callB call_isi (by rfl) Z.z_isinstance (by decide +kernel) (pa_cons (pv 0) (pa_cons (pe_bltn (v := .ty "int") (u := .type "int") (by rfl) Z.z_int (by decide +kernel) rfl) pa_nil))) (pe_one (pe_not (pe_callB call_isi (by rfl) Z.z_isinstance (by decide +kernel) (pa_cons (pv 0) (pa_cons (pe_bltn (v := .ty "bool") (u := .type "bool") (by rfl) Z.z_bool (by decide +kernel) rfl) pa_nil)))))))), ?_⟩
  cases e with
  | dict kvs => exact nomatch he
  | none => exact G.s_ret (K := K) eb (evd_andV0 (evd_isi (evd_v rfl d0) (by decide +kernel : kitB "NoneType" "int" = some false))) q
  | bool b => exact G.s_ret (K := K) eb (evd_andV1 (evd_isi (evd_v rfl d0) (by decide +kernel : kitB "bool" "int" = some true)) (evd_notV (evd_isi (evd_v rfl d0) (by decide +kernel : kitB "bool" "bool" = some true)))) q
  | int i => exact G.s_ret (K := K) eb (evd_andV1 (evd_isi (evd_v rfl d0) (by decide +kernel : kitB "int" "int" = some true)) (evd_notV (evd_isi (evd_v rfl d0) (by decide +kernel : kitB "int" "bool" = some false)))) q
  | str x => exact G.s_ret (K := K) eb (evd_andV0 (evd_isi (evd_v rfl d0) (by decide +kernel : kitB "str" "int" = some false))) q
  | list ds => exact G.s_ret (K := K) eb (evd_andV0 (evd_isi (evd_v rfl d0) (by decide +kernel : kitB "list" "int" = some false))) q
  | tuple ds => exact G.s_ret (K := K) eb (evd_andV0 (evd_isi (evd_v rfl d0) (by decide +kernel : kitB "tuple" "int" = some false))) q
def R_rows : List PyData → PyData → Prop := fun ds d => ∃ es, ds = [rowD es] ∧ d = .bool true
theorem ok_law_rows {f fw : Addr} {fd fdw : FuncData} {Z : Bi mg} {D : DefAt K mg "_law_rows" s_law_rows ["_law_found"] f fd}
    {c_law_whole : Callee P w K mg base 1 "_law_whole" ["_law_found"] (spD K R_whole) fw fdw} : Callee P w K mg base 2 "_law_rows" ["_law_found"] (spD K R_rows) f fd := by
  refine D.run sc_law_rows (fun ds d h => by obtain ⟨n, rfl, _⟩ := h; rfl) fun cdv A outer s B H vs ds d Q E hr h eb hv q => ?_
  obtain ⟨es, rfl, rfl⟩ := h
  obtain ⟨v0, vs, rfl, d0, hv⟩ := dqa_cons.mp hv
  cases dqa_nil.mp hv
  refine ⟨_, (pss_cons (ps_if (pt_not (pt_val (pe_callB call_isi (by rfl) Z.z_isinstance (by decide +kernel) (pa_cons (pv 0) (pa_cons (pe_bltn (v := .ty "list") (u := .type "list") (by rfl) Z.z_list (by decide +kernel) rfl) pa_nil))))) (pss_one (ps_ret pe_bl)) pss_nil)
      (pss_cons (ps_for PassesOwn.never rfl (pi_list (pv 0)) (pg_name (i := 1) sc_law_rows.nd rfl (.inl rfl)) (pss_cons (ps_if (PW.pt (pw_or (pt_not (pt_val (pe_callB call_isi (by rfl) Z.z_isinstance (by decide +kernel) (pa_cons (pv 1) (pa_cons (pe_bltn (v := .ty "tuple") (u := .type "tuple") (by rfl) Z.z_tuple (by decide +kernel) rfl) pa_nil))))) (pw_or1 (pt_cmpR op_ne (pe_callB call_len_seq (by rfl) Z.z_len (by decide +kernel) (pa_cons (pv 1) pa_nil)) pe_int (nomark _))))) (pss_one (ps_ret pe_bl)) pss_nil)
      (pss_one (ps_if (PW.pt (pw_or (pt_not (pt_val (pe_call c_law_whole.G (hr.mono (by decide)) (by rfl) c_law_whole.g c_law_whole.kp c_law_whole.b .nil pass0 (pa_cons (pe_ix ix_tup (pv 1) pe_int (fun _ _ => rfl)) pa_nil)))) (pw_or1 (pt_not (pt_val (pe_callB call_isi (by rfl) Z.z_isinstance (by decide +kernel) (pa_cons (pe_ix ix_tup (pv 1) pe_int (fun _ _ => rfl)) (pa_cons (pe_bltn (v := .ty "str") (u := .type "str") (by rfl) Z.z_str (by decide +kernel) rfl) pa_nil)))))))) (pss_one (ps_ret pe_bl)) pss_nil))))
      (pss_one (ps_ret pe_bl)))), ?_⟩
  refine q_when (K := K) (b := false) eb (et_not (et_B (evd_isi (evd_v rfl d0) (by decide +kernel : kitB "list" "list" = some true)))) (fun z => nomatch z) fun _ B1 H1 g1 => ?_
  refine q_forD (K := K) g1.bh (evd_v rfl (d0.mono g1.bb)) fun B2 H2 g2 => ⟨fun i σ' B3 H3 => Gr B2 H2 B3 H3 ∧ ∃ y, σ' = [some v0, y], ⟨g2.le, none, rfl⟩, fun i σ' B3 H3 h => ⟨h.1.bb, h.1.bh⟩, ?_, ?_⟩
  · rintro i d v σ' B3 H3 hi hd ⟨gg, y, rfl⟩
    rw [List.getElem?_map] at hi
    obtain ⟨e, he, rfl⟩ := Option.map_eq_some_iff.mp hi
    refine q_when (K := K) (b := false) gg.bh (et_or0 (et_not (et_B (evd_isi (evd_v rfl hd) (by decide +kernel : kitB "tuple" "tuple" = some true)))) (et_test (EvD.is (evd_neI (evd_lenT (evd_v rfl hd)) evd_cI) rfl))) (fun z => nomatch z) fun _ B4 H4 g4 => ?_
    exact s_when (K := K) (b := false) g4.bh (et_or0 (et_not (b := true) (et_B (evd_call (ea_cons (evd_ixT (evd_v rfl (hd.mono g4.bb)) evd_cI (d := .int e.1) rfl) ea_nil) ⟨_, rfl, rfl, rfl⟩))) (et_not (et_B (evd_isi (evd_ixT (evd_v rfl (hd.mono g4.bb)) evd_cI (d := .str e.2) rfl) (by decide +kernel : kitB "str" "str" = some true))))) (fun z => nomatch z) fun _ B5 H5 g5 => ⟨B5, (gg.trans g4).trans g5, _, rfl⟩
  · rintro σ' B3 H3 ⟨gg, y, rfl⟩
    exact G.s_ret (K := K) gg.bh evd_cB fun v B4 H4 g4 p => q v B4 H4 (((g1.trans g2).trans gg).trans g4) p
def R_same : List PyData → PyData → Prop := fun ds d => ∃ es fs, ds = [rowD es, rowD fs] ∧ okRow es ∧ okRow fs ∧ d = .bool (decide (es = fs))
theorem ok_law_same {f fr : Addr} {fd fdr : FuncData} {Z : Bi mg} {D : DefAt K mg "_law_same" s_law_same ["_law_found", "_law_due"] f fd}
    {c_law_rows : Callee P w K mg base 2 "_law_rows" ["_law_found"] (spD K R_rows) fr fdr} : Callee P w K mg base 3 "_law_same" ["_law_found", "_law_due"] (spD K R_same) f fd := by
  refine D.run sc_law_same (fun ds d h => by obtain ⟨n, m, rfl, _⟩ := h; rfl) fun cdv A outer s B H vs ds d Q E hr h eb hv q => ?_
  obtain ⟨es, fs, rfl, h1, h2, rfl⟩ := h
  obtain ⟨v0, vs, rfl, d0, hv⟩ := dqa_cons.mp hv
  obtain ⟨v1, vs, rfl, d1, hv⟩ := dqa_cons.mp hv
  cases dqa_nil.mp hv
  refine ⟨_, (pss_one (ps_ret (pe_and (pe_call c_law_rows.G (hr.mono (by decide)) (by rfl) c_law_rows.g c_law_rows.kp c_law_rows.b .nil pass0 (pa_cons (pv 0) pa_nil)) (pe_one (pe_cmpR (op_eqD hr.units) (pv 0) (pv 1) (nomark _)))))), ?_⟩
  exact G.s_ret (K := K) eb (evd_andV1 (evd_call (ea_cons (evd_v rfl d0) ea_nil) ⟨_, rfl, rfl⟩) (EvD.is (evd_eqD (evd_v rfl d0) (evd_v rfl d1) (shaped_row h1) (shaped_row h2)) (by rw [eqv_row]))) q
end

section
/-- the term of the entry at a place -/
def termAt (es : List Ent) (i : Int) : Int := (es.getD i.toNat (0, PySem.Str.empty)).1
def entAt (es : List Ent) (i : Int) : Ent := es.getD i.toNat (0, PySem.Str.empty)
theorem row_at {es : List Ent} {i : Int} (h0 : 0 ≤ i) (h : i < (es.length : Int)) : atI (es.map entD) i = some (entD (entAt es i)) := by
  rw [atI_map, atI_in h0 h (0, PySem.Str.empty)]
  rfl
theorem ent_fst {e : Ent} : atI [PyData.int e.1, PyData.str e.2] 0 = some (.int e.1) := rfl
end

section
def R_law : List PyData → PyData → Prop := fun ds d => ∃ ns, ds = [scr ns] ∧ ns.length ≤ 63 ∧ d = .bool true
abbrev spLaw (K : PySem.W.Frag) : Sp := spD K R_law
theorem law_start {K : PySem.W.Frag} {H : Hp} {a : Addr} {ns : List Int} (hl : ns.length ≤ 63) (hS : SqL K H a (ns.map V.int)) : spLaw K [.ref a] H (fun v _ => v = .bl true) fun _ _ _ => False :=
  ⟨H, [scr ns], .bool true, Evl.Ex.refl _, DqAll.one (dq_scr.mpr ⟨a, rfl, hS⟩), ⟨ns, rfl, hl, rfl⟩, fun v B1 H1 g p => dq_bool.mp p⟩
end

section
variable {P : Program} {w : World} {K : PySem.W.Frag} {mg : Str → Option Value} {base : Heap}
def agreesM (es : List Ent) (at_ t : Int) : Bool := decide (at_ = 0) || (decide (0 < at_) && decide (at_ ≤ (es.length : Int)) && decide (termAt es (at_ - 1) = t))
def R_agrees : List PyData → PyData → Prop := fun ds d => ∃ es a t, ds = [rowD es, .int a, .int t] ∧ d = .bool (agreesM es a t)
theorem ok_agrees {f : Addr} {fd : FuncData} {Z : Bi mg} {D : DefAt K mg "agrees" s_agrees ["row", "at", "term"] f fd} : Callee P w K mg base 1 "agrees" ["row", "at", "term"] (spD K R_agrees) f fd := by
  refine D.run sc_agrees (fun ds d h => by obtain ⟨n, a, t, rfl, _⟩ := h; rfl) fun cdv A outer s B H vs ds d Q E hr h eb hv q => ?_
  obtain ⟨es, a, t, rfl, rfl⟩ := h
  obtain ⟨v0, vs, rfl, d0, hv⟩ := dqa_cons.mp hv
  obtain ⟨v1, vs, rfl, d1, hv⟩ := dqa_cons.mp hv
  obtain ⟨v2, vs, rfl, d2, hv⟩ := dqa_cons.mp hv
  cases dqa_nil.mp hv
  cases dq_int.mp d1
  cases dq_int.mp d2
  refine ⟨_, (pss_cons (ps_if (pt_cmpR op_eq (pv 1) pe_int (nomark _)) (pss_one (ps_ret pe_bl)) pss_nil)
      (pss_one (ps_ret (pe_and (pe_chain op_lt op_le pe_int (pv 1) (pe_callB call_len_seq (by rfl) Z.z_len (by decide +kernel) (pa_cons (pv 0) pa_nil))) (pe_one (pe_cmpR op_eq (pe_ix ix_tup (pe_ix ix_list (pv 0) (pe_op op_sub (pv 1) pe_int) (fun _ _ => rfl)) pe_int (fun _ _ => rfl)) (pv 2) (nomark _))))))), ?_⟩
  refine q_when (K := K) eb (et_test (evd_eqI (evd_vI rfl) evd_cI)) (fun hb B1 H1 g1 => ?_) fun hb B1 H1 g1 => ?_
  · exact G.s_ret (K := K) g1.bh evd_cB fun v B2 H2 g2 p => q v B2 H2 (g1.trans g2) (by unfold agreesM; rw [hb]; exact p)
  · refine G.s_ret (K := K) g1.bh (evd_andV (c := decide (termAt es (a - 1) = t)) (evd_chain evd_cI (evd_vI rfl) rfl (fun _ => evd_len (evd_v rfl (d0.mono g1.bb))) rfl) fun hc => ?_) fun v B2 H2 g2 p => q v B2 H2 (g1.trans g2) (by unfold agreesM; rw [hb, Bool.false_or]; rw [List.length_map] at p; exact p)
    obtain ⟨c1, c2⟩ := Bool.and_eq_true_iff.mp hc
    have c1 := of_decide_eq_true c1
    have c2 := of_decide_eq_true c2
    rw [List.length_map] at c2
    exact evd_eqI (evd_ixT (evd_ixL (evd_v rfl (d0.mono g1.bb)) (evd_I0 (evd_vI rfl) evd_cI rfl) (row_at (es := es) (i := a - 1) (by omega) (by omega))) evd_cI ent_fst) (evd_vI rfl)
end

section
variable {P : Program} {w : World} {K : PySem.W.Frag} {mg : Str → Option Value} {base : Heap}
theorem ok_law {f fa fs fr fm : Addr} {fd fda fds fdr fdm : FuncData} {Z : Bi mg} {D : DefAt K mg "law" s_law ["_law_script"] f fd}
    {c_agrees : Callee P w K mg base 1 "agrees" ["row", "at", "term"] (spD K R_agrees) fa fda}
    {c_law_same : Callee P w K mg base 3 "_law_same" ["_law_found", "_law_due"] (spD K R_same) fs fds}
    {c_law_row_by : Callee P w K mg base 4 "_law_row_by" ["_law_script", "_law_at"] (spD K R_row) fr fdr}
    {c_law_mixed : Callee P w K mg base 2 "_law_mixed" ["_law_script", "_law_k"] (spD K R_mixed) fm fdm} : Callee P w K mg base 5 "law" ["_law_script"] (spLaw K) f fd := by
  refine D.run sc_law (fun ds d h => by obtain ⟨n, rfl, _⟩ := h; rfl) fun cdv A outer s B H vs ds d Q E hr h eb hv q => ?_
  obtain ⟨ns, rfl, hlen, rfl⟩ := h
  obtain ⟨v0, vs, rfl, d0, hv⟩ := dqa_cons.mp hv
  cases dqa_nil.mp hv
  refine ⟨_, (pss_cons (ps_set (i := 1) sc_law.nd rfl (.inl rfl) (pe_call c_law_row_by.G (hr.mono (by decide)) (by rfl) c_law_row_by.g c_law_row_by.kp c_law_row_by.b .nil pass0 (pa_cons (pv 0) (pa_cons pe_int pa_nil))))
      (pss_cons (ps_set (i := 2) sc_law.nd rfl (.inl rfl) (pe_call c_law_mixed.G (hr.mono (by decide)) (by rfl) c_law_mixed.g c_law_mixed.kp c_law_mixed.b .nil pass0 (pa_cons (pv 0) (pa_cons pe_int pa_nil))))
      (pss_cons (ps_set (i := 3) sc_law.nd rfl (.inl rfl) (pe_op op_mod (pv 2) (pe_op op_add (pe_callB call_len_seq (by rfl) Z.z_len (by decide +kernel) (pa_cons (pv 1) pa_nil)) pe_int)))
      (pss_cons (ps_set (i := 4) sc_law.nd rfl (.inl rfl) (pe_op op_mod (pe_op op_fdiv (pv 2) pe_int) pe_int))
      (pss_cons (ps_set (i := 5) sc_law.nd rfl (.inl rfl) (pe_cmpR op_eq (pv 3) pe_int (nomark _)))
      (pss_cons (ps_if (PW.pt (pw_and (pt_cmpR op_gt (pv 3) pe_int (nomark _)) (pw_and1 (pt_cmpR op_le (pv 3) (pe_callB call_len_seq (by rfl) Z.z_len (by decide +kernel) (pa_cons (pv 1) pa_nil)) (nomark _))))) (pss_cons (ps_if (pt_cmpR op_eq (pe_op op_mod (pe_op op_fdiv (pv 2) pe_int) pe_int) pe_int (nomark _)) (pss_one (ps_set (i := 4) sc_law.nd rfl (.inl rfl) (pe_ix ix_tup (pe_ix ix_list (pv 1) (pe_op op_sub (pv 3) pe_int) (fun _ _ => rfl)) pe_int (fun _ _ => rfl)))) pss_nil)
      (pss_one (ps_set (i := 5) sc_law.nd rfl (.inl rfl) (pe_cmpR op_eq (pe_ix ix_tup (pe_ix ix_list (pv 1) (pe_op op_sub (pv 3) pe_int) (fun _ _ => rfl)) pe_int (fun _ _ => rfl)) (pv 4) (nomark _))))) pss_nil)
      (pss_cons (ps_set (i := 6) sc_law.nd rfl (.inl rfl) (pe_callTy call_list_of (by rfl) Z.z_list (by decide +kernel) (pa_cons (pv 1) pa_nil)))
      (pss_cons (ps_set (i := 7) sc_law.nd rfl (.inl rfl) (pe_call c_agrees.G (hr.mono (by decide)) (by rfl) c_agrees.g c_agrees.kp c_agrees.b .nil pass0 (pa_cons (pv 6) (pa_cons (pv 3) (pa_cons (pv 4) pa_nil)))))
      (pss_one (ps_ret (pe_and (pe_callB call_isi (by rfl) Z.z_isinstance (by decide +kernel) (pa_cons (pv 7) (pa_cons (pe_bltn (v := .ty "bool") (u := .type "bool") (by rfl) Z.z_bool (by decide +kernel) rfl) pa_nil))) (pe_and (pe_cmpR op_eq (pv 7) (pv 5) (nomark _)) (pe_one (pe_call c_law_same.G (hr.mono (by decide)) (by rfl) c_law_same.g c_law_same.kp c_law_same.b .nil pass0 (pa_cons (pv 6) (pa_cons (pv 1) pa_nil)))))))))))))))), ?_⟩
  have hrow := rowOf_ok ns 0
  generalize hes : rowOf ns 0 = es at hrow
  refine q_asgD (K := K) eb (evd_call (ea_cons (evd_v rfl d0) (ea_cons evd_cI ea_nil)) ⟨ns, 0, rfl, by decide, by rw [hes]⟩) fun vr B1 H1 g1 dr => ?_
  have hn := mixed_b ns 1
  generalize hnn : mixed ns 1 = n at hn
  refine q_asgI (K := K) g1.bh (evd_call (ea_cons (evd_v rfl (d0.mono g1.bb)) (ea_cons evd_cI ea_nil)) ⟨ns, 1, rfl, by decide, by rw [hnn]⟩) fun B2 H2 g2 => ?_
  have dr2 := dr.mono g2.bb
  have hpos : (0 : Int) < (es.length : Int) + 3 := by omega
  have ha1 : 0 ≤ n % ((es.length : Int) + 3) := Int.emod_nonneg _ (by omega)
  generalize haa : n % ((es.length : Int) + 3) = a at ha1
  refine q_asgI (K := K) (i := a) g2.bh (EvD.is (evd_IC (evd_vI rfl) (evd_I0 (evd_len (evd_v rfl dr2)) evd_cI rfl) rfl (by rw [List.length_map]; exact hpos)) (by rw [List.length_map, haa])) fun B3 H3 g3 => ?_
  refine q_asgI (K := K) g3.bh (evd_IC (evd_IC (evd_vI rfl) evd_cI rfl ⟨by decide, by decide⟩) evd_cI rfl (by decide)) fun B4 H4 g4 => ?_
  refine q_asgB (K := K) g4.bh (evd_eqI (evd_vI rfl) evd_cI) fun B5 H5 g5 => ?_
  have dr5 := dr2.mono ((g3.trans g4).trans g5).bb
  refine q_mid (fun σ1 B6 H6 => Gr B5 H5 B6 H6 ∧ ∃ t b, σ1 = [some v0, some vr, some (.int n), some (.int a), some (.int t), some (.bl b), none, none] ∧ agreesM es a t = b) (fun fin => ?_) ?_
  · refine q_when (K := K) g5.bh (et_and (et_test (evd_B0 (evd_vI rfl) evd_cI rfl)) fun _ => et_test (evd_B0 (evd_vI rfl) (evd_len (evd_v rfl dr5)) rfl)) (fun hb B6 H6 g6 => ?_) fun hb B6 H6 g6 => ?_
    · obtain ⟨b1, b2⟩ := Bool.and_eq_true_iff.mp hb
      have b1 := of_decide_eq_true b1
      have b2 := of_decide_eq_true b2
      rw [List.length_map] at b2
      have hag : ∀ t, agreesM es a t = decide ((entAt es (a - 1)).1 = t) := fun t => by
        unfold agreesM termAt entAt
        rw [decide_eq_false (show ¬ a = 0 by omega), decide_eq_true b1, decide_eq_true b2]
        rfl
      refine q_mid (fun σ1 B7 H7 => Gr B6 H6 B7 H7 ∧ ∃ t, σ1 = [some v0, some vr, some (.int n), some (.int a), some (.int t), some (.bl (decide (a = 0))), none, none]) (fun fin2 => ?_) ?_
      · refine q_when (K := K) g6.bh (et_test (evd_eqI (evd_IC (evd_IC (evd_vI rfl) evd_cI rfl ⟨by decide, by decide⟩) evd_cI rfl (by decide)) evd_cI)) (fun hc B7 H7 g7 => ?_) fun hc B7 H7 g7 => ?_
        · exact s_asgI (K := K) g7.bh (evd_ixT (evd_ixL (evd_v rfl (dr5.mono (g6.trans g7).bb)) (evd_I0 (evd_vI rfl) evd_cI rfl) (row_at (es := es) (i := a - 1) (by omega) (by omega))) evd_cI ent_fst) fun B8 H8 g8 => fin2 _ B8 H8 ⟨g7.trans g8, _, rfl⟩
        · exact fin2 _ B7 H7 ⟨g7, _, rfl⟩
      · rintro σ1 B7 H7 ⟨g7, t, rfl⟩
        exact s_asgB (K := K) g7.bh (evd_eqI (evd_ixT (evd_ixL (evd_v rfl (dr5.mono (g6.trans g7).bb)) (evd_I0 (evd_vI rfl) evd_cI rfl) (row_at (es := es) (i := a - 1) (by omega) (by omega))) evd_cI ent_fst) (evd_vI rfl)) fun B8 H8 g8 => fin _ B8 H8 ⟨(g6.trans g7).trans g8, _, _, rfl, hag t⟩
    · refine fin _ B6 H6 ⟨g6, _, _, rfl, ?_⟩
      rw [List.length_map] at hb
      unfold agreesM
      rw [hb, Bool.false_and, Bool.or_false]
  · rintro σ1 B6 H6 ⟨g6, t, b, rfl, hab⟩
    have dr6 := dr5.mono g6.bb
    refine q_asgD (K := K) g6.bh (evd_list (evd_v rfl dr6)) fun vh B7 H7 g7 dh => ?_
    refine q_asgB (K := K) g7.bh (evd_call (ea_cons (evd_v rfl dh) (ea_cons (evd_vI rfl) (ea_cons (evd_vI rfl) ea_nil))) ⟨es, a, t, rfl, by rw [hab]⟩) fun B8 H8 g8 => ?_
    refine G.s_ret (K := K) g8.bh (evd_andV1 (evd_isi (evd_vB rfl) (by decide +kernel : kitB "bool" "bool" = some true)) (evd_andV1 (EvD.is (evd_eqB (evd_vB rfl) (evd_vB rfl)) (by rw [beq_self_eq_true])) (evd_call (ea_cons (evd_v rfl (dh.mono g8.bb)) (ea_cons (evd_v rfl (dr6.mono (g7.trans g8).bb)) ea_nil)) ⟨es, es, rfl, hrow, hrow, rfl⟩))) fun v B9 H9 g9 p => q v B9 H9 ?_ ?_
    · exact (((((((g1.trans g2).trans g3).trans g4).trans g5).trans g6).trans g7).trans g8).trans g9
    · rw [decide_eq_true rfl] at p
      exact p
end

theorem all_mk {l : PySem.W.OpenLaw} {w : World} {K : PySem.W.Frag} {h : Heap} {mg : Str → Option Value} {fa f_agrees f_law_cell_at f_law_mixed f_law_sign_by f_law_word_by f_law_entry_by f_law_row_by f_law_whole f_law_rows f_law_same f_law : Addr} (X : K.In h) (G : h.Ns mainGlobals mg) (hfa : mg "law" = some (.ref fa))
    {od0 an0 : Option Addr} {sl0 : Array (Option Value)} {oc0 kV0 dc0 pm0 cd0 ct0 : Value} (a0 : PySem.W.nsIn K mainGlobals "agrees" = some (some (.ref f_agrees)))
    (l0 : K.lookup f_agrees = some ⟨oc0, od0, .func (PySem.W.fnOf "agrees" "agrees" (defArgs s_agrees) (defBody s_agrees) (defScope s_agrees) .none kV0 dc0 pm0 an0 cd0 ct0), sl0⟩) (e0 : PySem.W.codeIn K cd0 "agrees" = true) (k0 : PySem.W.keepIn K (.ref f_agrees) = true)
    {od1 an1 : Option Addr} {sl1 : Array (Option Value)} {oc1 kV1 dc1 pm1 cd1 ct1 : Value} (a1 : PySem.W.nsIn K mainGlobals "_law_cell_at" = some (some (.ref f_law_cell_at)))
    (l1 : K.lookup f_law_cell_at = some ⟨oc1, od1, .func (PySem.W.fnOf "_law_cell_at" "_law_cell_at" (defArgs s_law_cell_at) (defBody s_law_cell_at) (defScope s_law_cell_at) .none kV1 dc1 pm1 an1 cd1 ct1), sl1⟩) (e1 : PySem.W.codeIn K cd1 "_law_cell_at" = true) (k1 : PySem.W.keepIn K (.ref f_law_cell_at) = true)
    {od2 an2 : Option Addr} {sl2 : Array (Option Value)} {oc2 kV2 dc2 pm2 cd2 ct2 : Value} (a2 : PySem.W.nsIn K mainGlobals "_law_mixed" = some (some (.ref f_law_mixed)))
    (l2 : K.lookup f_law_mixed = some ⟨oc2, od2, .func (PySem.W.fnOf "_law_mixed" "_law_mixed" (defArgs s_law_mixed) (defBody s_law_mixed) (defScope s_law_mixed) .none kV2 dc2 pm2 an2 cd2 ct2), sl2⟩) (e2 : PySem.W.codeIn K cd2 "_law_mixed" = true) (k2 : PySem.W.keepIn K (.ref f_law_mixed) = true)
    {od3 an3 : Option Addr} {sl3 : Array (Option Value)} {oc3 kV3 dc3 pm3 cd3 ct3 : Value} (a3 : PySem.W.nsIn K mainGlobals "_law_sign_by" = some (some (.ref f_law_sign_by)))
    (l3 : K.lookup f_law_sign_by = some ⟨oc3, od3, .func (PySem.W.fnOf "_law_sign_by" "_law_sign_by" (defArgs s_law_sign_by) (defBody s_law_sign_by) (defScope s_law_sign_by) .none kV3 dc3 pm3 an3 cd3 ct3), sl3⟩) (e3 : PySem.W.codeIn K cd3 "_law_sign_by" = true) (k3 : PySem.W.keepIn K (.ref f_law_sign_by) = true)
    {od4 an4 : Option Addr} {sl4 : Array (Option Value)} {oc4 kV4 dc4 pm4 cd4 ct4 : Value} (a4 : PySem.W.nsIn K mainGlobals "_law_word_by" = some (some (.ref f_law_word_by)))
    (l4 : K.lookup f_law_word_by = some ⟨oc4, od4, .func (PySem.W.fnOf "_law_word_by" "_law_word_by" (defArgs s_law_word_by) (defBody s_law_word_by) (defScope s_law_word_by) .none kV4 dc4 pm4 an4 cd4 ct4), sl4⟩) (e4 : PySem.W.codeIn K cd4 "_law_word_by" = true) (k4 : PySem.W.keepIn K (.ref f_law_word_by) = true)
    {od5 an5 : Option Addr} {sl5 : Array (Option Value)} {oc5 kV5 dc5 pm5 cd5 ct5 : Value} (a5 : PySem.W.nsIn K mainGlobals "_law_entry_by" = some (some (.ref f_law_entry_by)))
    (l5 : K.lookup f_law_entry_by = some ⟨oc5, od5, .func (PySem.W.fnOf "_law_entry_by" "_law_entry_by" (defArgs s_law_entry_by) (defBody s_law_entry_by) (defScope s_law_entry_by) .none kV5 dc5 pm5 an5 cd5 ct5), sl5⟩) (e5 : PySem.W.codeIn K cd5 "_law_entry_by" = true) (k5 : PySem.W.keepIn K (.ref f_law_entry_by) = true)
    {od6 an6 : Option Addr} {sl6 : Array (Option Value)} {oc6 kV6 dc6 pm6 cd6 ct6 : Value} (a6 : PySem.W.nsIn K mainGlobals "_law_row_by" = some (some (.ref f_law_row_by)))
    (l6 : K.lookup f_law_row_by = some ⟨oc6, od6, .func (PySem.W.fnOf "_law_row_by" "_law_row_by" (defArgs s_law_row_by) (defBody s_law_row_by) (defScope s_law_row_by) .none kV6 dc6 pm6 an6 cd6 ct6), sl6⟩) (e6 : PySem.W.codeIn K cd6 "_law_row_by" = true) (k6 : PySem.W.keepIn K (.ref f_law_row_by) = true)
    {od7 an7 : Option Addr} {sl7 : Array (Option Value)} {oc7 kV7 dc7 pm7 cd7 ct7 : Value} (a7 : PySem.W.nsIn K mainGlobals "_law_whole" = some (some (.ref f_law_whole)))
    (l7 : K.lookup f_law_whole = some ⟨oc7, od7, .func (PySem.W.fnOf "_law_whole" "_law_whole" (defArgs s_law_whole) (defBody s_law_whole) (defScope s_law_whole) .none kV7 dc7 pm7 an7 cd7 ct7), sl7⟩) (e7 : PySem.W.codeIn K cd7 "_law_whole" = true) (k7 : PySem.W.keepIn K (.ref f_law_whole) = true)
    {od8 an8 : Option Addr} {sl8 : Array (Option Value)} {oc8 kV8 dc8 pm8 cd8 ct8 : Value} (a8 : PySem.W.nsIn K mainGlobals "_law_rows" = some (some (.ref f_law_rows)))
    (l8 : K.lookup f_law_rows = some ⟨oc8, od8, .func (PySem.W.fnOf "_law_rows" "_law_rows" (defArgs s_law_rows) (defBody s_law_rows) (defScope s_law_rows) .none kV8 dc8 pm8 an8 cd8 ct8), sl8⟩) (e8 : PySem.W.codeIn K cd8 "_law_rows" = true) (k8 : PySem.W.keepIn K (.ref f_law_rows) = true)
    {od9 an9 : Option Addr} {sl9 : Array (Option Value)} {oc9 kV9 dc9 pm9 cd9 ct9 : Value} (a9 : PySem.W.nsIn K mainGlobals "_law_same" = some (some (.ref f_law_same)))
    (l9 : K.lookup f_law_same = some ⟨oc9, od9, .func (PySem.W.fnOf "_law_same" "_law_same" (defArgs s_law_same) (defBody s_law_same) (defScope s_law_same) .none kV9 dc9 pm9 an9 cd9 ct9), sl9⟩) (e9 : PySem.W.codeIn K cd9 "_law_same" = true) (k9 : PySem.W.keepIn K (.ref f_law_same) = true)
    {od10 an10 : Option Addr} {sl10 : Array (Option Value)} {oc10 kV10 dc10 pm10 cd10 ct10 : Value} (a10 : PySem.W.nsIn K mainGlobals "law" = some (some (.ref f_law)))
    (l10 : K.lookup f_law = some ⟨oc10, od10, .func (PySem.W.fnOf "law" "law" (defArgs s_law) (defBody s_law) (defScope s_law) .none kV10 dc10 pm10 an10 cd10 ct10), sl10⟩) (e10 : PySem.W.codeIn K cd10 "law" = true) (k10 : PySem.W.keepIn K (.ref f_law) = true)
    (z_bool : PySem.W.nsIn K mainGlobals "bool" = some none)
    (z_int : PySem.W.nsIn K mainGlobals "int" = some none)
    (z_isinstance : PySem.W.nsIn K mainGlobals "isinstance" = some none)
    (z_len : PySem.W.nsIn K mainGlobals "len" = some none)
    (z_list : PySem.W.nsIn K mainGlobals "list" = some none)
    (z_range : PySem.W.nsIn K mainGlobals "range" = some none)
    (z_str : PySem.W.nsIn K mainGlobals "str" = some none)
    (z_tuple : PySem.W.nsIn K mainGlobals "tuple" = some none)
    : ∃ fd : FuncData, (∀ (s : Shared) (v : Value), BindsTo s fd ⟨[v], []⟩ [("_law_script", v)]) ∧ ∀ base : Heap, K.In base → base.Ns mainGlobals mg → FnOk l.prog w K mg base CX0 5 fa fd ["_law_script"] (spLaw K) := by
  have e := hfa.symm.trans (PySem.W.mg_of X G a10)
  cases e
  have Z : Bi mg := ⟨PySem.W.mg_none_of X G z_bool, PySem.W.mg_none_of X G z_int, PySem.W.mg_none_of X G z_isinstance, PySem.W.mg_none_of X G z_len, PySem.W.mg_none_of X G z_list, PySem.W.mg_none_of X G z_range, PySem.W.mg_none_of X G z_str, PySem.W.mg_none_of X G z_tuple⟩
  have d_agrees : DefAt K mg "agrees" s_agrees ["row", "at", "term"] f_agrees _ := ⟨fun_mk (st := s_agrees) l0 e0 k0, (fun_mk (st := s_agrees) l0 e0 k0).binds fun _ _ _ _ _ _ us hl => match us, hl with | [_, _, _], _ => rfl, PySem.W.mg_of X G a0⟩
  have d_law_cell_at : DefAt K mg "_law_cell_at" s_law_cell_at ["_law_script", "_law_k"] f_law_cell_at _ := ⟨fun_mk (st := s_law_cell_at) l1 e1 k1, (fun_mk (st := s_law_cell_at) l1 e1 k1).binds fun _ _ _ _ _ _ us hl => match us, hl with | [_, _], _ => rfl, PySem.W.mg_of X G a1⟩
  have d_law_mixed : DefAt K mg "_law_mixed" s_law_mixed ["_law_script", "_law_k"] f_law_mixed _ := ⟨fun_mk (st := s_law_mixed) l2 e2 k2, (fun_mk (st := s_law_mixed) l2 e2 k2).binds fun _ _ _ _ _ _ us hl => match us, hl with | [_, _], _ => rfl, PySem.W.mg_of X G a2⟩
  have d_law_sign_by : DefAt K mg "_law_sign_by" s_law_sign_by ["_law_number"] f_law_sign_by _ := ⟨fun_mk (st := s_law_sign_by) l3 e3 k3, (fun_mk (st := s_law_sign_by) l3 e3 k3).binds fun _ _ _ _ _ _ us hl => match us, hl with | [_], _ => rfl, PySem.W.mg_of X G a3⟩
  have d_law_word_by : DefAt K mg "_law_word_by" s_law_word_by ["_law_number"] f_law_word_by _ := ⟨fun_mk (st := s_law_word_by) l4 e4 k4, (fun_mk (st := s_law_word_by) l4 e4 k4).binds fun _ _ _ _ _ _ us hl => match us, hl with | [_], _ => rfl, PySem.W.mg_of X G a4⟩
  have d_law_entry_by : DefAt K mg "_law_entry_by" s_law_entry_by ["_law_number"] f_law_entry_by _ := ⟨fun_mk (st := s_law_entry_by) l5 e5 k5, (fun_mk (st := s_law_entry_by) l5 e5 k5).binds fun _ _ _ _ _ _ us hl => match us, hl with | [_], _ => rfl, PySem.W.mg_of X G a5⟩
  have d_law_row_by : DefAt K mg "_law_row_by" s_law_row_by ["_law_script", "_law_at"] f_law_row_by _ := ⟨fun_mk (st := s_law_row_by) l6 e6 k6, (fun_mk (st := s_law_row_by) l6 e6 k6).binds fun _ _ _ _ _ _ us hl => match us, hl with | [_, _], _ => rfl, PySem.W.mg_of X G a6⟩
  have d_law_whole : DefAt K mg "_law_whole" s_law_whole ["_law_found"] f_law_whole _ := ⟨fun_mk (st := s_law_whole) l7 e7 k7, (fun_mk (st := s_law_whole) l7 e7 k7).binds fun _ _ _ _ _ _ us hl => match us, hl with | [_], _ => rfl, PySem.W.mg_of X G a7⟩
  have d_law_rows : DefAt K mg "_law_rows" s_law_rows ["_law_found"] f_law_rows _ := ⟨fun_mk (st := s_law_rows) l8 e8 k8, (fun_mk (st := s_law_rows) l8 e8 k8).binds fun _ _ _ _ _ _ us hl => match us, hl with | [_], _ => rfl, PySem.W.mg_of X G a8⟩
  have d_law_same : DefAt K mg "_law_same" s_law_same ["_law_found", "_law_due"] f_law_same _ := ⟨fun_mk (st := s_law_same) l9 e9 k9, (fun_mk (st := s_law_same) l9 e9 k9).binds fun _ _ _ _ _ _ us hl => match us, hl with | [_, _], _ => rfl, PySem.W.mg_of X G a9⟩
  have d_law : DefAt K mg "law" s_law ["_law_script"] fa _ := ⟨fun_mk (st := s_law) l10 e10 k10, (fun_mk (st := s_law) l10 e10 k10).binds fun _ _ _ _ _ _ us hl => match us, hl with | [_], _ => rfl, PySem.W.mg_of X G a10⟩
  refine ⟨PySem.W.fnOf "law" "law" (defArgs s_law) (defBody s_law) (defScope s_law) .none kV10 dc10 pm10 an10 cd10 ct10, fun s v => .of_eq rfl, fun base _ _ => ?_⟩
  have c_agrees := ok_agrees (P := l.prog) (w := w) (base := base) (D := d_agrees) (Z := Z)
  have c_law_whole := ok_law_whole (P := l.prog) (w := w) (base := base) (D := d_law_whole) (Z := Z)
  have c_law_rows := ok_law_rows (P := l.prog) (w := w) (base := base) (D := d_law_rows) (Z := Z) (c_law_whole := c_law_whole)
  have c_law_same := ok_law_same (P := l.prog) (w := w) (base := base) (D := d_law_same) (Z := Z) (c_law_rows := c_law_rows)
  have c_law_cell_at := ok_law_cell_at (P := l.prog) (w := w) (base := base) (D := d_law_cell_at) (Z := Z)
  have c_law_mixed := ok_law_mixed (P := l.prog) (w := w) (base := base) (D := d_law_mixed) (Z := Z) (c_law_cell_at := c_law_cell_at)
  have c_law_sign_by := ok_law_sign_by (P := l.prog) (w := w) (base := base) (D := d_law_sign_by) (Z := Z)
  have c_law_word_by := ok_law_word_by (P := l.prog) (w := w) (base := base) (D := d_law_word_by) (Z := Z) (c_law_sign_by := c_law_sign_by)
  have c_law_entry_by := ok_law_entry_by (P := l.prog) (w := w) (base := base) (D := d_law_entry_by) (Z := Z) (c_law_word_by := c_law_word_by)
  have c_law_row_by := ok_law_row_by (P := l.prog) (w := w) (base := base) (D := d_law_row_by) (Z := Z) (c_law_mixed := c_law_mixed) (c_law_entry_by := c_law_entry_by)
  have c_law := ok_law (P := l.prog) (w := w) (base := base) (D := d_law) (Z := Z) (c_agrees := c_agrees) (c_law_same := c_law_same) (c_law_row_by := c_law_row_by) (c_law_mixed := c_law_mixed)
  exact c_law.G
end A02
open PySem PySem.W PyProof.Rows in
set_option maxRecDepth 100000 in
set_option maxHeartbeats 0 in
theorem PySem.Challenge.cw_logreplica_k02_agrees_holds : PySem.Challenge.rw_logreplica_k02_agrees.Holds := by
  w_on; o_law; k_head; (case hw => w_witness2)
  k_fill
  refine L2.walk_of (l := PySem.Challenge.rw_logreplica_k02_agrees) (n := 63) (k := 5) (x := "_law_script") (CX := fun _ => L2.CX0) (sp := fun w => A02.spLaw _) rfl (by decide) rfl ⟨rfl, by decide, by decide⟩ (fun w h Y => PySem.W.kIn_of Y) ?F (fun _ H a ns hl _ hS => A02.law_start hl hS) (fun _ _ _ _ _ h => h)
  case F =>
    intro w mg fa h KX G hmg
    refine' A02.all_mk KX G hmg ?a0 ?l0 ?e0 ?k0 ?a1 ?l1 ?e1 ?k1 ?a2 ?l2 ?e2 ?k2 ?a3 ?l3 ?e3 ?k3 ?a4 ?l4 ?e4 ?k4 ?a5 ?l5 ?e5 ?k5 ?a6 ?l6 ?e6 ?k6 ?a7 ?l7 ?e7 ?k7 ?a8 ?l8 ?e8 ?k8 ?a9 ?l9 ?e9 ?k9 ?a10 ?l10 ?e10 ?k10 ?z_bool ?z_int ?z_isinstance ?z_len ?z_list ?z_range ?z_str ?z_tuple
    (case a0 => k_is); (case l0 => k_is); (case e0 => k_is); (case k0 => k_is); (case a1 => k_is); (case l1 => k_is); (case e1 => k_is); (case k1 => k_is); (case a2 => k_is); (case l2 => k_is); (case e2 => k_is); (case k2 => k_is); (case a3 => k_is); (case l3 => k_is); (case e3 => k_is); (case k3 => k_is); (case a4 => k_is); (case l4 => k_is); (case e4 => k_is); (case k4 => k_is); (case a5 => k_is); (case l5 => k_is); (case e5 => k_is); (case k5 => k_is); (case a6 => k_is); (case l6 => k_is); (case e6 => k_is); (case k6 => k_is); (case a7 => k_is); (case l7 => k_is); (case e7 => k_is); (case k7 => k_is); (case a8 => k_is); (case l8 => k_is); (case e8 => k_is); (case k8 => k_is); (case a9 => k_is); (case l9 => k_is); (case e9 => k_is); (case k9 => k_is); (case a10 => k_is); (case l10 => k_is); (case e10 => k_is); (case k10 => k_is); (case z_bool => k_is); (case z_int => k_is); (case z_isinstance => k_is); (case z_len => k_is); (case z_list => k_is); (case z_range => k_is); (case z_str => k_is); (case z_tuple => k_is)
