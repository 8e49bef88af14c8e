import PyProof.Rows.All
import Wide.All
import OpenK.AllK
import Wide.FinOn
import HandS.ForMost
import HandS.IsInst
import HandS.Evl
import HandS.ForExc
import HandS.HotCalls
import HandS.ExcIs
import HandS.SortKw
import HandS.Style
import HandS.Conv
import HandS.ExcOwn
import HandS.ExcCtx
import HandS.Sort
import KE.KTryMore
import HandS.Comp
import PyProof.CompFree
import HandS.Dict
import HandS.SetKeys
import PySem.Challenge.RW_logreplica_k14_refused
set_option Elab.async false
set_option linter.all false
set_option maxRecDepth 100000
set_option maxHeartbeats 1000000
namespace G
open PySem L2 Evl

/-! ### states: a base B of things that stay, the heap H; how both grow -/
structure Gr (B H B1 H1 : Hp) : Prop where
  bb : Ex B B1
  bh : Ex B1 H1
  hh : Ex H H1
  nw : ∀ a, B a = none → B1 a ≠ none → H a = none
theorem Gr.refl {B H : Hp} (h : Ex B H) : Gr B H B H := ⟨Ex.refl _, h, Ex.refl _, fun a h1 h2 => absurd h1 h2⟩
theorem ex_none {H H1 : Hp} (e : Ex H H1) {a : Addr} (h : H1 a = none) : H a = none := fresh_back e h
theorem Gr.trans {B H B1 H1 B2 H2 : Hp} (g : Gr B H B1 H1) (k : Gr B1 H1 B2 H2) : Gr B H B2 H2 :=
  ⟨g.bb.trans k.bb, k.bh, g.hh.trans k.hh, fun a h1 h2 => by
    cases e : B1 a with
    | none => exact ex_none g.hh (k.nw a e h2)
    | some o => exact g.nw a h1 (by rw [e]; exact fun z => nomatch z)⟩
theorem Gr.le {B H B1 H1 : Hp} (g : Gr B H B1 H1) : Gr B1 H1 B1 H1 := Gr.refl g.bh
/-- what is mutable stays outside the base -/
theorem Gr.out {B H B1 H1 : Hp} (g : Gr B H B1 H1) {a : Addr} {o : HO} (hb : B a = none) (hh : H a = some o) : B1 a = none := by
  cases e : B1 a with
  | none => rfl
  | some u =>
    have := g.nw a hb (by rw [e]; exact fun z => nomatch z)
    rw [this] at hh
    cases hh
theorem upd_ex {B H : Hp} {p : Addr} {o : HO} (h : Ex B H) : Ex (upd B p o) (upd H p o) := fun a u e => by
  by_cases ha : a = p
  · subst ha
    rw [upd_same] at e ⊢
    exact e
  · rw [upd_ne ha] at e ⊢
    exact h a u e
theorem Gr.new {B H : Hp} {p : Addr} {o : HO} (h : Ex B H) (hp : H p = none) : Gr B H (upd B p o) (upd H p o) :=
  ⟨Ex.new (ex_none h hp), upd_ex h, Ex.new hp, fun a h1 h2 => by
    by_cases ha : a = p
    · rw [ha]; exact hp
    · rw [upd_ne ha] at h2; exact absurd h1 h2⟩
/-- a new thing that may change -/
theorem Gr.newM {B H : Hp} {p : Addr} {o : HO} (h : Ex B H) (hp : H p = none) : Gr B H B (upd H p o) :=
  ⟨Ex.refl _, h.trans (Ex.new hp), Ex.new hp, fun a h1 h2 => absurd h1 h2⟩
/-- a thing that the beginning did not know is changed -/
theorem Gr.mut {B H B1 H1 : Hp} {l : Addr} {o : HO} (g : Gr B H B1 H1) (hl : H l = none) (hb : B1 l = none) : Gr B H B1 (upd H1 l o) :=
  ⟨g.bb, Ex.mut g.bh hb, Ex.mut g.hh hl, g.nw⟩
/-- .. and from then on stays -/
theorem Gr.froz {B H B1 H1 : Hp} {l : Addr} {o : HO} (g : Gr B H B1 H1) (hl : H l = none) (hb : B1 l = none) (h1 : H1 l = some o) : Gr B H (upd B1 l o) H1 :=
  ⟨g.bb.trans (Ex.new hb), fun a u e => by
    by_cases ha : a = l
    · subst ha
      rw [upd_same] at e
      rw [h1]; exact e
    · rw [upd_ne ha] at e
      exact g.bh a u e, g.hh, fun a q1 q2 => by
    by_cases ha : a = l
    · rw [ha]; exact hl
    · rw [upd_ne ha] at q2
      exact g.nw a q1 q2⟩

/-! ### data over a base -/
def dV : PyData → V
  | .int i => .int i
  | .bool b => .bl b
  | .str x => .str x
  | _ => .non
mutual
def Dq (K : PySem.W.Frag) (B : Hp) : PyData → V → Prop
  | .none, v => v = .non
  | .bool b, v => v = .bl b
  | .int i, v => v = .int i
  | .str x, v => v = .str x
  | .list ds, v => ∃ a xs, v = .ref a ∧ B a = some (.lst xs) ∧ DqAll K B ds xs
  | .tuple ds, v => ∃ a xs, v = .ref a ∧ B a = some (.tup xs) ∧ DqAll K B ds xs
  | .dict kvs, v => ∃ a, v = .ref a ∧ SqL K B a (kvs.map fun p => dV p.1)
def DqAll (K : PySem.W.Frag) (B : Hp) : List PyData → List V → Prop
  | [], xs => xs = []
  | d :: ds, xs => ∃ v vs, xs = v :: vs ∧ Dq K B d v ∧ DqAll K B ds vs
end
variable {K : PySem.W.Frag}
mutual
theorem Dq.mono {B B1 : Hp} (e : Ex B B1) : ∀ {d : PyData} {v : V}, Dq K B d v → Dq K B1 d v
  | .none, _, h => h
  | .bool _, _, h => h
  | .int _, _, h => h
  | .str _, _, h => h
  | .list ds, _, h => by
    unfold Dq at h ⊢
    obtain ⟨a, xs, rfl, h1, h2⟩ := h
    exact ⟨a, xs, rfl, e _ _ h1, DqAll.mono e h2⟩
  | .tuple ds, _, h => by
    unfold Dq at h ⊢
    obtain ⟨a, xs, rfl, h1, h2⟩ := h
    exact ⟨a, xs, rfl, e _ _ h1, DqAll.mono e h2⟩
  | .dict kvs, _, h => by
    unfold Dq at h ⊢
    obtain ⟨a, rfl, h1⟩ := h
    exact ⟨a, rfl, ex_l e h1⟩
theorem DqAll.mono {B B1 : Hp} (e : Ex B B1) : ∀ {ds : List PyData} {vs : List V}, DqAll K B ds vs → DqAll K B1 ds vs
  | [], _, h => by
    unfold DqAll at h ⊢
    exact h
  | d :: ds, _, h => by
    unfold DqAll at h ⊢
    obtain ⟨v, vs, rfl, h1, h2⟩ := h
    exact ⟨v, vs, rfl, Dq.mono e h1, DqAll.mono e h2⟩
end
theorem dq_int {B : Hp} {i : Int} {v : V} : Dq K B (.int i) v ↔ v = .int i := by unfold Dq; exact Iff.rfl
theorem dq_bool {B : Hp} {i : Bool} {v : V} : Dq K B (.bool i) v ↔ v = .bl i := by unfold Dq; exact Iff.rfl
theorem dq_str {B : Hp} {i : Str} {v : V} : Dq K B (.str i) v ↔ v = .str i := by unfold Dq; exact Iff.rfl
theorem dq_none {B : Hp} {v : V} : Dq K B .none v ↔ v = .non := by unfold Dq; exact Iff.rfl
theorem dq_list {B : Hp} {ds : List PyData} {v : V} : Dq K B (.list ds) v ↔ ∃ a xs, v = .ref a ∧ B a = some (.lst xs) ∧ DqAll K B ds xs := by rw [Dq]
theorem dq_tuple {B : Hp} {ds : List PyData} {v : V} : Dq K B (.tuple ds) v ↔ ∃ a xs, v = .ref a ∧ B a = some (.tup xs) ∧ DqAll K B ds xs := by rw [Dq]
theorem dqa_nil {B : Hp} {xs : List V} : DqAll K B [] xs ↔ xs = [] := by rw [DqAll]
theorem dqa_cons {B : Hp} {d : PyData} {ds : List PyData} {xs : List V} : DqAll K B (d :: ds) xs ↔ ∃ v vs, xs = v :: vs ∧ Dq K B d v ∧ DqAll K B ds vs := by rw [DqAll]
theorem DqAll.len {B : Hp} : ∀ {ds : List PyData} {xs : List V}, DqAll K B ds xs → xs.length = ds.length
  | [], _, h => by rw [dqa_nil.mp h]; rfl
  | d :: ds, _, h => by
    obtain ⟨v, vs, rfl, _, h2⟩ := dqa_cons.mp h
    rw [List.length_cons, List.length_cons, DqAll.len h2]
theorem DqAll.get {B : Hp} : ∀ {ds : List PyData} {xs : List V} {i : Nat} {d : PyData}, DqAll K B ds xs → ds[i]? = some d → ∃ v, xs[i]? = some v ∧ Dq K B d v
  | [], _, _, _, _, h => by simp at h
  | e :: ds, _, 0, d, h, hi => by
    obtain ⟨v, vs, rfl, h1, h2⟩ := dqa_cons.mp h
    have : e = d := by simpa using hi
    subst this
    exact ⟨v, rfl, h1⟩
  | e :: ds, _, i + 1, d, h, hi => by
    obtain ⟨v, vs, rfl, h1, h2⟩ := dqa_cons.mp h
    obtain ⟨u, q1, q2⟩ := DqAll.get (i := i) h2 (by simpa using hi)
    exact ⟨u, by simpa using q1, q2⟩
theorem DqAll.get' {B : Hp} : ∀ {ds : List PyData} {xs : List V} {i : Nat} {v : V}, DqAll K B ds xs → xs[i]? = some v → ∃ d, ds[i]? = some d ∧ Dq K B d v
  | [], _, _, _, h, hi => by rw [dqa_nil.mp h] at hi; simp at hi
  | e :: ds, _, 0, v, h, hi => by
    obtain ⟨u, vs, rfl, h1, h2⟩ := dqa_cons.mp h
    have : u = v := by simpa using hi
    subst this
    exact ⟨e, rfl, h1⟩
  | e :: ds, _, i + 1, v, h, hi => by
    obtain ⟨u, vs, rfl, h1, h2⟩ := dqa_cons.mp h
    obtain ⟨d, q1, q2⟩ := DqAll.get' (i := i) h2 (by simpa using hi)
    exact ⟨d, by simpa using q1, q2⟩
theorem DqAll.append {B : Hp} : ∀ {ds es : List PyData} {xs ys : List V}, DqAll K B ds xs → DqAll K B es ys → DqAll K B (ds ++ es) (xs ++ ys)
  | [], _, _, _, h, k => by rw [dqa_nil.mp h]; exact k
  | d :: ds, _, _, _, h, k => by
    obtain ⟨v, vs, rfl, h1, h2⟩ := dqa_cons.mp h
    exact dqa_cons.mpr ⟨v, _, rfl, h1, DqAll.append h2 k⟩
theorem DqAll.one {B : Hp} {d : PyData} {v : V} (h : Dq K B d v) : DqAll K B [d] [v] := dqa_cons.mpr ⟨v, [], rfl, h, dqa_nil.mpr rfl⟩
theorem DqAll.drop {B : Hp} : ∀ {ds : List PyData} {xs : List V} (n : Nat), DqAll K B ds xs → DqAll K B (ds.drop n) (xs.drop n)
  | _, _, 0, h => h
  | [], _, n + 1, h => by rw [dqa_nil.mp h]; exact dqa_nil.mpr rfl
  | d :: ds, _, n + 1, h => by
    obtain ⟨v, vs, rfl, h1, h2⟩ := dqa_cons.mp h
    exact DqAll.drop n h2
theorem DqAll.take {B : Hp} : ∀ {ds : List PyData} {xs : List V} (n : Nat), DqAll K B ds xs → DqAll K B (ds.take n) (xs.take n)
  | _, _, 0, h => dqa_nil.mpr rfl
  | [], _, n + 1, h => by rw [dqa_nil.mp h]; exact dqa_nil.mpr rfl
  | d :: ds, _, n + 1, h => by
    obtain ⟨v, vs, rfl, h1, h2⟩ := dqa_cons.mp h
    exact dqa_cons.mpr ⟨v, _, rfl, h1, DqAll.take n h2⟩
theorem DqAll.ints {B : Hp} : ∀ (ns : List Int), DqAll K B (ns.map PyData.int) (ns.map V.int)
  | [] => dqa_nil.mpr rfl
  | n :: ns => dqa_cons.mpr ⟨_, _, rfl, dq_int.mpr rfl, DqAll.ints ns⟩
mutual
/-- no script in it -/
def noS : PyData → Bool
  | .list ds => noSAll ds
  | .tuple ds => noSAll ds
  | .dict _ => false
  | .none => true
  | .bool _ => true
  | .int _ => true
  | .str _ => true
def noSAll : List PyData → Bool
  | [] => true
  | d :: ds => noS d && noSAll ds
end
mutual
theorem Dq.dp {B H : Hp} (e : Ex B H) : ∀ {d : PyData} {v : V}, d.canLay0 = true → Dq K B d v → Dp K H v d
  | .none, _, _, h => by rw [dq_none.mp h]; exact .non
  | .bool _, _, _, h => by rw [dq_bool.mp h]; exact .bl _
  | .int _, _, _, h => by rw [dq_int.mp h]; exact .int _
  | .str _, _, _, h => by rw [dq_str.mp h]; exact .str _
  | .list ds, _, c, h => by
    obtain ⟨a, xs, rfl, h1, h2⟩ := dq_list.mp h
    exact .lst (sq_of (e _ _ h1)) (DqAll.dp e (by unfold PyData.canLay0 at c; exact c) h2)
  | .tuple ds, _, c, h => by
    obtain ⟨a, xs, rfl, h1, h2⟩ := dq_tuple.mp h
    exact .tup (st_of (e _ _ h1)) (DqAll.dp e (by unfold PyData.canLay0 at c; exact c) h2)
  | .dict kvs, _, c, h => by
    unfold PyData.canLay0 at c
    cases c
theorem DqAll.dp {B H : Hp} (e : Ex B H) : ∀ {ds : List PyData} {vs : List V}, PyData.canLayAll0 ds = true → DqAll K B ds vs → DpAll K H vs ds
  | [], _, _, h => by rw [dqa_nil.mp h]; exact .nil
  | d :: ds, _, c, h => by
    obtain ⟨v, vs, rfl, h1, h2⟩ := dqa_cons.mp h
    unfold PyData.canLayAll0 at c
    have c2 := Bool.and_eq_true_iff.mp c
    exact .cons (Dq.dp e c2.1 h1) (DqAll.dp e c2.2 h2)
end

/-! ### what evaluates to what -/
def EvP (te : TE) (σ : L2.St) (B H : Hp) (P : Hp → V → Prop) : Prop := ∀ B1 H1, Gr B H B1 H1 → ∀ Q : VK, (∀ v B2 H2, Gr B1 H1 B2 H2 → P B2 v → Q v H2) → te σ H1 Q
def EvD (K : PySem.W.Frag) (te : TE) (σ : L2.St) (B H : Hp) (d : PyData) : Prop := EvP te σ B H fun B1 v => Dq K B1 d v
def EvV (te : TE) (σ : L2.St) (B H : Hp) (x : V) : Prop := EvP te σ B H fun _ v => v = x
def EvT (K : PySem.W.Frag) (tt : TT) (σ : L2.St) (B H : Hp) (b : Bool) : Prop := ∀ B1 H1, Gr B H B1 H1 → ∀ Q : Bool → Hp → Prop, (∀ B2 H2, Gr B1 H1 B2 H2 → Q b H2) → tt σ H1 Q
def EvA (ta : TA) (σ : L2.St) (B H : Hp) (P : Hp → List V → Prop) : Prop := ∀ B1 H1, Gr B H B1 H1 → ∀ Q : List V → Hp → Prop, (∀ vs B2 H2, Gr B1 H1 B2 H2 → P B2 vs → Q vs H2) → ta σ H1 Q
def EvO (K : PySem.W.Frag) (to : TO) (σ : L2.St) (B H : Hp) (o : Option Int) : Prop := ∀ B1 H1, Gr B H B1 H1 → ∀ Q : Option Int → Hp → Prop, (∀ B2 H2, Gr B1 H1 B2 H2 → Q o H2) → to σ H1 Q

section
variable {σ : L2.St} {B H B1 H1 : Hp} {ta tb te tx : TE} {t u : TT} {x y z v : V} {r : R2} {d e : PyData} {ds es : List PyData} {i j k : Int} {b c : Bool}
theorem EvP.mono {P : Hp → V → Prop} (g : Gr B H B1 H1) (h : EvP te σ B H P) : EvP te σ B1 H1 P := fun B2 H2 q Q k => h B2 H2 (g.trans q) Q k
theorem EvD.mono (g : Gr B H B1 H1) (h : EvD K te σ B H d) : EvD K te σ B1 H1 d := EvP.mono g h
theorem EvT.mono (g : Gr B H B1 H1) (h : EvT K t σ B H b) : EvT K t σ B1 H1 b := fun B2 H2 q Q k => h B2 H2 (g.trans q) Q k
theorem EvA.mono {tr : TA} {P : Hp → List V → Prop} (g : Gr B H B1 H1) (h : EvA tr σ B H P) : EvA tr σ B1 H1 P := fun B2 H2 q Q k => h B2 H2 (g.trans q) Q k
theorem EvP.imp {P P' : Hp → V → Prop} (h : EvP te σ B H P) (k : ∀ B1 H1 v, Gr B H B1 H1 → P B1 v → P' B1 v) : EvP te σ B H P' := fun B1 H1 g Q q => h B1 H1 g Q fun v B2 H2 g2 p => q v B2 H2 g2 (k B2 H2 v (g.trans g2) p)
theorem EvD.is (h : EvD K te σ B H d) (q : d = e) : EvD K te σ B H e := by rw [← q]; exact h
theorem EvV.is (h : EvV te σ B H x) (q : x = y) : EvV te σ B H y := by rw [← q]; exact h
theorem EvT.is (h : EvT K t σ B H b) (q : b = c) : EvT K t σ B H c := by rw [← q]; exact h
theorem EvD.vI (h : EvD K te σ B H (.int i)) : EvV te σ B H (.int i) := EvP.imp h fun _ _ _ _ p => dq_int.mp p
theorem EvD.vB (h : EvD K te σ B H (.bool b)) : EvV te σ B H (.bl b) := EvP.imp h fun _ _ _ _ p => dq_bool.mp p
theorem EvD.vS {s : Str} (h : EvD K te σ B H (.str s)) : EvV te σ B H (.str s) := EvP.imp h fun _ _ _ _ p => dq_str.mp p
theorem EvD.vN (h : EvD K te σ B H .none) : EvV te σ B H .non := EvP.imp h fun _ _ _ _ p => dq_none.mp p
theorem EvV.dI (h : EvV te σ B H (.int i)) : EvD K te σ B H (.int i) := EvP.imp h fun _ _ _ _ p => dq_int.mpr p
theorem EvV.dB (h : EvV te σ B H (.bl b)) : EvD K te σ B H (.bool b) := EvP.imp h fun _ _ _ _ p => dq_bool.mpr p
theorem EvV.dS {s : Str} (h : EvV te σ B H (.str s)) : EvD K te σ B H (.str s) := EvP.imp h fun _ _ _ _ p => dq_str.mpr p
theorem EvV.dN (h : EvV te σ B H .non) : EvD K te σ B H .none := EvP.imp h fun _ _ _ _ p => dq_none.mpr p
/-- a rule that leaves the heap as it is -/
theorem evp_still {P : Hp → V → Prop} (h : ∀ B1 H1, Gr B H B1 H1 → ∀ Q : VK, (∀ v, P B1 v → Q v H1) → te σ H1 Q) : EvP te σ B H P := fun B1 H1 g Q q => h B1 H1 g Q fun v p => q v B1 H1 g.le p
theorem ev_c : EvV (tC x) σ B H x := fun B1 H1 g Q q => q _ B1 H1 g.le rfl
theorem evd_cI : EvD K (tC (.int i)) σ B H (.int i) := ev_c.dI
theorem evd_cB : EvD K (tC (.bl b)) σ B H (.bool b) := ev_c.dB
theorem evd_cS {s : Str} : EvD K (tC (.str s)) σ B H (.str s) := ev_c.dS
theorem evd_cN : EvD K (tC .non) σ B H .none := ev_c.dN
theorem ev_var {n : Nat} (h : σ[n]? = some (some x)) : EvV (tVar n) σ B H x := fun B1 H1 g Q q => ⟨x, h, q _ B1 H1 g.le rfl⟩
theorem evd_vI {n : Nat} (h : σ[n]? = some (some (.int i))) : EvD K (tVar n) σ B H (.int i) := (ev_var h).dI
theorem evd_vB {n : Nat} (h : σ[n]? = some (some (.bl b))) : EvD K (tVar n) σ B H (.bool b) := (ev_var h).dB
theorem evd_vS {n : Nat} {s : Str} (h : σ[n]? = some (some (.str s))) : EvD K (tVar n) σ B H (.str s) := (ev_var h).dS
theorem evd_vN {n : Nat} (h : σ[n]? = some (some .non)) : EvD K (tVar n) σ B H .none := (ev_var h).dN
theorem evd_v {n : Nat} (h : σ[n]? = some (some x)) (hd : Dq K B d x) : EvD K (tVar n) σ B H d := fun B1 H1 g Q q => ⟨x, h, q _ B1 H1 g.le (hd.mono g.bb)⟩
/-- two operands -/
theorem evp_op {P : Hp → V → Prop} {P1 P2 : Hp → V → Prop} (ha : EvP ta σ B H P1) (hb : EvP tb σ B H P2) (m1 : ∀ B1 B2 v, Ex B1 B2 → P1 B1 v → P1 B2 v)
    (hr : ∀ x y B1 H1, Gr B H B1 H1 → P1 B1 x → P2 B1 y → ∀ Q : VK, (∀ v B2 H2, Gr B1 H1 B2 H2 → P B2 v → Q v H2) → r x y H1 Q) : EvP (tOp r ta tb) σ B H P := fun B1 H1 g Q q =>
  ha B1 H1 g _ fun x B2 H2 g2 p1 => hb B2 H2 (g.trans g2) _ fun y B3 H3 g3 p2 => hr x y B3 H3 ((g.trans g2).trans g3) (m1 _ _ _ g3.bb p1) p2 Q fun v B4 H4 g4 p => q v B4 H4 ((g2.trans g3).trans g4) p
theorem evd_op (ha : EvD K ta σ B H d) (hb : EvD K tb σ B H e) {f : PyData}
    (hr : ∀ x y B1 H1, Gr B H B1 H1 → Dq K B1 d x → Dq K B1 e y → ∀ Q : VK, (∀ v B2 H2, Gr B1 H1 B2 H2 → Dq K B2 f v → Q v H2) → r x y H1 Q) : EvD K (tOp r ta tb) σ B H f :=
  evp_op ha hb (fun _ _ _ e p => p.mono e) hr
theorem evd_I0 {g : Int → Int → V} {m : Int} (ha : EvD K ta σ B H (.int i)) (hb : EvD K tb σ B H (.int j)) (hg : g i j = .int m) : EvD K (tOp (rI0 g) ta tb) σ B H (.int m) :=
  evd_op ha hb fun x y B1 H1 gr h1 h2 Q q => ⟨i, j, dq_int.mp h1, dq_int.mp h2, q _ B1 H1 gr.le (dq_int.mpr hg)⟩
theorem evd_B0 {g : Int → Int → V} {m : Bool} (ha : EvD K ta σ B H (.int i)) (hb : EvD K tb σ B H (.int j)) (hg : g i j = .bl m) : EvD K (tOp (rI0 g) ta tb) σ B H (.bool m) :=
  evd_op ha hb fun x y B1 H1 gr h1 h2 Q q => ⟨i, j, dq_int.mp h1, dq_int.mp h2, q _ B1 H1 gr.le (dq_bool.mpr hg)⟩
theorem evd_IC {C : Int → Int → Prop} {g : Int → Int → V} {m : Int} (ha : EvD K ta σ B H (.int i)) (hb : EvD K tb σ B H (.int j)) (hg : g i j = .int m) (hc : C i j) : EvD K (tOp (rI C g) ta tb) σ B H (.int m) :=
  evd_op ha hb fun x y B1 H1 gr h1 h2 Q q => ⟨i, j, dq_int.mp h1, dq_int.mp h2, hc, q _ B1 H1 gr.le (dq_int.mpr hg)⟩
theorem evd_neg (ha : EvD K ta σ B H (.int i)) : EvD K (tUn (rU fun i => .int (-i)) ta) σ B H (.int (-i)) := fun B1 H1 g Q q =>
  ha B1 H1 g _ fun x B2 H2 g2 p => ⟨i, dq_int.mp p, q _ B2 H2 g2 (dq_int.mpr rfl)⟩
theorem evd_eqI (ha : EvD K ta σ B H (.int i)) (hb : EvD K tb σ B H (.int j)) : EvD K (tOp rEq ta tb) σ B H (.bool (decide (i = j))) :=
  evd_op ha hb fun x y B1 H1 gr h1 h2 Q q => by
    rw [dq_int.mp h1, dq_int.mp h2]
    exact ⟨rfl, q _ B1 H1 gr.le (dq_bool.mpr (by rw [dec_int, Bool.beq_eq_decide_eq]))⟩
theorem evd_neI (ha : EvD K ta σ B H (.int i)) (hb : EvD K tb σ B H (.int j)) : EvD K (tOp rNe ta tb) σ B H (.bool (!decide (i = j))) :=
  evd_op ha hb fun x y B1 H1 gr h1 h2 Q q => by
    rw [dq_int.mp h1, dq_int.mp h2]
    exact ⟨rfl, q _ B1 H1 gr.le (dq_bool.mpr (by rw [dec_int, Bool.beq_eq_decide_eq]))⟩
theorem evd_eqB (ha : EvD K ta σ B H (.bool b)) (hb : EvD K tb σ B H (.bool c)) : EvD K (tOp rEq ta tb) σ B H (.bool (b == c)) :=
  evd_op ha hb fun x y B1 H1 gr h1 h2 Q q => by
    rw [dq_bool.mp h1, dq_bool.mp h2]
    exact ⟨rfl, q _ B1 H1 gr.le (dq_bool.mpr (by rw [dec_bl]))⟩
theorem evd_neB (ha : EvD K ta σ B H (.bool b)) (hb : EvD K tb σ B H (.bool c)) : EvD K (tOp rNe ta tb) σ B H (.bool (b != c)) :=
  evd_op ha hb fun x y B1 H1 gr h1 h2 Q q => by
    rw [dq_bool.mp h1, dq_bool.mp h2]
    exact ⟨rfl, q _ B1 H1 gr.le (dq_bool.mpr (by rw [dec_bl]; rfl))⟩
theorem evd_eqS {s s' : Str} (ha : EvD K ta σ B H (.str s)) (hb : EvD K tb σ B H (.str s')) : EvD K (tOp rEq ta tb) σ B H (.bool (s == s')) :=
  evd_op ha hb fun x y B1 H1 gr h1 h2 Q q => by
    rw [dq_str.mp h1, dq_str.mp h2]
    exact ⟨rfl, q _ B1 H1 gr.le (dq_bool.mpr (by rw [dec_str]))⟩
theorem evd_isN (ha : EvD K ta σ B H d) {b : Bool} (hb : ∀ B1 v, Dq K B1 d v → decide (v = .non) = b) : EvD K (tOp (fun x y H Q => y = .non ∧ Q (.bl (decide (x = .non))) H) ta (tC .non)) σ B H (.bool b) :=
  evd_op ha evd_cN fun x y B1 H1 gr h1 h2 Q q => ⟨dq_none.mp h2, q _ B1 H1 gr.le (dq_bool.mpr (by rw [hb _ _ h1]))⟩
theorem evd_eqD (ha : EvD K ta σ B H d) (hb : EvD K tb σ B H e) (s1 : SeqAt.shaped d = true) (s2 : SeqAt.shaped e = true) : EvD K (tOp (rEqD K) ta tb) σ B H (.bool (PyData.eqv d e)) :=
  evd_op ha hb fun x y B1 H1 gr h1 h2 Q q => ⟨d, e, h1.dp gr.bh (SeqAt.canLay_of_shaped s1), h2.dp gr.bh (SeqAt.canLay_of_shaped s2), s1, s2, q _ B1 H1 gr.le (dq_bool.mpr rfl)⟩
theorem evd_neD (ha : EvD K ta σ B H d) (hb : EvD K tb σ B H e) (s1 : SeqAt.shaped d = true) (s2 : SeqAt.shaped e = true) : EvD K (tOp (rNeD K) ta tb) σ B H (.bool (!PyData.eqv d e)) :=
  evd_op ha hb fun x y B1 H1 gr h1 h2 Q q => ⟨d, e, h1.dp gr.bh (SeqAt.canLay_of_shaped s1), h2.dp gr.bh (SeqAt.canLay_of_shaped s2), s1, s2, q _ B1 H1 gr.le (dq_bool.mpr rfl)⟩
theorem atI_all {B : Hp} {xs : List V} (h : DqAll K B ds xs) (hi : atI ds i = some d) : ∃ v, atI xs i = some v ∧ Dq K B d v := by
  unfold atI at hi ⊢
  rw [h.len]
  cases e : ixN ds.length i with
  | none =>
    rw [e] at hi
    cases hi
  | some n =>
    rw [e] at hi
    exact h.get hi
theorem evd_ixL (ha : EvD K ta σ B H (.list ds)) (hb : EvD K tb σ B H (.int i)) (hi : atI ds i = some d) : EvD K (tOp (rIxL K) ta tb) σ B H d :=
  evd_op ha hb fun x y B1 H1 gr h1 h2 Q q => by
    obtain ⟨a, xs, rfl, q1, q2⟩ := dq_list.mp h1
    obtain ⟨v, q3, q4⟩ := atI_all q2 hi
    exact ⟨a, xs, i, v, rfl, dq_int.mp h2, sq_of (gr.bh _ _ q1), q3, q v B1 H1 gr.le q4⟩
theorem evd_ixT (ha : EvD K ta σ B H (.tuple ds)) (hb : EvD K tb σ B H (.int i)) (hi : atI ds i = some d) : EvD K (tOp (rIxT K) ta tb) σ B H d :=
  evd_op ha hb fun x y B1 H1 gr h1 h2 Q q => by
    obtain ⟨a, xs, rfl, q1, q2⟩ := dq_tuple.mp h1
    obtain ⟨v, q3, q4⟩ := atI_all q2 hi
    exact ⟨a, xs, i, v, rfl, dq_int.mp h2, st_of (gr.bh _ _ q1), q3, q v B1 H1 gr.le q4⟩
theorem evd_ixS {s : Str} {n : Nat} (ha : EvD K ta σ B H (.str s)) (hb : EvD K tb σ B H (.int i)) (hl : s.length ≤ 100000) (hi : atI s.cps.toList i = some n) : EvD K (tOp rIxS ta tb) σ B H (.str ⟨#[n]⟩) :=
  evd_op ha hb fun x y B1 H1 gr h1 h2 Q q => ⟨s, i, n, dq_str.mp h1, dq_int.mp h2, sz_of hl, hi, q _ B1 H1 gr.le (dq_str.mpr rfl)⟩
/-- an item of the script -/
def scr (ns : List Int) : PyData := .dict (ns.map fun n => (.int n, .none))
theorem dq_scr {ns : List Int} : Dq K B (scr ns) v ↔ ∃ a, v = .ref a ∧ SqL K B a (ns.map V.int) := by
  unfold scr
  rw [Dq, List.map_map]
  exact Iff.rfl
theorem evd_ixSc {ns : List Int} {m : Int} (ha : EvD K ta σ B H (scr ns)) (hb : EvD K tb σ B H (.int i)) (hi : atI ns i = some m) : EvD K (tOp (rIxL K) ta tb) σ B H (.int m) :=
  evd_op ha hb fun x y B1 H1 gr h1 h2 Q q => by
    obtain ⟨a, rfl, q1⟩ := dq_scr.mp h1
    refine ⟨a, _, i, .int m, rfl, dq_int.mp h2, ex_l gr.bh q1, ?_, q _ B1 H1 gr.le (dq_int.mpr rfl)⟩
    unfold atI at hi ⊢
    rw [List.length_map]
    cases e : ixN ns.length i with
    | none =>
      rw [e] at hi
      cases hi
    | some n =>
      rw [e] at hi
      have hi : ns[n]? = some m := hi
      show (ns.map V.int)[n]? = some (V.int m)
      rw [List.getElem?_map, hi]
      rfl
/-- arguments -/
theorem ea_nil : EvA tNil σ B H fun B1 vs => DqAll K B1 [] vs := fun B1 H1 g Q q => q [] B1 H1 g.le (dqa_nil.mpr rfl)
theorem ea_cons {tr : TA} (h : EvD K ta σ B H d) (hr : EvA tr σ B H fun B1 vs => DqAll K B1 ds vs) : EvA (tCons ta tr) σ B H fun B1 vs => DqAll K B1 (d :: ds) vs := fun B1 H1 g Q q =>
  h B1 H1 g _ fun x B2 H2 g2 p => hr B2 H2 (g.trans g2) _ fun vs B3 H3 g3 p2 => q _ B3 H3 (g2.trans g3) (dqa_cons.mpr ⟨x, vs, rfl, p.mono g3.bb, p2⟩)
theorem evd_lst {tr : TA} (h : EvA tr σ B H fun B1 vs => DqAll K B1 ds vs) (hl : ds.length ≤ 100000) : EvD K (tLst tr) σ B H (.list ds) := fun B1 H1 g Q q =>
  h B1 H1 g _ fun xs B2 H2 g2 p => ⟨sz_of (by rw [p.len]; exact hl), fun l hl => q _ _ _ (g2.trans (Gr.new g2.bh hl)) (dq_list.mpr ⟨l, xs, rfl, upd_same, p.mono (Ex.new (ex_none g2.bh hl))⟩)⟩
theorem evd_tup {tr : TA} (h : EvA tr σ B H fun B1 vs => DqAll K B1 ds vs) (hl : ds.length ≤ 100000) : EvD K (tTup tr) σ B H (.tuple ds) := fun B1 H1 g Q q =>
  h B1 H1 g _ fun xs B2 H2 g2 p => ⟨sz_of (by rw [p.len]; exact hl), fun l hl => q _ _ _ (g2.trans (Gr.new g2.bh hl)) (dq_tuple.mpr ⟨l, xs, rfl, upd_same, p.mono (Ex.new (ex_none g2.bh hl))⟩)⟩
theorem evd_cb {r : List V → Hp → VK → Prop} {tr : TA} {f : PyData} (h : EvA tr σ B H fun B1 vs => DqAll K B1 ds vs) (hr : ∀ vs B1 H1, Gr B H B1 H1 → DqAll K B1 ds vs → ∀ Q : VK, (∀ v B2 H2, Gr B1 H1 B2 H2 → Dq K B2 f v → Q v H2) → r vs H1 Q) : EvD K (tCB r tr) σ B H f := fun B1 H1 g Q q =>
  h B1 H1 g _ fun vs B2 H2 g2 p => hr vs B2 H2 (g.trans g2) p Q fun v B3 H3 g3 p3 => q v B3 H3 (g2.trans g3) p3
theorem evd_list (h : EvD K ta σ B H (.list ds)) : EvD K (tCB (rListS K) (tCons ta tNil)) σ B H (.list ds) := evd_cb (ea_cons h ea_nil) fun vs B1 H1 g p Q q => by
  obtain ⟨v, vs', rfl, p1, p2⟩ := dqa_cons.mp p
  cases dqa_nil.mp p2
  obtain ⟨a, xs, rfl, q1, q2⟩ := dq_list.mp p1
  exact ⟨a, xs, rfl, .inl (sq_of (g.bh _ _ q1)), fun l hl => q _ _ _ (Gr.new g.bh hl) (dq_list.mpr ⟨l, xs, rfl, upd_same, q2.mono (Ex.new (ex_none g.bh hl))⟩)⟩
theorem evd_len (h : EvD K ta σ B H (.list ds)) : EvD K (tCB (rLenS K) (tCons ta tNil)) σ B H (.int (ds.length : Int)) := evd_cb (ea_cons h ea_nil) fun vs B1 H1 g p Q q => by
  obtain ⟨v, vs', rfl, p1, p2⟩ := dqa_cons.mp p
  cases dqa_nil.mp p2
  obtain ⟨a, xs, rfl, q1, q2⟩ := dq_list.mp p1
  exact ⟨a, xs, rfl, .inl (sq_of (g.bh _ _ q1)), q _ B1 H1 g.le (dq_int.mpr (by rw [q2.len]))⟩
theorem evd_lenT (h : EvD K ta σ B H (.tuple ds)) : EvD K (tCB (rLenS K) (tCons ta tNil)) σ B H (.int (ds.length : Int)) := evd_cb (ea_cons h ea_nil) fun vs B1 H1 g p Q q => by
  obtain ⟨v, vs', rfl, p1, p2⟩ := dqa_cons.mp p
  cases dqa_nil.mp p2
  obtain ⟨a, xs, rfl, q1, q2⟩ := dq_tuple.mp p1
  exact ⟨a, xs, rfl, .inr (st_of (g.bh _ _ q1)), q _ B1 H1 g.le (dq_int.mpr (by rw [q2.len]))⟩
theorem evd_lenSc {ns : List Int} (h : EvD K ta σ B H (scr ns)) : EvD K (tCB (rLenS K) (tCons ta tNil)) σ B H (.int (ns.length : Int)) := evd_cb (ea_cons h ea_nil) fun vs B1 H1 g p Q q => by
  obtain ⟨v, vs', rfl, p1, p2⟩ := dqa_cons.mp p
  cases dqa_nil.mp p2
  obtain ⟨a, rfl, q1⟩ := dq_scr.mp p1
  exact ⟨a, _, rfl, .inl (ex_l g.bh q1), q _ B1 H1 g.le (dq_int.mpr (by rw [List.length_map]))⟩
/-- isinstance of data -/
def dTy : PyData → String
  | .none => "NoneType"
  | .bool _ => "bool"
  | .int _ => "int"
  | .str _ => "str"
  | .list _ => "list"
  | .tuple _ => "tuple"
  | .dict _ => "?"
theorem Dq.ty {B H : Hp} (g : Ex B H) {T : String} (hT : dTy d = T) (hn : T ≠ "?") (h : Dq K B d v) : TyX K H v (.type T) := by
  subst hT
  cases d with
  | none => rw [dq_none.mp h]; exact .base .non
  | bool b => rw [dq_bool.mp h]; exact .base (.bl b)
  | int b => rw [dq_int.mp h]; exact .base (.int b)
  | str b => rw [dq_str.mp h]; exact .base (.str b)
  | list ds =>
    obtain ⟨a, xs, rfl, q1, _⟩ := dq_list.mp h
    exact .base (.lst (g _ _ q1))
  | tuple ds =>
    obtain ⟨a, xs, rfl, q1, _⟩ := dq_tuple.mp h
    exact .base (.tup (g _ _ q1))
  | dict kvs => exact absurd rfl hn
theorem evd_isi {T T2 : String} (h : EvD K ta σ B H d) (hk : kitB T T2 = some b) (hT : dTy d = T := by rfl) (hn : T ≠ "?" := by decide) : EvD K (tCB (rIsi K) (tCons ta (tCons (tC (.ty T2)) tNil))) σ B H (.bool b) := fun B1 H1 g Q q =>
  h B1 H1 g _ fun x B2 H2 g2 p => ⟨x, .ty T2, .type T, .type T2, b, rfl, .ty T2, p.ty g2.bh hT hn, kit_ty hk, q _ B2 H2 g2 (dq_bool.mpr rfl)⟩
/-- and, or, not; if -/
theorem evd_andV (h1 : EvD K ta σ B H (.bool b)) (h2 : b = true → EvD K tb σ B H (.bool c)) : EvD K (tAndV ta tb) σ B H (.bool (b && c)) := fun B1 H1 g Q q =>
  h1 B1 H1 g _ fun x B2 H2 g2 p => ⟨b, dq_bool.mp p, by
    cases b with
    | true => exact h2 rfl B2 H2 (g.trans g2) Q fun v B3 H3 g3 p3 => q v B3 H3 (g2.trans g3) p3
    | false => exact q _ B2 H2 g2 (dq_bool.mpr rfl)⟩
theorem evd_andV0 (h1 : EvD K ta σ B H (.bool false)) : EvD K (tAndV ta tb) σ B H (.bool false) := EvD.is (evd_andV (c := false) h1 fun z => nomatch z) rfl
theorem evd_andV1 (h1 : EvD K ta σ B H (.bool true)) (h2 : EvD K tb σ B H (.bool c)) : EvD K (tAndV ta tb) σ B H (.bool c) := EvD.is (evd_andV h1 fun _ => h2) rfl
theorem et_and1 (h1 : EvT K t σ B H true) (h2 : EvT K u σ B H c) : EvT K (tAnd t u) σ B H c := fun B1 H1 g Q q => h1 B1 H1 g _ fun B2 H2 g2 => h2 B2 H2 (g.trans g2) Q fun B3 H3 g3 => q B3 H3 (g2.trans g3)
theorem et_or0 (h1 : EvT K t σ B H false) (h2 : EvT K u σ B H c) : EvT K (tOr t u) σ B H c := fun B1 H1 g Q q => h1 B1 H1 g _ fun B2 H2 g2 => h2 B2 H2 (g.trans g2) Q fun B3 H3 g3 => q B3 H3 (g2.trans g3)
theorem evd_orV (h1 : EvD K ta σ B H (.bool b)) (h2 : b = false → EvD K tb σ B H (.bool c)) : EvD K (tOrV ta tb) σ B H (.bool (b || c)) := fun B1 H1 g Q q =>
  h1 B1 H1 g _ fun x B2 H2 g2 p => ⟨b, dq_bool.mp p, by
    cases b with
    | false => exact h2 rfl B2 H2 (g.trans g2) Q fun v B3 H3 g3 p3 => q v B3 H3 (g2.trans g3) p3
    | true => exact q _ B2 H2 g2 (dq_bool.mpr rfl)⟩
theorem evd_notV (h1 : EvD K ta σ B H (.bool b)) : EvD K (tNotV ta) σ B H (.bool (!b)) := fun B1 H1 g Q q =>
  h1 B1 H1 g _ fun x B2 H2 g2 p => ⟨b, dq_bool.mp p, q _ B2 H2 g2 (dq_bool.mpr rfl)⟩
theorem evd_if (h : EvT K t σ B H b) (h1 : b = true → EvD K ta σ B H d) (h2 : b = false → EvD K tb σ B H d) : EvD K (tIf t ta tb) σ B H d := fun B1 H1 g Q q =>
  h B1 H1 g _ fun B2 H2 g2 => by
    cases b with
    | true => exact h1 rfl B2 H2 (g.trans g2) Q fun v B3 H3 g3 p3 => q v B3 H3 (g2.trans g3) p3
    | false => exact h2 rfl B2 H2 (g.trans g2) Q fun v B3 H3 g3 p3 => q v B3 H3 (g2.trans g3) p3
theorem et_test (h : EvD K te σ B H (.bool b)) : EvT K (tTest te) σ B H b := fun B1 H1 g Q q => h B1 H1 g _ fun x B2 H2 g2 p => ⟨b, dq_bool.mp p, q B2 H2 g2⟩
theorem et_B (h : EvD K te σ B H (.bool b)) : EvT K (tB te) σ B H b := fun B1 H1 g Q q => h B1 H1 g _ fun x B2 H2 g2 p => ⟨b, dq_bool.mp p, q B2 H2 g2⟩
theorem et_and (h1 : EvT K t σ B H b) (h2 : b = true → EvT K u σ B H c) : EvT K (tAnd t u) σ B H (b && c) := fun B1 H1 g Q q => h1 B1 H1 g _ fun B2 H2 g2 => by
  cases b with
  | true => exact h2 rfl B2 H2 (g.trans g2) Q fun B3 H3 g3 => q B3 H3 (g2.trans g3)
  | false => exact q B2 H2 g2
theorem et_or (h1 : EvT K t σ B H b) (h2 : b = false → EvT K u σ B H c) : EvT K (tOr t u) σ B H (b || c) := fun B1 H1 g Q q => h1 B1 H1 g _ fun B2 H2 g2 => by
  cases b with
  | false => exact h2 rfl B2 H2 (g.trans g2) Q fun B3 H3 g3 => q B3 H3 (g2.trans g3)
  | true => exact q B2 H2 g2
theorem et_not (h1 : EvT K t σ B H b) : EvT K (tNot t) σ B H (!b) := fun B1 H1 g Q q => h1 B1 H1 g _ fun B2 H2 g2 => q B2 H2 g2
theorem et_truL (h : EvD K ta σ B H (.list ds)) : EvT K (fun σ H Q => ta σ H fun x H' => ∃ k, TruV K x H' k ∧ Q k H') σ B H (!ds.isEmpty) := fun B1 H1 g Q q => h B1 H1 g _ fun x B2 H2 g2 p => by
  obtain ⟨a, xs, rfl, q1, q2⟩ := dq_list.mp p
  refine ⟨!ds.isEmpty, .inl ⟨xs, sq_of (g2.bh _ _ q1), ?_⟩, q B2 H2 g2⟩
  have := q2.len
  cases xs with
  | nil => cases ds with
    | nil => rfl
    | cons d ds => simp at this
  | cons x xs => cases ds with
    | nil => simp at this
    | cons d ds => rfl
theorem eo_none : EvO K tNoPart σ B H none := fun B1 H1 g Q q => q B1 H1 g.le
theorem eo_some (h : EvD K te σ B H (.int i)) : EvO K (tPart te) σ B H (some i) := fun B1 H1 g Q q => h B1 H1 g _ fun x B2 H2 g2 p => ⟨i, dq_int.mp p, q B2 H2 g2⟩
def cutD (xs : List PyData) (lo hi : Option Int) : List PyData := (xs.drop (HT.sIx xs.length 0 lo)).take (HT.sIx xs.length xs.length hi - HT.sIx xs.length 0 lo)
theorem evd_sl {tl th : TO} {lo hi : Option Int} (h : EvD K te σ B H (.list ds)) (h1 : EvO K tl σ B H lo) (h2 : EvO K th σ B H hi) : EvD K (tSl (rSlL K) te tl th) σ B H (.list (cutD ds lo hi)) := fun B1 H1 g Q q =>
  h B1 H1 g _ fun x B2 H2 g2 p => h1 B2 H2 (g.trans g2) _ fun B3 H3 g3 => h2 B3 H3 ((g.trans g2).trans g3) _ fun B4 H4 g4 => by
    obtain ⟨a, xs, rfl, q1, q2⟩ := dq_list.mp p
    refine ⟨a, xs, rfl, sq_of (g4.bh _ _ (g4.bb _ _ (g3.bb _ _ q1))), fun l hl => q _ _ _ ((g2.trans (g3.trans g4)).trans (Gr.new g4.bh hl)) (dq_list.mpr ⟨l, _, rfl, upd_same, ?_⟩)⟩
    unfold cutV cutD
    rw [q2.len]
    exact ((q2.mono (g3.bb.trans (g4.bb.trans (Ex.new (ex_none g4.bh hl))))).drop _).take _
theorem evd_cat (ha : EvD K ta σ B H (.list ds)) (hb : EvD K tb σ B H (.list es)) (hl : ds.length + es.length ≤ 100000) : EvD K (tOp rCat ta tb) σ B H (.list (ds ++ es)) :=
  evd_op ha hb fun x y B1 H1 gr h1 h2 Q q => by
    obtain ⟨a, xs, rfl, q1, q2⟩ := dq_list.mp h1
    obtain ⟨b, ys, rfl, q3, q4⟩ := dq_list.mp h2
    exact ⟨a, b, xs, ys, rfl, rfl, gr.bh _ _ q1, gr.bh _ _ q3, sz_of (by rw [q2.len, q4.len]; exact hl), fun l hl => q _ _ _ (Gr.new gr.bh hl)
      (dq_list.mpr ⟨l, _, rfl, upd_same, (q2.append q4).mono (Ex.new (ex_none gr.bh hl))⟩)⟩
theorem evd_addS {s s' : Str} (ha : EvD K ta σ B H (.str s)) (hb : EvD K tb σ B H (.str s')) (hl : s.length + s'.length ≤ 100000) :
    EvD K (tOp (fun x y H Q => ∃ i j, x = .str i ∧ y = .str j ∧ i.length + j.length ≤ sizeLine ∧ Q (.str (i ++ j)) H) ta tb) σ B H (.str (s ++ s')) :=
  evd_op ha hb fun x y B1 H1 gr h1 h2 Q q => ⟨s, s', dq_str.mp h1, dq_str.mp h2, sz_of hl, q _ B1 H1 gr.le (dq_str.mpr rfl)⟩

/-! ### calls of defs that change nothing -/
def spD (K : PySem.W.Frag) (R : List PyData → PyData → Prop) : Sp := fun vs H Q _ => ∃ B ds d, Ex B H ∧ DqAll K B ds vs ∧ R ds d ∧ ∀ v B1 H1, Gr B H B1 H1 → Dq K B1 d v → Q v H1
theorem evd_call {R : List PyData → PyData → Prop} {tr : TA} {E : XK} (h : EvA tr σ B H fun B1 vs => DqAll K B1 ds vs) (hr : R ds d) : EvD K (tCall (spD K R) [] E tr) σ B H d := fun B1 H1 g Q q =>
  h B1 H1 g _ fun vs B2 H2 g2 p => ⟨B2, ds, d, g2.bh, by rw [List.append_nil]; exact p, hr, fun v B3 H3 g3 p3 => q v B3 H3 (g2.trans g3) p3⟩

/-! ### statements -/
variable {D : Ends} {tu tw tz : TS} {n : Nat}
theorem s_asgD (g0 : Ex B H) (h : EvD K te σ B H d) (k : ∀ v B1 H1, Gr B H B1 H1 → Dq K B1 d v → D.nx (σ.set n (some v)) H1) : tAsg te (gName n) D σ H := h B H (Gr.refl g0) _ k
theorem s_asgI (g0 : Ex B H) (h : EvD K te σ B H (.int i)) (k : ∀ B1 H1, Gr B H B1 H1 → D.nx (σ.set n (some (.int i))) H1) : tAsg te (gName n) D σ H := s_asgD g0 h fun v B1 H1 g p => by rw [dq_int.mp p]; exact k B1 H1 g
theorem s_asgB (g0 : Ex B H) (h : EvD K te σ B H (.bool b)) (k : ∀ B1 H1, Gr B H B1 H1 → D.nx (σ.set n (some (.bl b))) H1) : tAsg te (gName n) D σ H := s_asgD g0 h fun v B1 H1 g p => by rw [dq_bool.mp p]; exact k B1 H1 g
theorem s_asgS {s : Str} (g0 : Ex B H) (h : EvD K te σ B H (.str s)) (k : ∀ B1 H1, Gr B H B1 H1 → D.nx (σ.set n (some (.str s))) H1) : tAsg te (gName n) D σ H := s_asgD g0 h fun v B1 H1 g p => by rw [dq_str.mp p]; exact k B1 H1 g
theorem q_asgD (g0 : Ex B H) (h : EvD K te σ B H d) (k : ∀ v B1 H1, Gr B H B1 H1 → Dq K B1 d v → tz D (σ.set n (some v)) H1) : tSeq (tAsg te (gName n)) tz D σ H := s_asgD (D := { D with nx := tz D }) g0 h k
theorem q_asgI (g0 : Ex B H) (h : EvD K te σ B H (.int i)) (k : ∀ B1 H1, Gr B H B1 H1 → tz D (σ.set n (some (.int i))) H1) : tSeq (tAsg te (gName n)) tz D σ H := s_asgI (D := { D with nx := tz D }) g0 h k
theorem q_asgB (g0 : Ex B H) (h : EvD K te σ B H (.bool b)) (k : ∀ B1 H1, Gr B H B1 H1 → tz D (σ.set n (some (.bl b))) H1) : tSeq (tAsg te (gName n)) tz D σ H := s_asgB (D := { D with nx := tz D }) g0 h k
theorem q_asgS {s : Str} (g0 : Ex B H) (h : EvD K te σ B H (.str s)) (k : ∀ B1 H1, Gr B H B1 H1 → tz D (σ.set n (some (.str s))) H1) : tSeq (tAsg te (gName n)) tz D σ H := s_asgS (D := { D with nx := tz D }) g0 h k
theorem s_ret (g0 : Ex B H) (h : EvD K te σ B H d) (k : ∀ v B1 H1, Gr B H B1 H1 → Dq K B1 d v → D.rt v H1) : tRet te D σ H := h B H (Gr.refl g0) _ k
theorem s_if (g0 : Ex B H) (h : EvT K t σ B H b) (h1 : b = true → ∀ B1 H1, Gr B H B1 H1 → tu D σ H1) (h2 : b = false → ∀ B1 H1, Gr B H B1 H1 → tw D σ H1) : tIfS t tu tw D σ H := h B H (Gr.refl g0) _ fun B1 H1 g => by
  cases b with
  | true => exact h1 rfl B1 H1 g
  | false => exact h2 rfl B1 H1 g
theorem q_if (g0 : Ex B H) (h : EvT K t σ B H b) (h1 : b = true → ∀ B1 H1, Gr B H B1 H1 → tu { D with nx := tz D } σ H1) (h2 : b = false → ∀ B1 H1, Gr B H B1 H1 → tw { D with nx := tz D } σ H1) : tSeq (tIfS t tu tw) tz D σ H := s_if (D := { D with nx := tz D }) g0 h h1 h2
/-- an if without else -/
theorem q_when (g0 : Ex B H) (h : EvT K t σ B H b) (h1 : b = true → ∀ B1 H1, Gr B H B1 H1 → tu { D with nx := tz D } σ H1) (h2 : b = false → ∀ B1 H1, Gr B H B1 H1 → tz D σ H1) : tSeq (tIfS t tu tNext) tz D σ H := s_if (D := { D with nx := tz D }) g0 h h1 h2
theorem s_when (g0 : Ex B H) (h : EvT K t σ B H b) (h1 : b = true → ∀ B1 H1, Gr B H B1 H1 → tu D σ H1) (h2 : b = false → ∀ B1 H1, Gr B H B1 H1 → D.nx σ H1) : tIfS t tu tNext D σ H := s_if g0 h h1 h2
/-- if c: x = e, an int; told by the value that x has behind it -/
theorem q_ifI (g0 : Ex B H) (h : EvT K t σ B H b) (h1 : b = true → EvD K te σ B H (.int i)) (h2 : b = false → σ.set n (some (.int i)) = σ) (k : ∀ B1 H1, Gr B H B1 H1 → tz D (σ.set n (some (.int i))) H1) : tSeq (tIfS t (tAsg te (gName n)) tNext) tz D σ H :=
  q_when g0 h (fun hb B1 H1 g => s_asgI (D := { D with nx := tz D }) g.bh ((h1 hb).mono g) fun B2 H2 g2 => k B2 H2 (g.trans g2)) (fun hb B1 H1 g => by
    have q := k B1 H1 g
    rw [h2 hb] at q
    exact q)
theorem q_drop {P : Hp → V → Prop} (g0 : Ex B H) (h : EvP te σ B H P) (k : ∀ B1 H1, Gr B H B1 H1 → tz D σ H1) : tSeq (tDrop te) tz D σ H := h B H (Gr.refl g0) _ fun _ B1 H1 g _ => k B1 H1 g
theorem s_drop {P : Hp → V → Prop} (g0 : Ex B H) (h : EvP te σ B H P) (k : ∀ B1 H1, Gr B H B1 H1 → D.nx σ H1) : tDrop te D σ H := h B H (Gr.refl g0) _ fun _ B1 H1 g _ => k B1 H1 g
/-- what follows is shown once, from Mid -/
theorem q_mid (Mid : L2.St → Hp → Hp → Prop) (h1 : (∀ σ1 B1 H1, Mid σ1 B1 H1 → tz D σ1 H1) → tSeq tu tz D σ H) (h2 : ∀ σ1 B1 H1, Mid σ1 B1 H1 → tz D σ1 H1) : tSeq tu tz D σ H := h1 h2
theorem evd_chain {tc : TE} {g g' : Int → Int → V} (ha : EvD K ta σ B H (.int i)) (hb : EvD K tb σ B H (.int j)) (hg : g i j = .bl b) (hc : b = true → EvD K tc σ B H (.int k)) (hg' : g' j k = .bl c) :
    EvD K (tChain (rI0 g) (rI0 g') ta tb tc) σ B H (.bool (b && c)) := fun B1 H1 gr Q q =>
  ha B1 H1 gr _ fun x B2 H2 g2 p => hb B2 H2 (gr.trans g2) _ fun y B3 H3 g3 p3 => ⟨i, j, dq_int.mp p, dq_int.mp p3, b, hg, by
    cases b with
    | true => exact hc rfl B3 H3 ((gr.trans g2).trans g3) _ fun z B4 H4 g4 p4 => ⟨j, k, dq_int.mp p3, dq_int.mp p4, q _ B4 H4 ((g2.trans g3).trans g4) (dq_bool.mpr hg')⟩
    | false => exact q _ B3 H3 (g2.trans g3) (dq_bool.mpr rfl)⟩
/-- loops over data; the word speaks of turn, slots, base, heap, and is chosen when the list is there -/
theorem s_forD {tl : TE} {g : TG} (g0 : Ex B H) (h : EvD K tl σ B H (.list ds))
    (k : ∀ B1 H1, Gr B H B1 H1 → ∃ Pv : Nat → L2.St → Hp → Hp → Prop, Pv 0 σ B1 H1 ∧ (∀ i σ' B2 H2, Pv i σ' B2 H2 → Ex B1 B2 ∧ Ex B2 H2) ∧
      (∀ i d v σ' B2 H2, ds[i]? = some d → Dq K B2 d v → Pv i σ' B2 H2 → g v σ' H2 fun σ2 H3 => tu { D with nx := fun σ3 H4 => ∃ B4, Pv (i + 1) σ3 B4 H4, ct := fun σ3 H4 => ∃ B4, Pv (i + 1) σ3 B4 H4, bk := D.nx } σ2 H3) ∧
      (∀ σ' B2 H2, Pv ds.length σ' B2 H2 → D.nx σ' H2)) : tFor (iList K tl) g tu D σ H :=
  h B H (Gr.refl g0) _ fun v B1 H1 g1 p => by
    obtain ⟨a, xs, rfl, q1, q2⟩ := dq_list.mp p
    obtain ⟨Pv, p0, pe, ps, pd⟩ := k B1 H1 g1
    refine ⟨a, rfl, ⟨xs, sq_of (g1.bh _ _ q1)⟩, for_list (fun i σ' H' => ∃ B', Pv i σ' B' H') ⟨B1, p0⟩ (fun i σ' H' hi ⟨B', w⟩ => sq_of ((pe _ _ _ _ w).2 _ _ ((pe _ _ _ _ w).1 _ _ q1))) ?_ ?_⟩
    · rintro i x σ' H' hx ⟨B', w⟩
      obtain ⟨d, e1, e2⟩ := q2.get' hx
      exact ps i d x σ' B' H' e1 (e2.mono (pe _ _ _ _ w).1) w
    · rintro σ' H' ⟨B', w⟩
      rw [q2.len] at w
      exact pd σ' B' H' w
theorem q_forD {tl : TE} {g : TG} (g0 : Ex B H) (h : EvD K tl σ B H (.list ds))
    (k : ∀ B1 H1, Gr B H B1 H1 → ∃ Pv : Nat → L2.St → Hp → Hp → Prop, Pv 0 σ B1 H1 ∧ (∀ i σ' B2 H2, Pv i σ' B2 H2 → Ex B1 B2 ∧ Ex B2 H2) ∧
      (∀ i d v σ' B2 H2, ds[i]? = some d → Dq K B2 d v → Pv i σ' B2 H2 → g v σ' H2 fun σ2 H3 => tu { D with nx := fun σ3 H4 => ∃ B4, Pv (i + 1) σ3 B4 H4, ct := fun σ3 H4 => ∃ B4, Pv (i + 1) σ3 B4 H4, bk := tz D } σ2 H3) ∧
      (∀ σ' B2 H2, Pv ds.length σ' B2 H2 → tz D σ' H2)) : tSeq (tFor (iList K tl) g tu) tz D σ H := s_forD (D := { D with nx := tz D }) g0 h k
theorem s_forR {ta : TA} {m : Int} (g0 : Ex B H) (h : EvA ta σ B H fun B1 vs => DqAll K B1 [.int m] vs) (hm : m ≤ 100000)
    (k : ∀ B1 H1, Gr B H B1 H1 → ∃ Pv : Nat → L2.St → Hp → Hp → Prop, Pv 0 σ B1 H1 ∧
      (∀ (i : Nat) σ' B2 H2, (i : Int) < m → Pv i σ' B2 H2 → tu { D with nx := fun σ3 H4 => ∃ B4, Pv (i + 1) σ3 B4 H4, ct := fun σ3 H4 => ∃ B4, Pv (i + 1) σ3 B4 H4, bk := D.nx } (σ'.set n (some (.int (i : Int)))) H2) ∧
      (∀ σ' B2 H2, Pv m.toNat σ' B2 H2 → D.nx σ' H2)) (hm0 : -100000 ≤ m := by omega) : tFor (iRng1 ta) (gName n) tu D σ H :=
  h B H (Gr.refl g0) _ fun vs B1 H1 g1 p => by
    obtain ⟨v, vs', rfl, e1, e2⟩ := dqa_cons.mp p
    cases dqa_nil.mp e2
    cases dq_int.mp e1
    obtain ⟨Pv, p0, ps, pd⟩ := k B1 H1 g1
    refine ⟨m, rfl, by omega, by omega, for_range (lo := 0) (n := m.toNat) (fun i σ' H' => ∃ B', Pv i σ' B' H') ⟨B1, p0⟩ (fun i σ' H' hi ⟨B', w⟩ => ?_) (fun σ' H' ⟨B', w⟩ => pd σ' B' H' w)⟩
    have e0 : (0 : Int) + (i : Int) = (i : Int) := Int.zero_add _
    show tu _ (σ'.set n (some (.int ((0 : Int) + (i : Int))))) H'
    rw [e0]
    exact ps i σ' B' H' (by omega) w
theorem q_forR {ta : TA} {m : Int} (g0 : Ex B H) (h : EvA ta σ B H fun B1 vs => DqAll K B1 [.int m] vs) (hm : m ≤ 100000)
    (k : ∀ B1 H1, Gr B H B1 H1 → ∃ Pv : Nat → L2.St → Hp → Hp → Prop, Pv 0 σ B1 H1 ∧
      (∀ (i : Nat) σ' B2 H2, (i : Int) < m → Pv i σ' B2 H2 → tu { D with nx := fun σ3 H4 => ∃ B4, Pv (i + 1) σ3 B4 H4, ct := fun σ3 H4 => ∃ B4, Pv (i + 1) σ3 B4 H4, bk := tz D } (σ'.set n (some (.int (i : Int)))) H2) ∧
      (∀ σ' B2 H2, Pv m.toNat σ' B2 H2 → tz D σ' H2)) (hm0 : -100000 ≤ m := by omega) : tSeq (tFor (iRng1 ta) (gName n) tu) tz D σ H := s_forR (D := { D with nx := tz D }) g0 h hm k hm0
theorem s_forR2 {ta : TA} {lo m : Int} (g0 : Ex B H) (h : EvA ta σ B H fun B1 vs => DqAll K B1 [.int lo, .int m] vs) (hm : -100000 ≤ lo ∧ lo ≤ 100000 ∧ -100000 ≤ m ∧ m ≤ 100000)
    (k : ∀ B1 H1, Gr B H B1 H1 → ∃ Pv : Nat → L2.St → Hp → Hp → Prop, Pv 0 σ B1 H1 ∧
      (∀ (i : Nat) σ' B2 H2, lo + (i : Int) < m → Pv i σ' B2 H2 → tu { D with nx := fun σ3 H4 => ∃ B4, Pv (i + 1) σ3 B4 H4, ct := fun σ3 H4 => ∃ B4, Pv (i + 1) σ3 B4 H4, bk := D.nx } (σ'.set n (some (.int (lo + (i : Int))))) H2) ∧
      (∀ σ' B2 H2, Pv (m - lo).toNat σ' B2 H2 → D.nx σ' H2)) : tFor (iRng2 ta) (gName n) tu D σ H :=
  h B H (Gr.refl g0) _ fun vs B1 H1 g1 p => by
    obtain ⟨v, vs', rfl, e1, e2⟩ := dqa_cons.mp p
    obtain ⟨v2, vs2, rfl, e3, e4⟩ := dqa_cons.mp e2
    cases dqa_nil.mp e4
    cases dq_int.mp e1
    cases dq_int.mp e3
    obtain ⟨Pv, p0, ps, pd⟩ := k B1 H1 g1
    exact ⟨lo, m, rfl, ⟨by omega, by omega, by omega, by omega⟩, for_range (lo := lo) (n := (m - lo).toNat) (fun i σ' H' => ∃ B', Pv i σ' B' H') ⟨B1, p0⟩ (fun i σ' H' hi ⟨B', w⟩ => ps i σ' B' H' (by omega) w) (fun σ' H' ⟨B', w⟩ => pd σ' B' H' w)⟩
theorem q_forR2 {ta : TA} {lo m : Int} (g0 : Ex B H) (h : EvA ta σ B H fun B1 vs => DqAll K B1 [.int lo, .int m] vs) (hm : -100000 ≤ lo ∧ lo ≤ 100000 ∧ -100000 ≤ m ∧ m ≤ 100000)
    (k : ∀ B1 H1, Gr B H B1 H1 → ∃ Pv : Nat → L2.St → Hp → Hp → Prop, Pv 0 σ B1 H1 ∧
      (∀ (i : Nat) σ' B2 H2, lo + (i : Int) < m → Pv i σ' B2 H2 → tu { D with nx := fun σ3 H4 => ∃ B4, Pv (i + 1) σ3 B4 H4, ct := fun σ3 H4 => ∃ B4, Pv (i + 1) σ3 B4 H4, bk := tz D } (σ'.set n (some (.int (lo + (i : Int))))) H2) ∧
      (∀ σ' B2 H2, Pv (m - lo).toNat σ' B2 H2 → tz D σ' H2)) : tSeq (tFor (iRng2 ta) (gName n) tu) tz D σ H := s_forR2 (D := { D with nx := tz D }) g0 h hm k
/-- while, by a number that falls -/
theorem s_while (Wv : Nat → L2.St → Hp → Hp → Prop) (m0 : Nat) (h0 : Wv m0 σ B H)
    (hs : ∀ m σ' B1 H1, Wv m σ' B1 H1 → ∃ b, Ex B1 H1 ∧ EvT K t σ' B1 H1 b ∧ (b = true → ∀ B2 H2, Gr B1 H1 B2 H2 → tu { D with nx := fun σ3 H3 => ∃ m' B3, m' < m ∧ Wv m' σ3 B3 H3, ct := fun σ3 H3 => ∃ m' B3, m' < m ∧ Wv m' σ3 B3 H3, bk := D.nx } σ' H2) ∧ (b = false → ∀ B2 H2, Gr B1 H1 B2 H2 → D.nx σ' H2)) : tWhile t tu D σ H :=
  ⟨fun m σ' H' => ∃ B', Wv m σ' B' H', ⟨m0, B, h0⟩, fun m σ' H' ⟨B', w⟩ => by
    obtain ⟨b, e, ht, h1, h2⟩ := hs m σ' B' H' w
    refine ht B' H' (Gr.refl e) _ fun B2 H2 g => ?_
    cases b with
    | true => exact ⟨_, fun σ3 H3 ⟨m', B3, hl, w3⟩ => ⟨m', hl, B3, w3⟩, h1 rfl B2 H2 g⟩
    | false => exact h2 rfl B2 H2 g⟩
theorem q_while (Wv : Nat → L2.St → Hp → Hp → Prop) (m0 : Nat) (h0 : Wv m0 σ B H)
    (hs : ∀ m σ' B1 H1, Wv m σ' B1 H1 → ∃ b, Ex B1 H1 ∧ EvT K t σ' B1 H1 b ∧ (b = true → ∀ B2 H2, Gr B1 H1 B2 H2 → tu { D with nx := fun σ3 H3 => ∃ m' B3, m' < m ∧ Wv m' σ3 B3 H3, ct := fun σ3 H3 => ∃ m' B3, m' < m ∧ Wv m' σ3 B3 H3, bk := tz D } σ' H2) ∧ (b = false → ∀ B2 H2, Gr B1 H1 B2 H2 → tz D σ' H2)) : tSeq (tWhile t tu) tz D σ H := s_while (D := { D with nx := tz D }) Wv m0 h0 hs
/-- x = []: a list that may change -/
theorem q_newL (g0 : Ex B H) (k : ∀ l, H l = none → B l = none → Ex B (upd H l (.lst [])) → tz D (σ.set n (some (.ref l))) (upd H l (.lst []))) : tSeq (tAsg (tLst tNil) (gName n)) tz D σ H :=
  ⟨Nat.zero_le _, fun l hl => k l hl (ex_none g0 hl) (g0.trans (Ex.new hl))⟩
/-- l.append(e) -/
theorem s_app {l : Addr} {xs : List V} (g0 : Ex B H) (hb : B l = none) (hl : H l = some (.lst xs)) (ha : σ[n]? = some (some (.ref l))) (h : EvD K te σ B H d) (hz : xs.length < 100000)
    (k : ∀ v B1 H1, Gr B H B1 H1 → Dq K B1 d v → B1 l = none → Ex B1 (upd H1 l (.lst (xs ++ [v]))) → D.nx σ (upd H1 l (.lst (xs ++ [v])))) : tDrop (tBM K "list" rAppend (tVar n) (tCons te tNil)) D σ H :=
  ⟨_, ha, .inl ⟨rfl, xs, sq_of hl⟩, h B H (Gr.refl g0) _ fun v B1 H1 g p => ⟨l, xs, v, rfl, rfl, g.hh _ _ hl, sz_lt hz, k v B1 H1 g p (g.out hb hl) (Ex.mut g.bh (g.out hb hl))⟩⟩
theorem q_app {l : Addr} {xs : List V} (g0 : Ex B H) (hb : B l = none) (hl : H l = some (.lst xs)) (ha : σ[n]? = some (some (.ref l))) (h : EvD K te σ B H d) (hz : xs.length < 100000)
    (k : ∀ v B1 H1, Gr B H B1 H1 → Dq K B1 d v → B1 l = none → Ex B1 (upd H1 l (.lst (xs ++ [v]))) → tz D σ (upd H1 l (.lst (xs ++ [v])))) : tSeq (tDrop (tBM K "list" rAppend (tVar n) (tCons te tNil))) tz D σ H := s_app (D := { D with nx := tz D }) g0 hb hl ha h hz k
/-- comprehensions over a range, no if: the turn's item f k -/
theorem evd_lcR {ta : TA} {m : Int} {j : Nat} {vs : List Nat} (f : Nat → PyData) (h : EvA ta σ B H fun B1 vs => DqAll K B1 [.int m] vs) (hm : m ≤ 40000) (hw : ∀ x, wipe ((wipe σ vs).set j (some x)) vs = wipe σ vs)
    (he : ∀ (i : Nat) B1 H1, Gr B H B1 H1 → (i : Int) < m → EvD K te ((wipe σ vs).set j (some (.int (i : Int)))) B1 H1 (f i)) (hm0 : -40000 ≤ m := by omega) :
    EvD K (tLc (iRng1 ta) (gName j) tYes te vs) σ B H (.list ((List.range m.toNat).map f)) := fun B0 H0 g Q q =>
  h B0 H0 g _ fun vs' B1 H1 g1 p => by
    obtain ⟨v, vs2, rfl, e1, e2⟩ := dqa_cons.mp p
    cases dqa_nil.mp e2
    cases dq_int.mp e1
    refine ⟨m, rfl, by omega, by omega, fun Dl hD => ?_⟩
    refine lc_range (lo := 0) (n := m.toNat) (fun i H' => ∃ B' acc, Gr B1 H1 B' H' ∧ B' Dl = none ∧ H' Dl = some (.lst acc) ∧ DqAll K B' ((List.range i).map f) acc) ⟨B1, [], Gr.newM g1.bh hD, ex_none g1.bh hD, upd_same, dqa_nil.mpr rfl⟩ ?_ ?_
    · rintro i H' hi ⟨B', acc, gg, b1, b2, b3⟩
      refine ⟨hw _, ?_⟩
      have e0 : (0 : Int) + (i : Int) = (i : Int) := Int.zero_add _
      unfold tYes
      dsimp only
      rw [if_pos rfl, e0]
      refine he i B' H' ((g.trans g1).trans gg) (by omega) B' H' gg.le _ fun v B2 H2 g2 pv => ⟨acc, g2.hh _ _ b2, ?_, B2, _, (gg.trans g2).mut hD (g2.out b1 b2), g2.out b1 b2, upd_same, ?_⟩
      · have := b3.len
        rw [List.length_map, List.length_range] at this
        exact sz_lt (by omega)
      · rw [List.range_succ, List.map_append]
        exact (b3.mono g2.bb).append (DqAll.one pv)
    · rintro H' ⟨B', acc, gg, b1, b2, b3⟩
      exact q _ _ H' (g1.trans (gg.froz hD b1 b2)) (dq_list.mpr ⟨Dl, acc, rfl, upd_same, b3.mono (Ex.new b1)⟩)
end

/-! ### defs of the text -/
structure DefAt (K : PySem.W.Frag) (mg : Str → Option Value) (x : Str) (st : Stmt) (ps : List Str) (f : Addr) (fd : FuncData) : Prop where
  F : Fun K x x st f fd
  b : Binds K fd ps []
  g : mg x = some (.ref f)
structure Callee (P : Program) (w : World) (K : PySem.W.Frag) (mg : Str → Option Value) (base : Heap) (k : Nat) (x : Str) (ps : List Str) (sp : Sp) (f : Addr) (fd : FuncData) : Prop where
  G : FnOk P w K mg base CX0 k f fd ps sp
  kp : PySem.W.keepIn K (.ref f) = true
  b : Binds K fd ps []
  g : mg x = some (.ref f)
section
variable {P : Program} {w : World} {mg : Str → Option Value} {base : Heap} {x : Str} {st : Stmt} {ps N : List Str} {f : Addr} {fd : FuncData} {k : Nat}
theorem DefAt.ok {sp : Sp} (D : DefAt K mg x st ps f fd) (G : FnOk P w K mg base CX0 k f fd ps sp) : Callee P w K mg base k x ps sp f fd := ⟨G, D.F.kp, D.b, D.g⟩
theorem DefAt.run {R : List PyData → PyData → Prop} (D : DefAt K mg x st ps f fd) (S : FnScope N ps (defScope st)) (len : ∀ ds d, R ds d → ds.length = ps.length)
    (body : ∀ (cdv : Value) (A : Around) (outer : List Env) (s : Shared) (B H : Hp) (vs : List V) (ds : List PyData) (d : PyData) (Q : VK) (E : XK), Room k (A.deeper (PyProof.Rows.envOfC x (defScope st) s.heap.objs.size f cdv)) → R ds d → Ex B H → DqAll K B ds vs → (∀ v B1 H1, Gr B H B1 H1 → Dq K B1 d v → Q v H1) →
      ∃ t, PSs (cxOf CX0 P w K mg base N x (defScope st) f cdv A outer s H E).nox (defBody st) t ∧ t { nx := fun _ H' => Q .non H', rt := Q } (start N vs) H) : Callee P w K mg base (k + 1) x ps (spD K R) f fd := by
  refine D.ok (D.F.ok S (fun vs H Q E h => ?_) (fun cdv A outer s H vs Q E hr h => ?_))
  · obtain ⟨B, ds, d, _, hv, hR, _⟩ := h
    rw [hv.len, len ds d hR]
  · obtain ⟨B, ds, d, eb, hv, hR, q⟩ := h
    exact body cdv A outer s B H vs ds d Q E hr hR eb hv q
end
/-- a chain that is not looked at -/
def GrE (B H B1 H1 : Hp) : Prop := Gr B H B1 H1

/-! ### rows as data -/
abbrev Ent := Int × Str
def entD (e : Ent) : PyData := .tuple [.int e.1, .str e.2]
def rowD (es : List Ent) : PyData := .list (es.map entD)
/-- the words are texts -/
def okRow (es : List Ent) : Prop := ∀ e ∈ es, PyData.strOk e.2 = true
theorem eqv_ent (e f : Ent) : PyData.eqv (entD e) (entD f) = decide (e = f) := by
  obtain ⟨a, x⟩ := e
  obtain ⟨b, y⟩ := f
  unfold entD
  simp only [PyData.eqv, PyData.eqvAll, Bool.and_true, Prod.mk.injEq, Bool.decide_and, Bool.beq_eq_decide_eq]
theorem eqvAll_row : ∀ es fs : List Ent, PyData.eqvAll (es.map entD) (fs.map entD) = decide (es = fs)
  | [], [] => by simp [PyData.eqvAll]
  | [], f :: fs => by simp [PyData.eqvAll]
  | e :: es, [] => by simp [PyData.eqvAll]
  | e :: es, f :: fs => by
    show PyData.eqvAll (entD e :: es.map entD) (entD f :: fs.map entD) = _
    rw [PyData.eqvAll, eqv_ent, eqvAll_row es fs]
    simp [List.cons.injEq, Bool.decide_and]
theorem eqv_row (es fs : List Ent) : PyData.eqv (rowD es) (rowD fs) = decide (es = fs) := by
  unfold rowD
  rw [PyData.eqv]
  exact eqvAll_row es fs
theorem canLay_ent {e : Ent} (h : PyData.strOk e.2 = true) : (entD e).canLay0 = true := by
  unfold entD
  simp [PyData.canLay0, PyData.canLayAll0, h]
theorem canLay_ents : ∀ {es : List Ent}, okRow es → PyData.canLayAll0 (es.map entD) = true
  | [], _ => by simp [PyData.canLayAll0]
  | e :: es, h => by
    show PyData.canLayAll0 (entD e :: es.map entD) = true
    rw [PyData.canLayAll0, canLay_ent (h e List.mem_cons_self), canLay_ents fun x hx => h x (List.mem_cons_of_mem _ hx)]
    rfl
theorem depth_ents : ∀ es : List Ent, PyData.depthAll (es.map entD) ≤ 1
  | [] => by simp [PyData.depthAll]
  | e :: es => by
    show PyData.depthAll (entD e :: es.map entD) ≤ 1
    rw [PyData.depthAll]
    have h := depth_ents es
    have h2 : (entD e).depth = 1 := by unfold entD; simp [PyData.depth, PyData.depthAll]
    omega
theorem shaped_row {es : List Ent} (h : okRow es) : SeqAt.shaped (rowD es) = true := by
  unfold SeqAt.shaped rowD
  rw [PyData.canLay0, PyData.depth, canLay_ents h]
  have := depth_ents es
  rw [decide_eq_true (by omega)]
  rfl
theorem okRow.append {es fs : List Ent} (h : okRow es) (k : okRow fs) : okRow (es ++ fs) := fun e he => (List.mem_append.mp he).elim (h e) (k e)
theorem okRow.take {es : List Ent} (h : okRow es) (n : Nat) : okRow (es.take n) := fun e he => h e (List.mem_of_mem_take he)
theorem okRow.drop {es : List Ent} (h : okRow es) (n : Nat) : okRow (es.drop n) := fun e he => h e (List.mem_of_mem_drop he)
theorem rowD_get {es : List Ent} {i : Nat} {e : Ent} (h : es[i]? = some e) : (es.map entD)[i]? = some (entD e) := by rw [List.getElem?_map, h]; rfl
theorem atI_map {α β : Type} (f : α → β) (xs : List α) (i : Int) : atI (xs.map f) i = (atI xs i).map f := by
  unfold atI
  rw [List.length_map]
  cases ixN xs.length i with
  | none => rfl
  | some j =>
    show (xs.map f)[j]? = (xs[j]?).map f
    rw [List.getElem?_map]
theorem atI_in {α : Type} {xs : List α} {i : Int} (h0 : 0 ≤ i) (h : i < (xs.length : Int)) (d : α) : atI xs i = some (xs.getD i.toNat d) := by
  have hl : i.toNat < xs.length := by omega
  have e : i = ((i.toNat : Nat) : Int) := by omega
  have q : atI xs ((i.toNat : Nat) : Int) = some (xs.getD i.toNat d) := atI_nat (by rw [List.getElem?_eq_getElem hl, List.getD_eq_getElem?_getD, List.getElem?_eq_getElem hl]; rfl)
  rw [← e] at q
  exact q

/-! ### texts joined -/
theorem join_cps : ∀ ys : List Str, (PySem.Str.join PySem.Str.empty ys).cps.toList = (ys.map fun y => y.cps.toList).flatten
  | [] => rfl
  | [x] => by simp [PySem.Str.join]
  | x :: y :: r => by
    have ih := join_cps (y :: r)
    show (x ++ PySem.Str.empty ++ PySem.Str.join PySem.Str.empty (y :: r)).cps.toList = _
    have e : (x ++ PySem.Str.empty ++ PySem.Str.join PySem.Str.empty (y :: r)).cps = x.cps ++ PySem.Str.empty.cps ++ (PySem.Str.join PySem.Str.empty (y :: r)).cps := rfl
    rw [e, Array.toList_append, Array.toList_append, ih]
    simp [PySem.Str.empty]
theorem strOk_iff {x : Str} : PyData.strOk x = true ↔ ∀ c ∈ x.cps.toList, c < 0x110000 := by
  unfold PyData.strOk
  rw [← Array.all_toList, List.all_eq_true]
  simp
theorem strOk_join {ys : List Str} (h : ∀ y ∈ ys, PyData.strOk y = true) : PyData.strOk (PySem.Str.join PySem.Str.empty ys) = true := by
  rw [strOk_iff, join_cps]
  intro c hc
  obtain ⟨l, hl, hcl⟩ := List.mem_flatten.mp hc
  obtain ⟨y, hy, rfl⟩ := List.mem_map.mp hl
  exact strOk_iff.mp (h y hy) c hcl
theorem strs_dq {B : Hp} : ∀ {ys : List Str} {xs : List V}, DqAll K B (ys.map PyData.str) xs → xs = ys.map V.str
  | [], _, h => dqa_nil.mp h
  | y :: ys, _, h => by
    obtain ⟨v, vs, rfl, h1, h2⟩ := dqa_cons.mp h
    rw [dq_str.mp h1, strs_dq h2]
    rfl
theorem evd_join {σ : L2.St} {B H : Hp} {te : TE} {ys : List Str} (h : EvD K te σ B H (.list (ys.map PyData.str))) (hz : (ys.map (·.length)).sum ≤ 16777216) :
    EvD K (tM1 (fun x xs H Q => ∃ a p, ∃ ys : List Str, x = .str a ∧ xs = [.ref p] ∧ (SqL K H p (ys.map V.str) ∨ SqT K H p (ys.map V.str)) ∧
      (ys.map (·.length)).sum + ys.length * a.length ≤ 16777216 ∧ Q (.str (Txt.join a ys)) H) (tC (.str (PySem.Str.ofString ""))) te) σ B H (.str (PySem.Str.join PySem.Str.empty ys)) := fun B1 H1 g Q q =>
  ⟨⟨_, rfl⟩, h B1 H1 g _ fun v B2 H2 g2 p => by
    obtain ⟨a, xs, rfl, q1, q2⟩ := dq_list.mp p
    rw [strs_dq q2] at q1
    exact ⟨PySem.Str.ofString "", a, ys, rfl, rfl, .inl (sq_of (g2.bh _ _ q1)), by rw [show (PySem.Str.ofString "").length = 0 from rfl]; omega, q _ B2 H2 g2 (dq_str.mpr (by rw [TL.join_eq]; rfl))⟩⟩
end G

set_option Elab.async false
set_option linter.all false
set_option maxRecDepth 100000
set_option maxHeartbeats 1000000
namespace G
open PySem L2 Evl
section
variable {K : PySem.W.Frag} {σ : L2.St} {B H : Hp} {ta tb te : TE} {D : Ends} {tu tz : TS} {n : Nat} {i j : Int} {ds es : List PyData}
/-- a new list that is nobody's yet -/
def EvM (K : PySem.W.Frag) (te : TE) (σ : L2.St) (B H : Hp) (ds : List PyData) : Prop := ∀ B1 H1, Gr B H B1 H1 → ∀ Q : VK, (∀ p xs B2 H2, Gr B1 H1 B2 H2 → H1 p = none → B2 p = none → H2 p = some (.lst xs) → DqAll K B2 ds xs → Q (.ref p) H2) → te σ H1 Q
theorem EvM.is (h : EvM K te σ B H ds) (e : ds = es) : EvM K te σ B H es := by rw [← e]; exact h
theorem evm_list (h : EvD K ta σ B H (.list ds)) : EvM K (tCB (rListS K) (tCons ta tNil)) σ B H ds := fun B1 H1 g Q q =>
  h B1 H1 g _ fun v B2 H2 g2 p => by
    obtain ⟨a, xs, rfl, q1, q2⟩ := dq_list.mp p
    exact ⟨a, xs, rfl, .inl (sq_of (g2.bh _ _ q1)), fun l hl => q l xs B2 _ (g2.trans (Gr.newM g2.bh hl)) (ex_none g2.hh hl) (ex_none g2.bh hl) upd_same q2⟩
theorem evm_cat (ha : EvD K ta σ B H (.list ds)) (hb : EvD K tb σ B H (.list es)) (hl : ds.length + es.length ≤ 100000) : EvM K (tOp rCat ta tb) σ B H (ds ++ es) := fun B1 H1 g Q q =>
  ha B1 H1 g _ fun x B2 H2 g2 h1 => hb B2 H2 (g.trans g2) _ fun y B3 H3 g3 h2 => by
    obtain ⟨a, xs, rfl, q1, q2⟩ := dq_list.mp (h1.mono g3.bb)
    obtain ⟨b, ys, rfl, q3, q4⟩ := dq_list.mp h2
    exact ⟨a, b, xs, ys, rfl, rfl, g3.bh _ _ q1, g3.bh _ _ q3, sz_of (by rw [q2.len, q4.len]; exact hl), fun l hl => q l _ B3 _ ((g2.trans g3).trans (Gr.newM g3.bh hl)) (ex_none (g2.trans g3).hh hl) (ex_none g3.bh hl) upd_same (q2.append q4)⟩
theorem s_retM (g0 : Ex B H) (h : EvM K te σ B H ds) (k : ∀ p xs B1 H1, Gr B H B1 H1 → H p = none → B1 p = none → H1 p = some (.lst xs) → DqAll K B1 ds xs → D.rt (.ref p) H1) : tRet te D σ H := h B H (Gr.refl g0) _ k
/-- a scalar's value, asked while l stands still -/
theorem evd_tmpB {l : Addr} {o : HO} {b : Bool} (hl : H l = some o) (hb : B l = none) (h : EvD K te σ (upd B l o) H (.bool b)) : EvD K te σ B H (.bool b) := fun B1 H1 g Q q => by
  have b1 := g.out hb hl
  have h1 := g.hh _ _ hl
  refine h (upd B1 l o) H1 ⟨upd_ex g.bb, fun a u e => ?_, g.hh, fun a e1 e2 => ?_⟩ Q fun v B2 H2 g2 p => q v B1 H2 ⟨Ex.refl _, g.bh.trans g2.hh, g2.hh, fun a e1 e2 => absurd e1 e2⟩ (dq_bool.mpr (dq_bool.mp p))
  · by_cases ha : a = l
    · subst ha
      rw [upd_same] at e
      rw [h1]; exact e
    · rw [upd_ne ha] at e
      exact g.bh _ _ e
  · by_cases ha : a = l
    · subst ha
      rw [upd_same] at e1
      cases e1
    · rw [upd_ne ha] at e1 e2
      exact g.nw a e1 e2
theorem frz_ex {l : Addr} {o : HO} (g : Ex B H) (hl : H l = some o) : Ex (upd B l o) H := fun a u e => by
  by_cases ha : a = l
  · subst ha
    rw [upd_same] at e
    rw [hl]; exact e
  · rw [upd_ne ha] at e
    exact g _ _ e
theorem evd_tmpT {l : Addr} {o : HO} {b : Bool} {t : TT} (hl : H l = some o) (hb : B l = none) (h : EvT K t σ (upd B l o) H b) : EvT K t σ B H b := fun B1 H1 g Q q => by
  have b1 := g.out hb hl
  have h1 := g.hh _ _ hl
  refine h (upd B1 l o) H1 ⟨upd_ex g.bb, frz_ex g.bh h1, g.hh, fun a e1 e2 => ?_⟩ Q fun B2 H2 g2 => q B1 H2 ⟨Ex.refl _, g.bh.trans g2.hh, g2.hh, fun a e1 e2 => absurd e1 e2⟩
  by_cases ha : a = l
  · subst ha
    rw [upd_same] at e1
    cases e1
  · rw [upd_ne ha] at e1 e2
    exact g.nw a e1 e2
/-- list(x), x a list that may change -/
theorem evd_listM {l : Addr} {xs : List V} (ha : σ[n]? = some (some (.ref l))) (hl : H l = some (.lst xs)) (hd : DqAll K B ds xs) : EvD K (tCB (rListS K) (tCons (tVar n) tNil)) σ B H (.list ds) := fun B1 H1 g Q q =>
  ⟨_, ha, l, xs, rfl, .inl (sq_of (g.hh _ _ hl)), fun p hp => q _ _ _ (Gr.new g.bh hp) (dq_list.mpr ⟨p, xs, rfl, upd_same, hd.mono (g.bb.trans (Ex.new (ex_none g.bh hp)))⟩)⟩
/-- for k, x in enumerate(xs) -/
theorem q_forEnum {ta : TA} {i1 i2 : Nat} (g0 : Ex B H) (h : EvA ta σ B H fun B1 vs => DqAll K B1 [.list ds] vs)
    (k : ∀ B1 H1, Gr B H B1 H1 → ∃ Pv : Nat → L2.St → Hp → Hp → Prop, Pv 0 σ B1 H1 ∧ (∀ i σ' B2 H2, Pv i σ' B2 H2 → Ex B1 B2 ∧ Ex B2 H2) ∧
      (∀ i d v σ' B2 H2 B3 H3, ds[i]? = some d → Pv i σ' B2 H2 → Gr B2 H2 B3 H3 → Dq K B3 d v → tu { D with nx := fun σ3 H4 => ∃ B4, Pv (i + 1) σ3 B4 H4, ct := fun σ3 H4 => ∃ B4, Pv (i + 1) σ3 B4 H4, bk := tz D } ((σ'.set i1 (some (.int (i : Int)))).set i2 (some v)) H3) ∧
      (∀ σ' B2 H2, Pv ds.length σ' B2 H2 → tz D σ' H2)) : tSeq (tFor (iEnum K ta) (gTup K 2 (gCons (gName i1) (gCons (gName i2) gNil))) tu) tz D σ H :=
  h B H (Gr.refl g0) _ fun vs B1 H1 g1 p => by
    obtain ⟨v, vs', rfl, e1, e2⟩ := dqa_cons.mp p
    cases dqa_nil.mp e2
    obtain ⟨a, xs, rfl, q1, q2⟩ := dq_list.mp e1
    obtain ⟨Pv, p0, pe, ps, pd⟩ := k B1 H1 g1
    have sq : ∀ i σ' B' H', Pv i σ' B' H' → SqL K H' a xs := fun i σ' B' H' w => sq_of ((pe _ _ _ _ w).2 _ _ ((pe _ _ _ _ w).1 _ _ q1))
    refine ⟨a, xs, rfl, sq_of (g1.bh _ _ q1), fun i m σ' H' => m = xs.length - i ∧ i ≤ xs.length ∧ ∃ B', Pv i σ' B' H', ⟨_, rfl, Nat.zero_le _, B1, p0⟩, ?_⟩
    rintro i m σ' H' ⟨rfl, hi, B', w⟩
    by_cases hlt : i < xs.length
    · refine .inr ⟨⟨xs, xs[i], sq _ _ _ _ w, by simp [hlt]⟩, fun σ3 H4 => ∃ B4, Pv (i + 1) σ3 B4 H4, fun σ3 H4 ⟨B4, w4⟩ => ⟨xs.length - (i + 1), by omega, rfl, hlt, B4, w4⟩, fun x H2 y => ?_⟩
      obtain ⟨T, z, rfl, nT, rfl, fz⟩ := y
      have hz := fz xs (sq _ _ _ _ w)
      obtain ⟨d, hd, hdz⟩ := q2.get' hz
      have bh := (pe _ _ _ _ w).2
      exact ⟨T, [.int (i : Int), z], rfl, st_of upd_same, rfl, .int (i : Int), [z], rfl, z, [], rfl, rfl, ps i d z σ' B' H' _ _ hd w (Gr.new bh nT) ((hdz.mono (pe _ _ _ _ w).1).mono (Ex.new (ex_none bh nT)))⟩
    · have e : i = xs.length := by omega
      subst e
      refine .inl ⟨⟨xs, sq _ _ _ _ w, Nat.le_refl _⟩, ?_⟩
      rw [q2.len] at w
      exact pd σ' B' H' w
end
theorem asg_callS {sp : Sp} {E : L2.St → XK} {tr : TA} {P : Hp → List V → Prop} (g0 : Ex B H) (h : EvA tr σ B H P)
    (k : ∀ vs B1 H1, Gr B H B1 H1 → P B1 vs → sp vs H1 (fun x H2 => D.nx (σ.set n (some x)) H2) (E σ)) : tAsg (tCallS sp E tr) (gName n) D σ H := h B H (Gr.refl g0) _ k
theorem asg_callX {sp : Sp} {E : XK} {tr : TA} {P : Hp → List V → Prop} (g0 : Ex B H) (h : EvA tr σ B H P)
    (k : ∀ vs B1 H1, Gr B H B1 H1 → P B1 vs → sp vs H1 (fun x H2 => D.nx (σ.set n (some x)) H2) E) : tAsg (tCall sp [] E tr) (gName n) D σ H := h B H (Gr.refl g0) _ fun vs B1 H1 g p => by
  rw [List.append_nil]
  exact k vs B1 H1 g p
theorem evd_callS {sp : Sp} {E : L2.St → XK} {tr : TA} {d : PyData} (h : EvA tr σ B H fun B1 vs => DqAll K B1 ds vs)
    (hs : ∀ vs B1 H1, Gr B H B1 H1 → DqAll K B1 ds vs → ∀ Q : VK, (∀ v B2 H2, Gr B1 H1 B2 H2 → Dq K B2 d v → Q v H2) → sp vs H1 Q (E σ)) : EvD K (tCallS sp E tr) σ B H d := fun B1 H1 g Q q =>
  h B1 H1 g _ fun vs B2 H2 g2 p => hs vs B2 H2 (g.trans g2) p Q fun v B3 H3 g3 p3 => q v B3 H3 (g2.trans g3) p3
/-! ### exceptions -/
section
variable {X : Cx} {W : WX}
theorem takesN0 {X : Cx} : L2N.Takes X (fun _ _ _ _ => False) := fun _ _ x => by
  obtain ⟨_, _, _, _, _, _, _, _, _, _, _, _, _, _, _, _, z⟩ := x
  exact z.elim
theorem passN0 {X : Cx} : Passes (L2N.CX X.prog X.w) X E0 := fun _ _ _ _ _ _ _ h => by
  obtain ⟨_, _, _, _, _, _, _, _, _, _, _, _, z⟩ := h
  exact z.elim
theorem pass0At {X : Cx} {σ : L2.St} {E : XK} : PassesAt CX0 X σ E := fun _ _ _ _ _ _ h => h.elim
theorem rh_mark {j k : Nat} {A : Around} {e : Option Value} (r : Room k A) (h : j ≤ k) : L2H.RoomH j (A.mark e) := ⟨by have := r.dp; show A.depth + 3 * j + 5 < _; omega, by have := r.un; show A.units + 16 * j + 200 < _; omega⟩
theorem rhh_mark {j k : Nat} {A : Around} {e : Option Value} (r : L2H.RoomH k A) (h : j ≤ k) : L2H.RoomH j (A.mark e) := ⟨by have := r.dp; show A.depth + 3 * j + 5 < _; omega, by have := r.un; show A.units + 16 * j + 200 < _; omega⟩
theorem um {k : Nat} {A : Around} {e : Option Value} (r : Room k A) : (A.mark e).units + 64 < cLine := by have := r.un; show A.units + 64 < _; omega
theorem op_eqS {X : Cx} {K : PySem.W.Frag} (hK : X.K = K) (hu : X.A.units + 64 < cLine) : OpR X (compareOp .Eq) (rEqD K) := by
  subst hK
  exact op_eqD hu
theorem ix_listK {X : Cx} {K : PySem.W.Frag} (hK : X.K = K) : IxR X (rIxL K) := by
  subst hK
  exact ix_list
theorem ix_tupK {X : Cx} {K : PySem.W.Frag} (hK : X.K = K) : IxR X (rIxT K) := by
  subst hK
  exact ix_tup
theorem sl_listK {X : Cx} {K : PySem.W.Frag} (hK : X.K = K) : SlR X (rSlL K) := by
  subst hK
  exact sl_list
theorem call_list_ofK {X : Cx} {K : PySem.W.Frag} (hK : X.K = K) : CallR X (.type "list") (rListS K) := by
  subst hK
  exact call_list_of
theorem call_len_seqK {X : Cx} {K : PySem.W.Frag} (hK : X.K = K) : CallR X (.builtin "len") (rLenS K) := by
  subst hK
  exact call_len_seq
theorem op_neS {X : Cx} {K : PySem.W.Frag} (hK : X.K = K) (hu : X.A.units + 64 < cLine) : OpR X (compareOp .NotEq) (rNeD K) := by
  subst hK
  exact op_neD hu
/-- isinstance(e, c), e the handled exception of the class at D -/
def rIsX (K : PySem.W.Frag) (a : Addr) (cls : Value) (d : Option Addr) : List V → Hp → VK → Prop := fun xs H Q => ∃ D, cls = .ref D ∧ d = none ∧ ExcC K D ∧ rIsE K D a xs H Q
theorem call_isX {X : Cx} {a : Addr} {oe : Obj} {pn : List (Addr × Obj)} {cls : Value} {d : Option Addr} (hz : Zc cls d oe) (hf : ∃ vs, oe.data = .fields vs) : CallR (X.suite a ((a, oe) :: pn)) (.builtin "isinstance") (rIsX X.K a cls d) := by
  intro pins s σ H xs us Q I r h
  obtain ⟨D, rfl, rfl, C, h⟩ := h
  exact call_isE C hz hf pins s σ H xs us Q I r h
theorem evd_isX {K : PySem.W.Frag} {σ : L2.St} {B H : Hp} {n : Nat} {a D C2 : Addr} {b : Bool} (hE : ExcC K D) (hs : σ[n]? = some (some (.ref a))) (hk : PySem.W.kitOne K (.ref D) (.ref C2) = some b) :
    EvD K (tCB (rIsX K a (.ref D) none) (tCons (tVar n) (tCons (tC (.ref C2)) tNil))) σ B H (.bool b) := fun B1 H1 g Q q =>
  ⟨_, hs, D, rfl, rfl, hE, .ref C2, .ref C2, b, rfl, fun u r => r, hk, q _ B1 H1 g.le (dq_bool.mpr rfl)⟩
theorem evd_isXT {K : PySem.W.Frag} {σ : L2.St} {B H : Hp} {n : Nat} {a D : Addr} {T : String} {b : Bool} (hE : ExcC K D) (hs : σ[n]? = some (some (.ref a))) (hk : PySem.W.kitOne K (.ref D) (.type T) = some b) :
    EvD K (tCB (rIsX K a (.ref D) none) (tCons (tVar n) (tCons (tC (.ty T)) tNil))) σ B H (.bool b) := fun B1 H1 g Q q =>
  ⟨_, hs, D, rfl, rfl, hE, .ty T, .type T, b, rfl, fun u r => r, hk, q _ B1 H1 g.le (dq_bool.mpr rfl)⟩
/-- what is asked of an error's class -/
structure ErrC (K : PySem.W.Frag) (mg : Str → Option Value) (x : Str) (C : Addr) : Prop where
  g : mg x = some (.ref C)
  k : PySem.W.keepIn K (.ref C) = true
  b : PySem.W.subIn K (.ref C) (.type "BaseException") = some true
  t : PySem.W.typeIn K (.ref C) = some (.type "type")
  d : PySem.W.hasDictIn K C = true
theorem ErrC.exm {K : PySem.W.Frag} {mg : Str → Option Value} {x : Str} {C : Addr} (h : ErrC K mg x C) {cls : Value} {b : Bool} (q : PySem.W.subIn K cls (.ref C) = some b) : PySem.W.exmOne K cls (.ref C) = some b := PySem.W.exm_ref h.b h.d h.t q
/-- a def as it runs where an exception is handled -/
structure CalleeH (P : Program) (w : World) (K : PySem.W.Frag) (mg : Str → Option Value) (base : Heap) (CX : CXT) (k : Nat) (x : Str) (ps : List Str) (sp : Sp) (f : Addr) (fd : FuncData) : Prop where
  G : L2H.FnH P w K mg base CX k f fd ps sp
  kp : PySem.W.keepIn K (.ref f) = true
  b : Binds K fd ps []
  g : mg x = some (.ref f)
structure CalleeX (P : Program) (w : World) (K : PySem.W.Frag) (mg : Str → Option Value) (base : Heap) (CX : CXT) (k : Nat) (x : Str) (ps : List Str) (sp : Sp) (f : Addr) (fd : FuncData) : Prop where
  G : FnOk P w K mg base CX k f fd ps sp
  kp : PySem.W.keepIn K (.ref f) = true
  b : Binds K fd ps []
  g : mg x = some (.ref f)
variable {P : Program} {w : World} {K : PySem.W.Frag} {mg : Str → Option Value} {base : Heap} {x : Str} {st : Stmt} {ps N : List Str} {f : Addr} {fd : FuncData} {k : Nat}
theorem DefAt.okN {sp : Sp} (D : DefAt K mg x st ps f fd) (S : FnScope N ps (defScope st)) (len : ∀ vs H Q E, sp vs H Q E → vs.length = ps.length)
    (hbody : ∀ (cdv : Value) (A : Around) (outer : List Env) (s : Shared) (H : Hp) (vs : List V) (Q : VK) (E : XK), Room k (A.deeper (PyProof.Rows.envOfC x (defScope st) s.heap.objs.size f cdv)) → sp vs H Q E →
      ∃ t, PSs (cxOf (L2N.CX P w) P w K mg base N x (defScope st) f cdv A outer s H E) (defBody st) t ∧ t { nx := fun _ H' => Q .non H', rt := Q } (start N vs) H) : CalleeX P w K mg base (L2N.CX P w) (k + 1) x ps sp f fd := by
  refine ⟨?_, D.F.kp, D.b, D.g⟩
  obtain ⟨oc, od, kV, doc, pm, an, cdv, ct, osl, rfl, lk, hcd⟩ := D.F.ex
  exact fn_of lk hcd S len fun A outer s H vs Q E hr hsp => hbody cdv A outer s H vs Q E hr hsp
theorem DefAt.okH {CX : CXT} {sp : Sp} (D : DefAt K mg x st ps f fd) (S : FnScope N ps (defScope st)) (len : ∀ vs H Q E, sp vs H Q E → vs.length = ps.length)
    (hbody : ∀ (cdv : Value) (A : Around) (outer : List Env) (s : Shared) (H : Hp) (vs : List V) (Q : VK) (E : XK) (p : Addr × Obj), L2H.Hot1 A p → L2H.RoomH k (A.deeper (PyProof.Rows.envOfC x (defScope st) s.heap.objs.size f cdv)) → sp vs H Q E →
      ∃ t, PSs (L2H.cxH CX P w K mg base N x (defScope st) f cdv A outer s H E p) (defBody st) t ∧ t { nx := fun _ H' => Q .non H', rt := Q } (start N vs) H) : CalleeH P w K mg base CX (k + 1) x ps sp f fd := by
  refine ⟨?_, D.F.kp, D.b, D.g⟩
  obtain ⟨oc, od, kV, doc, pm, an, cdv, ct, osl, rfl, lk, hcd⟩ := D.F.ex
  exact L2H.fn_ofH lk hcd S len fun A outer s H vs Q E p hot hr hsp => hbody cdv A outer s H vs Q E p hot hr hsp
end
end G

set_option Elab.async false
set_option linter.all false
set_option maxRecDepth 100000
set_option maxHeartbeats 1000000
namespace G
open PySem L2 Evl
section
variable {K : PySem.W.Frag} {σ : L2.St} {B H : Hp} {ta tb te : TE} {D : Ends} {tu tz : TS} {n : Nat} {i j : Int}
theorem evd_min2 (ha : EvD K ta σ B H (.int i)) (hb : EvD K tb σ B H (.int j)) : EvD K (tCB (fun xs H Q => ∃ i j, xs = [V.int i, V.int j] ∧ Q (.int (if j < i then j else i)) H) (tCons ta (tCons tb tNil))) σ B H (.int (if j < i then j else i)) :=
  evd_cb (ea_cons ha (ea_cons hb ea_nil)) fun vs B1 H1 g p Q q => by
    obtain ⟨v, vs', rfl, p1, p2⟩ := dqa_cons.mp p
    obtain ⟨v2, vs2, rfl, p3, p4⟩ := dqa_cons.mp p2
    cases dqa_nil.mp p4
    exact ⟨i, j, by rw [dq_int.mp p1, dq_int.mp p3], q _ B1 H1 g.le (dq_int.mpr rfl)⟩
theorem evd_max2 (ha : EvD K ta σ B H (.int i)) (hb : EvD K tb σ B H (.int j)) : EvD K (tCB (fun xs H Q => ∃ i j, xs = [V.int i, V.int j] ∧ Q (.int (if j > i then j else i)) H) (tCons ta (tCons tb tNil))) σ B H (.int (if j > i then j else i)) :=
  evd_cb (ea_cons ha (ea_cons hb ea_nil)) fun vs B1 H1 g p Q q => by
    obtain ⟨v, vs', rfl, p1, p2⟩ := dqa_cons.mp p
    obtain ⟨v2, vs2, rfl, p3, p4⟩ := dqa_cons.mp p2
    cases dqa_nil.mp p4
    exact ⟨i, j, by rw [dq_int.mp p1, dq_int.mp p3], q _ B1 H1 g.le (dq_int.mpr rfl)⟩
/-- downwards by ones -/
theorem q_forDown {ta : TA} {lo m : Int} (g0 : Ex B H) (h : EvA ta σ B H fun B1 vs => DqAll K B1 [.int lo, .int m, .int (-1)] vs) (hm : -100000 ≤ lo ∧ lo ≤ 100000 ∧ -100000 ≤ m ∧ m ≤ 100000)
    (k : ∀ B1 H1, Gr B H B1 H1 → ∃ Pv : Nat → L2.St → Hp → Hp → Prop, Pv 0 σ B1 H1 ∧
      (∀ (i : Nat) σ' B2 H2, (i : Int) < lo - m → Pv i σ' B2 H2 → tu { D with nx := fun σ3 H4 => ∃ B4, Pv (i + 1) σ3 B4 H4, ct := fun σ3 H4 => ∃ B4, Pv (i + 1) σ3 B4 H4, bk := tz D } (σ'.set n (some (.int (lo - (i : Int))))) H2) ∧
      (∀ σ' B2 H2, Pv (lo - m).toNat σ' B2 H2 → tz D σ' H2)) : tSeq (tFor (iRng3 ta) (gName n) tu) tz D σ H :=
  h B H (Gr.refl g0) _ fun vs B1 H1 g1 p => by
    obtain ⟨v, vs', rfl, e1, e2⟩ := dqa_cons.mp p
    obtain ⟨v2, vs2, rfl, e3, e4⟩ := dqa_cons.mp e2
    obtain ⟨v3, vs3, rfl, e5, e6⟩ := dqa_cons.mp e4
    cases dqa_nil.mp e6
    cases dq_int.mp e1
    cases dq_int.mp e3
    cases dq_int.mp e5
    obtain ⟨Pv, p0, ps, pd⟩ := k B1 H1 g1
    refine ⟨lo, m, -1, (lo - m).toNat, rfl, RgC.neg (by omega) (by omega) (by omega) (by omega), for_rangeC (lo := lo) (c := -1) (n := (lo - m).toNat) (fun i σ' H' => ∃ B', Pv i σ' B' H') ⟨B1, p0⟩ (fun i σ' H' hi ⟨B', w⟩ => ?_) (fun σ' H' ⟨B', w⟩ => pd σ' B' H' w)⟩
    have e0 : lo + (i : Int) * (-1) = lo - (i : Int) := by omega
    have q := ps i σ' B' H' (by omega) w
    rw [← e0] at q
    exact q
theorem ints_dq {B : Hp} : ∀ {ns : List Int} {xs : List V}, DqAll K B (ns.map PyData.int) xs → xs = ns.map V.int
  | [], _, h => dqa_nil.mp h
  | y :: ys, _, h => by
    obtain ⟨v, vs, rfl, h1, h2⟩ := dqa_cons.mp h
    rw [dq_int.mp h1, ints_dq h2]
    rfl
/-- sorted(xs, reverse=True): some arrangement, falling -/
theorem evp_sortR {ns : List Int} (h : EvD K te σ B H (.list (ns.map PyData.int))) :
    EvP (tCKw (rSortedKw K true [.bl true]) (tCons te tNil) (tCons (tC (.bl true)) tNil)) σ B H fun B1 v => ∃ ns' : List Int, ns'.Perm ns ∧ ns'.Pairwise (· ≥ ·) ∧ Dq K B1 (.list (ns'.map PyData.int)) v := fun B1 H1 g Q q =>
  h B1 H1 g _ fun v B2 H2 g2 p => by
    obtain ⟨a, xs, rfl, q1, q2⟩ := dq_list.mp p
    rw [ints_dq q2] at q1
    refine ⟨a, ns, rfl, rfl, sq_of (g2.bh _ _ q1), fun ns' l hp ho hl => q _ _ _ (g2.trans (Gr.new g2.bh hl)) ⟨ns', hp, ho, dq_list.mpr ⟨l, _, rfl, upd_same, DqAll.ints ns'⟩⟩⟩
end
end G

set_option Elab.async false
set_option linter.all false
set_option maxRecDepth 100000
set_option maxHeartbeats 1000000
namespace G
open PySem L2 Evl
/-! ### states that change within a footprint -/
structure GrF (F : Addr → Prop) (B H B1 H1 : Hp) : Prop where
  bb : Ex B B1
  bh : Ex B1 H1
  hh : ∀ a o, H a = some o → ¬ F a → H1 a = some o
  hn : ∀ a, H a ≠ none → H1 a ≠ none
  nw : ∀ a, B a = none → B1 a ≠ none → H a = none
variable {F F' : Addr → Prop} {B H B1 H1 B2 H2 : Hp}
theorem Gr.fr (g : Gr B H B1 H1) : GrF F B H B1 H1 := ⟨g.bb, g.bh, fun a o h _ => g.hh a o h, (fun a h => by
  cases e : H a with
  | none => exact absurd e h
  | some o => rw [g.hh a o e]; exact fun z => nomatch z), g.nw⟩
theorem GrF.back (g : GrF F B H B1 H1) {a : Addr} (h : H1 a = none) : H a = none := by
  cases e : H a with
  | none => rfl
  | some o => exact absurd h (g.hn a (by rw [e]; exact fun z => nomatch z))
theorem GrF.trans (g : GrF F B H B1 H1) (k : GrF F B1 H1 B2 H2) : GrF F B H B2 H2 :=
  ⟨g.bb.trans k.bb, k.bh, fun a o h n => k.hh a o (g.hh a o h n) n, fun a h => k.hn a (g.hn a h), fun a h1 h2 => by
    cases e : B1 a with
    | none => exact g.back (k.nw a e h2)
    | some o => exact g.nw a h1 (by rw [e]; exact fun z => nomatch z)⟩
/-- .. where the second footprint is new or of the first -/
theorem GrF.trans' (g : GrF F B H B1 H1) (k : GrF F' B1 H1 B2 H2) (hF : ∀ a, F' a → F a ∨ H a = none) : GrF F B H B2 H2 :=
  ⟨g.bb.trans k.bb, k.bh, fun a o h n => k.hh a o (g.hh a o h n) fun q => (hF a q).elim n (fun z => by rw [z] at h; cases h), fun a h => k.hn a (g.hn a h), fun a h1 h2 => by
    cases e : B1 a with
    | none => exact g.back (k.nw a e h2)
    | some o => exact g.nw a h1 (by rw [e]; exact fun z => nomatch z)⟩
theorem GrF.mono (g : GrF F B H B1 H1) (h : ∀ a, F a → F' a) : GrF F' B H B1 H1 := ⟨g.bb, g.bh, fun a o e n => g.hh a o e fun q => n (h a q), g.hn, g.nw⟩
theorem GrF.refl (h : Ex B H) : GrF F B H B H := (Gr.refl h).fr
/-- what is mutable stays outside the base -/
theorem GrF.out (g : GrF F B H B1 H1) {a : Addr} (hb : B a = none) (hh : H a ≠ none) : B1 a = none := by
  cases e : B1 a with
  | none => rfl
  | some u => exact absurd (g.nw a hb (by rw [e]; exact fun z => nomatch z)) hh
theorem some_ne {H : Hp} {a : Addr} {o : HO} (h : H a = some o) : H a ≠ none := by rw [h]; exact fun z => nomatch z
theorem GrF.upd (g : GrF F B H B1 H1) {p : Addr} {o : HO} (hF : F p) (hb : B1 p = none) : GrF F B H B1 (upd H1 p o) :=
  ⟨g.bb, Ex.mut g.bh hb, fun a u e n => by
    rw [upd_ne fun z => n (by rw [z]; exact hF)]
    exact g.hh a u e n, (fun a h => by
    by_cases q : a = p
    · rw [q, upd_same]; exact fun z => nomatch z
    · rw [upd_ne q]; exact g.hn a h), g.nw⟩
/-- a thing that the beginning did not know may change -/
theorem GrF.updN (g : GrF F B H B1 H1) {p : Addr} {o : HO} (hp : H p = none) (hb : B1 p = none) : GrF F B H B1 (L2.upd H1 p o) :=
  ⟨g.bb, Ex.mut g.bh hb, fun a u e n => by
    rw [upd_ne fun z => by rw [z, hp] at e; cases e]
    exact g.hh a u e n, (fun a h => by
    by_cases q : a = p
    · rw [q, upd_same]; exact fun z => nomatch z
    · rw [upd_ne q]; exact g.hn a h), g.nw⟩
theorem GrF.none (g : GrF (fun _ => False) B H B1 H1) : Gr B H B1 H1 := ⟨g.bb, g.bh, fun a o h => g.hh a o h fun z => z, g.nw⟩
/-- all that changed was new -/
theorem GrF.new (g : GrF F B H B1 H1) (h : ∀ a, F a → H a = Option.none) : Gr B H B1 H1 := ⟨g.bb, g.bh, fun a o e => g.hh a o e (fun z => by rw [h a z] at e; cases e), g.nw⟩
theorem made_gr {p dx : Addr} {o o' : HO} (eb : Ex B H) (np : H p = Option.none) (nd : H dx = Option.none) : Gr B H B (L2.upd (L2.upd H dx o') p o) :=
  (((GrF.refl (F := fun _ => False) eb).updN nd (ex_none eb nd)).updN np (ex_none eb np)).new fun _ z => z.elim
theorem GrF.le (g : GrF F B H B1 H1) : GrF F' B1 H1 B1 H1 := GrF.refl g.bh
/-- a new thing that may change -/
theorem GrF.newM {p : Addr} {o : HO} (h : Ex B H) (hp : H p = Option.none) : GrF F B H B (L2.upd H p o) := (Gr.newM h hp).fr
/-- .. and from then on stays -/
theorem GrF.froz {l : Addr} {o : HO} (g : GrF F B H B1 H1) (hl : H l = Option.none) (hb : B1 l = Option.none) (h1 : H1 l = some o) : GrF F B H (L2.upd B1 l o) H1 :=
  ⟨g.bb.trans (Ex.new hb), fun a u e => by
    by_cases ha : a = l
    · subst ha
      rw [upd_same] at e
      rw [h1]; exact e
    · rw [upd_ne ha] at e
      exact g.bh a u e, g.hh, g.hn, fun a q1 q2 => by
    by_cases ha : a = l
    · rw [ha]; exact hl
    · rw [upd_ne ha] at q2
      exact g.nw a q1 q2⟩

section
variable {K : PySem.W.Frag} {σ : L2.St} {ta tb te tv : TE} {D : Ends} {tu tz tw : TS} {n : Nat} {i j : Int} {d : PyData} {ds es : List PyData} {C p dx l : Addr} {fs : List (Str × V)} {f : Str} {v x : V} {b : Bool} {xs : List V}
theorem EvV.mono (g : Gr B H B1 H1) (h : EvV te σ B H x) : EvV te σ B1 H1 x := EvP.mono g h
/-! ### attributes -/
theorem ev_fld (h : EvV ta σ B H (.ref p)) (hp : H p = some (.ins C dx fs)) (c : Cls K C) (na : NoAttr K C f) (l : fs.lookup f = some v) : EvV (tFld K ta f) σ B H v := fun B1 H1 g Q q =>
  h B1 H1 g _ fun y B2 H2 g2 e => ⟨p, C, dx, fs, v, e, g2.hh _ _ (g.hh _ _ hp), c, na, l, q v B2 H2 g2 rfl⟩
theorem evd_fld (h : EvV ta σ B H (.ref p)) (hp : H p = some (.ins C dx fs)) (c : Cls K C) (na : NoAttr K C f) (l : fs.lookup f = some v) (hd : Dq K B d v) : EvD K (tFld K ta f) σ B H d := fun B1 H1 g Q q =>
  h B1 H1 g _ fun y B2 H2 g2 e => ⟨p, C, dx, fs, v, e, g2.hh _ _ (g.hh _ _ hp), c, na, l, q v B2 H2 g2 (hd.mono (g.trans g2).bb)⟩
/-- o.f = e -/
theorem s_fld (g0 : Ex B H) (hv : EvD K tv σ B H d) (h : EvV ta σ B H (.ref p)) (hp : H p = some (.ins C dx fs)) (c : Cls K C) (na : NoAttr K C f) (hl : fs.length < 1000)
    (k : ∀ v B1 H1, Gr B H B1 H1 → Dq K B1 d v → D.nx σ (upd H1 p (.ins C dx (putF f v fs)))) : sFld K ta tv f D σ H :=
  hv B H (Gr.refl g0) _ fun v B1 H1 g1 dv => h B1 H1 g1 _ fun y B2 H2 g2 e => ⟨p, C, dx, fs, e, g2.hh _ _ (g1.hh _ _ hp), c, na, hl, k v B2 H2 (g1.trans g2) (dv.mono g2.bb)⟩
theorem q_fld (g0 : Ex B H) (hv : EvD K tv σ B H d) (h : EvV ta σ B H (.ref p)) (hp : H p = some (.ins C dx fs)) (c : Cls K C) (na : NoAttr K C f) (hl : fs.length < 1000)
    (k : ∀ v B1 H1, Gr B H B1 H1 → Dq K B1 d v → tz D σ (upd H1 p (.ins C dx (putF f v fs)))) : tSeq (sFld K ta tv f) tz D σ H := s_fld (D := { D with nx := tz D }) g0 hv h hp c na hl k
/-- o.f = e, e a new list that is nobody's yet -/
theorem s_fldM (g0 : Ex B H) (hv : EvM K tv σ B H ds) (h : EvV ta σ B H (.ref p)) (hp : H p = some (.ins C dx fs)) (c : Cls K C) (na : NoAttr K C f) (hl : fs.length < 1000)
    (k : ∀ l xs B1 H1, Gr B H B1 H1 → H l = none → B1 l = none → H1 l = some (.lst xs) → DqAll K B1 ds xs → D.nx σ (upd H1 p (.ins C dx (putF f (.ref l) fs)))) : sFld K ta tv f D σ H :=
  hv B H (Gr.refl g0) _ fun l xs B1 H1 g1 h1 h2 h3 h4 => h B1 H1 g1 _ fun y B2 H2 g2 e => ⟨p, C, dx, fs, e, g2.hh _ _ (g1.hh _ _ hp), c, na, hl, k l xs B2 H2 (g1.trans g2) h1 (g2.out h2 h3) (g2.hh _ _ h3) (h4.mono g2.bb)⟩
theorem q_fldM (g0 : Ex B H) (hv : EvM K tv σ B H ds) (h : EvV ta σ B H (.ref p)) (hp : H p = some (.ins C dx fs)) (c : Cls K C) (na : NoAttr K C f) (hl : fs.length < 1000)
    (k : ∀ l xs B1 H1, Gr B H B1 H1 → H l = none → B1 l = none → H1 l = some (.lst xs) → DqAll K B1 ds xs → tz D σ (upd H1 p (.ins C dx (putF f (.ref l) fs)))) : tSeq (sFld K ta tv f) tz D σ H := s_fldM (D := { D with nx := tz D }) g0 hv h hp c na hl k
/-! ### lists that may change, as long as they stand still -/
theorem evd_lenM (h : EvV ta σ B H (.ref l)) (hl : H l = some (.lst xs)) : EvD K (tCB (rLenS K) (tCons ta tNil)) σ B H (.int (xs.length : Int)) := fun B1 H1 g Q q =>
  h B1 H1 g _ fun y B2 H2 g2 e => ⟨l, xs, by rw [e], .inl (sq_of (g2.hh _ _ (g.hh _ _ hl))), q _ B2 H2 g2 (dq_int.mpr rfl)⟩
theorem evd_ixM (h : EvV ta σ B H (.ref l)) (hl : H l = some (.lst xs)) (hd : DqAll K B ds xs) (hb : EvD K tb σ B H (.int i)) (hi : atI ds i = some d) : EvD K (tOp (rIxL K) ta tb) σ B H d := fun B1 H1 g Q q =>
  h B1 H1 g _ fun y B2 H2 g2 e => hb B2 H2 (g.trans g2) _ fun z B3 H3 g3 p => by
    have g123 := (g.trans g2).trans g3
    obtain ⟨v, q3, q4⟩ := atI_all hd hi
    exact ⟨l, xs, i, v, e, dq_int.mp p, sq_of (g123.hh _ _ hl), q3, q v B3 H3 (g2.trans g3) (q4.mono g123.bb)⟩
/-- .. its items things that are told by their value -/
theorem ev_ixM (h : EvV ta σ B H (.ref l)) (hl : H l = some (.lst xs)) (hb : EvD K tb σ B H (.int i)) (hi : atI xs i = some v) : EvV (tOp (rIxL K) ta tb) σ B H v := fun B1 H1 g Q q =>
  h B1 H1 g _ fun y B2 H2 g2 e => hb B2 H2 (g.trans g2) _ fun z B3 H3 g3 p =>
    ⟨l, xs, i, v, e, dq_int.mp p, sq_of (((g.trans g2).trans g3).hh _ _ hl), hi, q v B3 H3 (g2.trans g3) rfl⟩
theorem evd_slM {tl th : TO} {lo hi : Option Int} (h : EvV te σ B H (.ref l)) (hl : H l = some (.lst xs)) (hd : DqAll K B ds xs) (h1 : EvO K tl σ B H lo) (h2 : EvO K th σ B H hi) : EvD K (tSl (rSlL K) te tl th) σ B H (.list (cutD ds lo hi)) := fun B1 H1 g Q q =>
  h B1 H1 g _ fun x B2 H2 g2 p => h1 B2 H2 (g.trans g2) _ fun B3 H3 g3 => h2 B3 H3 ((g.trans g2).trans g3) _ fun B4 H4 g4 => by
    have gg := ((g.trans g2).trans g3).trans g4
    refine ⟨l, xs, p, sq_of (gg.hh _ _ hl), fun m hm => q _ _ _ ((g2.trans (g3.trans g4)).trans (Gr.new gg.bh hm)) (dq_list.mpr ⟨m, _, rfl, upd_same, ?_⟩)⟩
    unfold cutV cutD
    rw [hd.len]
    exact ((hd.mono (gg.bb.trans (Ex.new (ex_none gg.bh hm)))).drop _).take _
theorem evd_listV (h : EvV te σ B H (.ref l)) (hl : H l = some (.lst xs)) (hd : DqAll K B ds xs) : EvD K (tCB (rListS K) (tCons te tNil)) σ B H (.list ds) := fun B1 H1 g Q q =>
  h B1 H1 g _ fun x B2 H2 g2 p => ⟨l, xs, by rw [p], .inl (sq_of (g2.hh _ _ (g.hh _ _ hl))), fun m hm => q _ _ _ (g2.trans (Gr.new g2.bh hm)) (dq_list.mpr ⟨m, xs, rfl, upd_same, hd.mono ((g.trans g2).bb.trans (Ex.new (ex_none g2.bh hm)))⟩)⟩
theorem evm_listV (h : EvV te σ B H (.ref l)) (hl : H l = some (.lst xs)) (hd : DqAll K B ds xs) : EvM K (tCB (rListS K) (tCons te tNil)) σ B H ds := fun B1 H1 g Q q =>
  h B1 H1 g _ fun x B2 H2 g2 p => ⟨l, xs, by rw [p], .inl (sq_of (g2.hh _ _ (g.hh _ _ hl))), fun m hm => q m xs B2 _ (g2.trans (Gr.newM g2.bh hm)) (ex_none g2.hh hm) (ex_none g2.bh hm) upd_same (hd.mono (g.trans g2).bb)⟩
theorem evm_slM {tl th : TO} {lo hi : Option Int} (h : EvV te σ B H (.ref l)) (hl : H l = some (.lst xs)) (hd : DqAll K B ds xs) (h1 : EvO K tl σ B H lo) (h2 : EvO K th σ B H hi) : EvM K (tSl (rSlL K) te tl th) σ B H (cutD ds lo hi) := fun B1 H1 g Q q =>
  h B1 H1 g _ fun x B2 H2 g2 p => h1 B2 H2 (g.trans g2) _ fun B3 H3 g3 => h2 B3 H3 ((g.trans g2).trans g3) _ fun B4 H4 g4 => by
    have gg := ((g.trans g2).trans g3).trans g4
    have gq := g2.trans (g3.trans g4)
    refine ⟨l, xs, p, sq_of (gg.hh _ _ hl), fun m hm => q m _ B4 _ (gq.trans (Gr.newM gg.bh hm)) (ex_none gq.hh hm) (ex_none gg.bh hm) upd_same ?_⟩
    have hq := hd.mono gg.bb
    unfold cutV cutD
    rw [hd.len]
    exact (hq.drop _).take _
/-- an int or a truth, asked while l stands still -/
theorem evd_tmpI {o : HO} (hl : H l = some o) (hb : B l = none) (h : EvD K te σ (upd B l o) H (.int i)) : EvD K te σ B H (.int i) := fun B1 H1 g Q q => by
  have b1 := g.out hb hl
  have h1 := g.hh _ _ hl
  refine h (upd B1 l o) H1 ⟨upd_ex g.bb, frz_ex g.bh h1, g.hh, fun a e1 e2 => ?_⟩ Q fun v B2 H2 g2 p => q v B1 H2 ⟨Ex.refl _, g.bh.trans g2.hh, g2.hh, fun a e1 e2 => absurd e1 e2⟩ (dq_int.mpr (dq_int.mp p))
  by_cases ha : a = l
  · subst ha
    rw [upd_same] at e1
    cases e1
  · rw [upd_ne ha] at e1 e2
    exact g.nw a e1 e2
theorem ev_frz {o : HO} (hl : H l = some o) (hb : B l = none) (h : EvV te σ B H x) : EvV te σ (upd B l o) H x := fun B1 H1 g Q q => by
  have e0 : ∀ a, (fun a => if a = l then Option.none else B1 a : Hp) a = if a = l then Option.none else B1 a := fun _ => rfl
  refine h (fun a => if a = l then Option.none else B1 a) H1 ⟨fun a u e => ?_, fun a u e => ?_, g.hh, fun a e1 e2 => ?_⟩ Q fun v B2 H2 g2 p => q v B1 H2 ⟨Ex.refl _, g.bh.trans g2.hh, g2.hh, fun a e1 e2 => absurd e1 e2⟩ p
  · show (if a = l then Option.none else B1 a) = some u
    have : a ≠ l := fun z => by rw [z, hb] at e; cases e
    rw [if_neg this]
    exact g.bb a u (by rw [upd_ne this]; exact e)
  · have e : (if a = l then Option.none else B1 a) = some u := e
    split at e
    · cases e
    · exact g.bh a u e
  · have e2 : (if a = l then Option.none else B1 a) ≠ Option.none := e2
    split at e2
    · exact absurd rfl e2
    · rename_i ha
      exact g.nw a (by rw [upd_ne ha]; exact e1) e2
/-! ### what changes something -/
/-- o.m(..) -/
theorem m_meth {m : Str} {sp : Sp} {E : XK} {t : TA} {P : Hp → List V → Prop} {Q : VK} (g0 : Ex B H) (h : EvV ta σ B H (.ref p)) (hp : H p = some (.ins C dx fs)) (hm : fs.lookup m = none) (ht : EvA t σ B H P)
    (k : ∀ vs B1 H1, Gr B H B1 H1 → P B1 vs → sp (.ref p :: vs) H1 Q E) : tMeth C m sp [] E ta t σ H Q :=
  h B H (Gr.refl g0) _ fun x B1 H1 g1 e => ⟨p, dx, fs, e, g1.hh _ _ hp, hm, ht B1 H1 g1 _ fun vs B2 H2 g2 q => by
    rw [List.append_nil, e]
    exact k vs B2 H2 (g1.trans g2) q⟩
theorem q_asgX (h : te σ H fun v H1 => tz D (σ.set n (some v)) H1) : tSeq (tAsg te (gName n)) tz D σ H := h
theorem s_asgX (h : te σ H fun v H1 => D.nx (σ.set n (some v)) H1) : tAsg te (gName n) D σ H := h
theorem q_dropX (h : te σ H fun _ H1 => tz D σ H1) : tSeq (tDrop te) tz D σ H := h
theorem s_dropX (h : te σ H fun _ H1 => D.nx σ H1) : tDrop te D σ H := h
theorem s_retX (h : te σ H fun v H1 => D.rt v H1) : tRet te D σ H := h
theorem s_ifOpX {r : R2} (h : ta σ H fun x H1 => tb σ H1 fun y H2 => r x y H2 fun z H3 => ∃ k, z = .bl k ∧ (if k = true then tu D σ H3 else tw D σ H3)) : tIfS (tTest (tOp r ta tb)) tu tw D σ H := h
theorem s_ifBX (h : te σ H fun z H3 => ∃ k, z = .bl k ∧ (if k = true then tu D σ H3 else tw D σ H3)) : tIfS (tB te) tu tw D σ H := h
/-- C(..): new, its footprint x and its dict's place -/
theorem m_make {sp : Sp} {E : XK} {t : TA} {P : Hp → List V → Prop} {Q : VK} (g0 : Ex B H) (ht : EvA t σ B H P)
    (k : ∀ vs B1 H1 x dx, Gr B H B1 H1 → P B1 vs → H1 x = none → H1 dx = none → dx ≠ x → sp (.ref x :: vs) (upd (upd H1 dx (.own x)) x (.ins C dx [])) (fun v H2 => v = .non ∧ Q (.ref x) H2) E) : tMake C sp [] E t σ H Q :=
  ht B H (Gr.refl g0) _ fun vs B1 H1 g1 p x dx h1 h2 h3 => by
    rw [List.append_nil]
    exact k vs B1 H1 x dx g1 p h1 h2 h3
/-- l.append(e) -/
theorem s_appV (g0 : Ex B H) (hb : B l = none) (hl : H l = some (.lst xs)) (ha : EvV ta σ B H (.ref l)) (h : EvD K te σ B H d) (hz : xs.length < 100000)
    (k : ∀ v B1 H1, Gr B H B1 H1 → Dq K B1 d v → D.nx σ (upd H1 l (.lst (xs ++ [v])))) : tDrop (tBM K "list" rAppend ta (tCons te tNil)) D σ H :=
  ha B H (Gr.refl g0) _ fun x B1 H1 g1 e => by
    subst e
    exact ⟨.inl ⟨rfl, xs, sq_of (g1.hh _ _ hl)⟩, h B1 H1 g1 _ fun v B2 H2 g p => ⟨l, xs, v, rfl, rfl, g.hh _ _ (g1.hh _ _ hl), sz_lt hz, k v B2 H2 (g1.trans g) p⟩⟩
theorem q_appV (g0 : Ex B H) (hb : B l = none) (hl : H l = some (.lst xs)) (ha : EvV ta σ B H (.ref l)) (h : EvD K te σ B H d) (hz : xs.length < 100000)
    (k : ∀ v B1 H1, Gr B H B1 H1 → Dq K B1 d v → tz D σ (upd H1 l (.lst (xs ++ [v])))) : tSeq (tDrop (tBM K "list" rAppend ta (tCons te tNil))) tz D σ H := s_appV (D := { D with nx := tz D }) g0 hb hl ha h hz k
end

/-! ### classes of the text -/
structure ClsAt (K : PySem.W.Frag) (mg : Str → Option Value) (x : Str) (C : Addr) (fs : List Str) : Prop where
  cl : Cls K C
  g : mg x = some (.ref C)
  mks : PySem.W.makesIn K C = true
  kp : PySem.W.keepIn K (.ref C) = true
  na : ∀ f ∈ fs, NoAttr K C f
structure MethAt (K : PySem.W.Frag) (C : Addr) (m q : Str) (st : Stmt) (ps : List Str) (f : Addr) (fd : FuncData) : Prop where
  F : Fun K m q st f fd
  b : Binds K fd ps []
  M : Meth K C m f
structure CalleeM (P : Program) (w : World) (K : PySem.W.Frag) (mg : Str → Option Value) (base : Heap) (CX : CXT) (k : Nat) (C : Addr) (m : Str) (ps : List Str) (sp : Sp) (f : Addr) (fd : FuncData) : Prop where
  G : FnOk P w K mg base CX k f fd ps sp
  b : Binds K fd ps []
  M : Meth K C m f
section
variable {P : Program} {w : World} {K : PySem.W.Frag} {mg : Str → Option Value} {base : Heap} {x m q : Str} {st : Stmt} {ps N fs : List Str} {C f : Addr} {fd : FuncData} {k : Nat}
theorem ClsAt.Mk (T : ClsAt K mg x C fs) (M : Meth K C "__init__" f) : L2.Mk K C f := ⟨T.mks, M.at_, M.fn, T.kp⟩
theorem MethAt.ok {sp : Sp} (D : MethAt K C m q st ps f fd) (S : FnScope N ps (defScope st)) (len : ∀ vs H Q E, sp vs H Q E → vs.length = ps.length)
    (hbody : ∀ (cdv : Value) (A : Around) (outer : List Env) (s : Shared) (H : Hp) (vs : List V) (Q : VK) (E : XK), Room k (A.deeper (PyProof.Rows.envOfC q (defScope st) s.heap.objs.size f cdv)) → sp vs H Q E →
      ∃ t, PSs (cxOf CX0 P w K mg base N q (defScope st) f cdv A outer s H E).nox (defBody st) t ∧ t { nx := fun _ H' => Q .non H', rt := Q } (start N vs) H) : CalleeM P w K mg base CX0 (k + 1) C m ps sp f fd :=
  ⟨D.F.ok S len hbody, D.b, D.M⟩
theorem MethAt.okN {sp : Sp} (D : MethAt K C m q st ps f fd) (S : FnScope N ps (defScope st)) (len : ∀ vs H Q E, sp vs H Q E → vs.length = ps.length)
    (hbody : ∀ (cdv : Value) (A : Around) (outer : List Env) (s : Shared) (H : Hp) (vs : List V) (Q : VK) (E : XK), Room k (A.deeper (PyProof.Rows.envOfC q (defScope st) s.heap.objs.size f cdv)) → sp vs H Q E →
      ∃ t, PSs (cxOf (L2N.CX P w) P w K mg base N q (defScope st) f cdv A outer s H E) (defBody st) t ∧ t { nx := fun _ H' => Q .non H', rt := Q } (start N vs) H) : CalleeM P w K mg base (L2N.CX P w) (k + 1) C m ps sp f fd := by
  refine ⟨?_, D.b, D.M⟩
  obtain ⟨oc, od, kV, doc, pm, an, cdv, ct, osl, rfl, lk, hcd⟩ := D.F.ex
  exact fn_of lk hcd S len fun A outer s H vs Q E hr hsp => hbody cdv A outer s H vs Q E hr hsp
theorem DefAt.okC {sp : Sp} (D : DefAt K mg x st ps f fd) (S : FnScope N ps (defScope st)) (len : ∀ vs H Q E, sp vs H Q E → vs.length = ps.length)
    (hbody : ∀ (cdv : Value) (A : Around) (outer : List Env) (s : Shared) (H : Hp) (vs : List V) (Q : VK) (E : XK), Room k (A.deeper (PyProof.Rows.envOfC x (defScope st) s.heap.objs.size f cdv)) → sp vs H Q E →
      ∃ t, PSs (cxOf CX0 P w K mg base N x (defScope st) f cdv A outer s H E).nox (defBody st) t ∧ t { nx := fun _ H' => Q .non H', rt := Q } (start N vs) H) : Callee P w K mg base (k + 1) x ps sp f fd :=
  D.ok (D.F.ok S len hbody)
end
/-! ### a truth or an int, asked while more stands still -/
def un (B B' : Hp) : Hp := fun a => match B a with
  | some o => some o
  | none => B' a
theorem un_l {B B' : Hp} {a : Addr} {o : HO} (h : B a = some o) : un B B' a = some o := by unfold un; rw [h]
theorem un_r {B B' : Hp} {a : Addr} (h : B a = none) : un B B' a = B' a := by unfold un; rw [h]
theorem un_ex {B B' H : Hp} (h : Ex B H) (h' : Ex B' H) : Ex (un B B') H := fun a u e => by
  cases q : B a with
  | some o => rw [un_l q] at e; rw [← e]; exact h a o q
  | none => rw [un_r q] at e; exact h' a u e
theorem un_ex2 {B B' H : Hp} (h : Ex B H) (h' : Ex B' H) : Ex B' (un B B') := fun a u e => by
  cases q : B a with
  | some o => rw [un_l q, ← h a o q]; exact h' a u e
  | none => rw [un_r q]; exact e
theorem tmp_gr {B B' H B1 H1 : Hp} (h1 : Ex B B') (h2 : Ex B' H) (g : Gr B H B1 H1) : Gr B' H (un B1 B') H1 :=
  ⟨un_ex2 g.bh (h2.trans g.hh), un_ex g.bh (h2.trans g.hh), g.hh, fun a e1 e2 => by
    cases q : B1 a with
    | some o => exact g.nw a (ex_none h1 e1) (some_ne q)
    | none => rw [un_r q] at e2; exact absurd e1 e2⟩
theorem tmp_back {B B1 H1 B2 H2 : Hp} (g : Ex B1 H1) (g2 : Gr B H1 B2 H2) : Gr B1 H1 B1 H2 := ⟨Ex.refl _, g.trans g2.hh, g2.hh, fun a e1 e2 => absurd e1 e2⟩
section
variable {K : PySem.W.Frag} {σ : L2.St} {ta tb te tv : TE} {D : Ends} {tu tz tw : TS} {n : Nat} {i j : Int} {d : PyData} {ds es : List PyData} {l : Addr} {b c : Bool} {xs ys : List V} {t : TT} {B' : Hp}
theorem evd_tmp (h1 : Ex B B') (h2 : Ex B' H) (h : EvD K te σ B' H (.bool b)) : EvD K te σ B H (.bool b) := fun B1 H1 g Q q =>
  h _ H1 (tmp_gr h1 h2 g) Q fun v B2 H2 g2 p => q v B1 H2 (tmp_back g.bh g2) (dq_bool.mpr (dq_bool.mp p))
theorem evd_tmpJ (h1 : Ex B B') (h2 : Ex B' H) (h : EvD K te σ B' H (.int i)) : EvD K te σ B H (.int i) := fun B1 H1 g Q q =>
  h _ H1 (tmp_gr h1 h2 g) Q fun v B2 H2 g2 p => q v B1 H2 (tmp_back g.bh g2) (dq_int.mpr (dq_int.mp p))
theorem et_tmp (h1 : Ex B B') (h2 : Ex B' H) (h : EvT K t σ B' H b) : EvT K t σ B H b := fun B1 H1 g Q q =>
  h _ H1 (tmp_gr h1 h2 g) Q fun B2 H2 g2 => q B1 H2 (tmp_back g.bh g2)
/-- what stands at some places, kept too -/
def kept (B H : Hp) (ls : List Addr) : Hp := fun a => if a ∈ ls then H a else B a
theorem kept_ex {ls : List Addr} (h : Ex B H) : Ex B (kept B H ls) := fun a u e => by
  unfold kept
  split
  · exact h a u e
  · exact e
theorem kept_in {ls : List Addr} (h : Ex B H) : Ex (kept B H ls) H := fun a u e => by
  unfold kept at e
  split at e
  · exact e
  · exact h a u e
theorem kept_dq {ls : List Addr} (h : Ex B H) (hl : H l = some (.lst xs)) (hm : l ∈ ls) (hd : DqAll K B ds xs) : Dq K (kept B H ls) (.list ds) (.ref l) :=
  dq_list.mpr ⟨l, xs, rfl, by unfold kept; rw [if_pos hm]; exact hl, hd.mono (kept_ex h)⟩
theorem evd_isB (ha : EvD K ta σ B H (.bool b)) (hb : EvD K tb σ B H (.bool c)) : EvD K (tOp rIsB ta tb) σ B H (.bool (decide (b = c))) :=
  evd_op ha hb fun x y B1 H1 gr h1 h2 Q q => ⟨b, c, dq_bool.mp h1, dq_bool.mp h2, q _ B1 H1 gr.le (dq_bool.mpr rfl)⟩
theorem evd_notB (ha : EvD K ta σ B H (.bool b)) (hb : EvD K tb σ B H (.bool c)) : EvD K (tOp rNotB ta tb) σ B H (.bool (!decide (b = c))) :=
  evd_op ha hb fun x y B1 H1 gr h1 h2 Q q => ⟨b, c, dq_bool.mp h1, dq_bool.mp h2, q _ B1 H1 gr.le (dq_bool.mpr rfl)⟩
/-- new lists -/
theorem evm_lst {tr : TA} (h : EvA tr σ B H fun B1 vs => DqAll K B1 ds vs) (hl : ds.length ≤ 100000) : EvM K (tLst tr) σ B H ds := fun B1 H1 g Q q =>
  h B1 H1 g _ fun xs B2 H2 g2 p => ⟨sz_of (by rw [p.len]; exact hl), fun l hl => q l xs B2 _ (g2.trans (Gr.newM g2.bh hl)) (ex_none g2.hh hl) (ex_none g2.bh hl) upd_same p⟩
theorem evm_sl {tl th : TO} {lo hi : Option Int} (h : EvD K te σ B H (.list ds)) (h1 : EvO K tl σ B H lo) (h2 : EvO K th σ B H hi) : EvM K (tSl (rSlL K) te tl th) σ B H (cutD ds lo hi) := fun B1 H1 g Q q =>
  h B1 H1 g _ fun x B2 H2 g2 p => h1 B2 H2 (g.trans g2) _ fun B3 H3 g3 => h2 B3 H3 ((g.trans g2).trans g3) _ fun B4 H4 g4 => by
    obtain ⟨a, xs, rfl, q1, q2⟩ := dq_list.mp p
    have gq := g2.trans (g3.trans g4)
    refine ⟨a, xs, rfl, sq_of (g4.bh _ _ (g4.bb _ _ (g3.bb _ _ q1))), fun m hm => q m _ B4 _ (gq.trans (Gr.newM g4.bh hm)) (ex_none gq.hh hm) (ex_none g4.bh hm) upd_same ?_⟩
    unfold cutV cutD
    rw [q2.len]
    exact ((q2.mono (g3.bb.trans g4.bb)).drop _).take _
theorem s_asgM (g0 : Ex B H) (h : EvM K te σ B H ds) (k : ∀ p xs B1 H1, Gr B H B1 H1 → H p = none → B1 p = none → H1 p = some (.lst xs) → DqAll K B1 ds xs → D.nx (σ.set n (some (.ref p))) H1) : tAsg te (gName n) D σ H := h B H (Gr.refl g0) _ k
theorem q_asgM (g0 : Ex B H) (h : EvM K te σ B H ds) (k : ∀ p xs B1 H1, Gr B H B1 H1 → H p = none → B1 p = none → H1 p = some (.lst xs) → DqAll K B1 ds xs → tz D (σ.set n (some (.ref p))) H1) : tSeq (tAsg te (gName n)) tz D σ H := s_asgM (D := { D with nx := tz D }) g0 h k
/-- a def that gives a new list -/
def spM (K : PySem.W.Frag) (R : List PyData → List PyData → Prop) : Sp := fun vs H Q _ => ∃ B ds es, Ex B H ∧ DqAll K B ds vs ∧ R ds es ∧ ∀ p xs B1 H1, Gr B H B1 H1 → H p = none → B1 p = none → H1 p = some (.lst xs) → DqAll K B1 es xs → Q (.ref p) H1
theorem evm_call {R : List PyData → List PyData → Prop} {tr : TA} {E : XK} (h : EvA tr σ B H fun B1 vs => DqAll K B1 ds vs) (hr : R ds es) : EvM K (tCall (spM K R) [] E tr) σ B H es := fun B1 H1 g Q q =>
  h B1 H1 g _ fun vs B2 H2 g2 p => ⟨B2, ds, es, g2.bh, by rw [List.append_nil]; exact p, hr, fun l xs B3 H3 g3 p1 p2 p3 p4 => q l xs B3 H3 (g2.trans g3) (ex_none g2.hh p1) p2 p3 p4⟩
/-- arguments that are no data -/
theorem ea_consV {tr : TA} {x : V} {P : Hp → List V → Prop} (h : EvV ta σ B H x) (hr : EvA tr σ B H P) : EvA (tCons ta tr) σ B H fun B1 vs => ∃ ws, vs = x :: ws ∧ P B1 ws := fun B1 H1 g Q q =>
  h B1 H1 g _ fun y B2 H2 g2 e => hr B2 H2 (g.trans g2) _ fun vs B3 H3 g3 p => q _ B3 H3 (g2.trans g3) ⟨vs, by rw [e], p⟩
theorem ea_consD {tr : TA} {P : Hp → List V → Prop} (h : EvD K ta σ B H d) (hr : EvA tr σ B H P) : EvA (tCons ta tr) σ B H fun B1 vs => ∃ v ws, vs = v :: ws ∧ Dq K B1 d v ∧ P B1 ws := fun B1 H1 g Q q =>
  h B1 H1 g _ fun y B2 H2 g2 e => hr B2 H2 (g.trans g2) _ fun vs B3 H3 g3 p => q _ B3 H3 (g2.trans g3) ⟨y, vs, rfl, e.mono g3.bb, p⟩
theorem ea_nil0 : EvA tNil σ B H fun _ vs => vs = [] := fun B1 H1 g Q q => q [] B1 H1 g.le rfl
end
/-- a list at a place, and what its items are as data -/
def LAt (K : PySem.W.Frag) (B H : Hp) (ds : List PyData) (v : V) : Prop := ∃ a xs, v = .ref a ∧ H a = some (.lst xs) ∧ DqAll K B ds xs
theorem Dq.lat {K : PySem.W.Frag} {ds : List PyData} {v : V} (h : Dq K B (.list ds) v) (e : Ex B H) : LAt K B H ds v := by
  obtain ⟨a, xs, q, q1, q2⟩ := dq_list.mp h
  exact ⟨a, xs, q, e _ _ q1, q2⟩
theorem LAt.mono {K : PySem.W.Frag} {ds : List PyData} {v : V} (h : LAt K B H ds v) (g : Gr B H B1 H1) : LAt K B1 H1 ds v := by
  obtain ⟨a, xs, q, q1, q2⟩ := h
  exact ⟨a, xs, q, g.hh _ _ q1, q2.mono g.bb⟩
end G

/-! Rows and keepers in plain Lean: what the document's points 3 to 15 say, and the mathematics of 16 and 17. -/
set_option linter.all false
set_option maxHeartbeats 1000000
namespace Rf
variable {α : Type}
/-! ### rows -/
def lastT (es : List (Int × α)) : Int := match es.getLast? with
  | some e => e.1
  | none => 0
theorem lastT_snoc (es : List (Int × α)) (e : Int × α) : lastT (es ++ [e]) = e.1 := by
  unfold lastT
  rw [List.getLast?_concat]
theorem lastT_nil : lastT ([] : List (Int × α)) = 0 := rfl
theorem lastT_at {es : List (Int × α)} {n : Nat} {e : Int × α} (hn : es.length = n + 1) (he : es[n]? = some e) : lastT es = e.1 := by
  unfold lastT
  rw [List.getLast?_eq_getElem?, hn, Nat.add_sub_cancel, he]
theorem lastT_take {es : List (Int × α)} {i : Nat} {e : Int × α} (h : es[i]? = some e) : lastT (es.take (i + 1)) = e.1 := by
  rw [List.take_add_one, h]
  exact lastT_snoc _ _
def newM (es fs : List (Int × α)) : Bool := if lastT es = lastT fs then decide (fs.length ≤ es.length) else decide (lastT fs < lastT es)
/-- agrees at a place with a term -/
def agr (r : List (Int × α)) (a : Nat) (t : Int) : Bool := decide (a = 0) || match r[a - 1]? with
  | some e => decide (a ≤ r.length) && decide (e.1 = t)
  | none => false
theorem agr_iff {r : List (Int × α)} {a : Nat} {t : Int} : agr r a t = true ↔ a = 0 ∨ ∃ e, r[a - 1]? = some e ∧ 0 < a ∧ e.1 = t := by
  unfold agr
  cases h : r[a - 1]? with
  | none => simp
  | some e =>
    have := (List.getElem?_eq_some_iff.mp h).1
    simp only [Bool.or_eq_true, decide_eq_true_eq, Bool.and_eq_true, Option.some.injEq, exists_eq_left']
    constructor
    · rintro (h | ⟨h1, h2⟩)
      · exact .inl h
      · by_cases ha : a = 0
        · exact .inl ha
        · exact .inr ⟨by omega, h2⟩
    · rintro (h | ⟨h1, h2⟩)
      · exact .inl h
      · exact .inr ⟨by omega, h2⟩
def fillT : List (Int × α) → List (Int × α) → List (Int × α)
  | t, [] => t
  | [], f :: fs => f :: fs
  | e :: t, f :: fs => if e.1 = f.1 then e :: fillT t fs else f :: fs
def fillM (es : List (Int × α)) (a : Nat) (fs : List (Int × α)) : List (Int × α) := es.take a ++ fillT (es.drop a) fs
def alikeT (t fs : List (Int × α)) (i : Nat) : Prop := ∀ j, j < i → ∃ e f, t[j]? = some e ∧ fs[j]? = some f ∧ e.1 = f.1
/-- the two ways of filling: all alike, or from the first that is unlike -/
theorem fillT_two : ∀ t fs : List (Int × α), (alikeT t fs fs.length ∧ fillT t fs = t) ∨ ∃ i, i < fs.length ∧ alikeT t fs i ∧ (t.length ≤ i ∨ ∃ e f, t[i]? = some e ∧ fs[i]? = some f ∧ e.1 ≠ f.1) ∧ fillT t fs = t.take i ++ fs.drop i
  | t, [] => .inl ⟨fun j hj => absurd hj (Nat.not_lt_zero _), by cases t <;> rfl⟩
  | [], f :: fs => .inr ⟨0, by simp, fun j hj => absurd hj (Nat.not_lt_zero _), .inl (Nat.zero_le _), rfl⟩
  | e :: t, f :: fs => by
    by_cases h : e.1 = f.1
    · have hf : fillT (e :: t) (f :: fs) = e :: fillT t fs := if_pos h
      have up : ∀ {i}, alikeT t fs i → alikeT (e :: t) (f :: fs) (i + 1) := fun {i} ha j hj => by
        cases j with
        | zero => exact ⟨e, f, rfl, rfl, h⟩
        | succ j =>
          obtain ⟨e', f', h1, h2, h3⟩ := ha j (by omega)
          exact ⟨e', f', by simpa using h1, by simpa using h2, h3⟩
      rcases fillT_two t fs with ⟨h1, h2⟩ | ⟨i, h1, h2, h3, h4⟩
      · exact .inl ⟨up h1, by rw [hf, h2]⟩
      · refine .inr ⟨i + 1, by simpa using h1, up h2, h3.imp (fun q => by simpa using q) (fun ⟨e', f', q1, q2, q3⟩ => ⟨e', f', by simpa using q1, by simpa using q2, q3⟩), ?_⟩
        rw [hf, h4]
        rfl
    · refine .inr ⟨0, by simp, fun j hj => absurd hj (Nat.not_lt_zero _), .inr ⟨e, f, rfl, rfl, h⟩, ?_⟩
      show (if e.1 = f.1 then _ else f :: fs) = _
      rw [if_neg h]
      rfl
/-- the greatest number up to n whose entry is of the term -/
def setM (es : List (Int × α)) (t : Int) : Nat → Nat
  | 0 => 0
  | n + 1 => match es[n]? with
    | some e => if e.1 = t then n + 1 else setM es t n
    | none => setM es t n
theorem setM_le (es : List (Int × α)) (t : Int) : ∀ n, setM es t n ≤ n
  | 0 => Nat.le_refl _
  | n + 1 => by
    have ih := setM_le es t n
    unfold setM
    split
    · split <;> omega
    · omega
theorem setM_at (es : List (Int × α)) (t : Int) : ∀ n, setM es t n = 0 ∨ ∃ m e, setM es t n = m + 1 ∧ es[m]? = some e ∧ e.1 = t
  | 0 => .inl rfl
  | n + 1 => by
    have ih := setM_at es t n
    unfold setM
    split
    · rename_i e he
      split
      · rename_i h
        exact .inr ⟨n, e, rfl, he, h⟩
      · exact ih
    · exact ih
theorem setM_hit {es : List (Int × α)} {t : Int} {n : Nat} {e : Int × α} (he : es[n]? = some e) (h : e.1 = t) : setM es t (n + 1) = n + 1 := by
  unfold setM
  rw [he]
  exact if_pos h

/-! ### terms in order, terms within -/
def Srt (es : List (Int × α)) : Prop := ∀ (i j : Nat) (a b : Int × α), i ≤ j → es[i]? = some a → es[j]? = some b → a.1 ≤ b.1
def Wit (es : List (Int × α)) (t : Int) : Prop := ∀ (i : Nat) (e : Int × α), es[i]? = some e → 1 ≤ e.1 ∧ e.1 ≤ t
theorem get_take {es : List (Int × α)} {n i : Nat} {e : Int × α} (h : (es.take n)[i]? = some e) : es[i]? = some e ∧ i < n := by
  rw [List.getElem?_take] at h
  split at h
  · exact ⟨h, by assumption⟩
  · cases h
theorem take_get {es : List (Int × α)} {n i : Nat} {e : Int × α} (h : es[i]? = some e) (hi : i < n) : (es.take n)[i]? = some e := by
  rw [List.getElem?_take, if_pos hi]
  exact h
theorem Srt.take {es : List (Int × α)} (h : Srt es) (n : Nat) : Srt (es.take n) := fun i j a b hij h1 h2 => h i j a b hij (get_take h1).1 (get_take h2).1
theorem Wit.take {es : List (Int × α)} {t : Int} (h : Wit es t) (n : Nat) : Wit (es.take n) t := fun i e h1 => h i e (get_take h1).1
theorem Wit.mono {es : List (Int × α)} {t u : Int} (h : Wit es t) (k : t ≤ u) : Wit es u := fun i e h1 => ⟨(h i e h1).1, Int.le_trans (h i e h1).2 k⟩
theorem snoc_get {es : List (Int × α)} {x e : Int × α} {i : Nat} (h : (es ++ [x])[i]? = some e) : es[i]? = some e ∨ (i = es.length ∧ e = x) := by
  by_cases hi : i < es.length
  · rw [List.getElem?_append_left hi] at h
    exact .inl h
  · rw [List.getElem?_append_right (by omega)] at h
    by_cases h0 : i - es.length = 0
    · rw [h0] at h
      exact .inr ⟨by omega, (Option.some.inj h).symm⟩
    · rw [List.getElem?_eq_none (by simp; omega)] at h
      cases h
theorem Srt.snoc {es : List (Int × α)} {t : Int} {x : Int × α} (h : Srt es) (w : Wit es t) (hx : t ≤ x.1) : Srt (es ++ [x]) := fun i j a b hij h1 h2 => by
  rcases snoc_get h1 with q1 | ⟨q1, rfl⟩
  · rcases snoc_get h2 with q2 | ⟨q2, rfl⟩
    · exact h i j a b hij q1 q2
    · exact Int.le_trans (w i a q1).2 hx
  · rcases snoc_get h2 with q2 | ⟨q2, rfl⟩
    · have := (List.getElem?_eq_some_iff.mp q2).1
      omega
    · exact Int.le_refl _
theorem Wit.snoc {es : List (Int × α)} {t : Int} {x : Int × α} (w : Wit es t) (h1 : 1 ≤ x.1) (h2 : x.1 ≤ t) : Wit (es ++ [x]) t := fun i e h => by
  rcases snoc_get h with q | ⟨_, rfl⟩
  · exact w i e q
  · exact ⟨h1, h2⟩
theorem take_len {es : List (Int × α)} {n : Nat} (h : n ≤ es.length) : (es.take n).length = n := by
  rw [List.length_take]
  omega
/-- what has the same beginning has a shorter one too -/
theorem take_less {r l : List (Int × α)} {m n : Nat} (h : r.take n = l.take n) (hm : m ≤ n) : r.take m = l.take m := by
  have e : ∀ x : List (Int × α), (x.take n).take m = x.take m := fun x => by rw [List.take_take, Nat.min_eq_left hm]
  rw [← e r, ← e l, h]
theorem get_of_take {r l : List (Int × α)} {n i : Nat} (h : r.take n = l.take n) (hi : i < n) : r[i]? = l[i]? := by
  have q : (r.take n)[i]? = (l.take n)[i]? := by rw [h]
  rw [List.getElem?_take, List.getElem?_take, if_pos hi, if_pos hi] at q
  exact q
theorem take_snoc {l : List (Int × α)} {x : Int × α} {n : Nat} (h : n ≤ l.length) : (l ++ [x]).take n = l.take n := List.take_append_of_le_length h

/-! ### counting -/
def cnt (n : Nat) (p : Nat → Bool) : Nat := (List.range n).countP p
theorem cnt_le (n : Nat) (p : Nat → Bool) : cnt n p ≤ n := by
  have h := List.countP_le_length (p := p) (l := List.range n)
  rw [List.length_range] at h
  exact h
theorem cnt_mono {n : Nat} {p q : Nat → Bool} (h : ∀ v, v < n → p v = true → q v = true) : cnt n p ≤ cnt n q :=
  List.countP_mono_left fun v hv => h v (List.mem_range.mp hv)
theorem cnt_both (n : Nat) (p q : Nat → Bool) : cnt n p + cnt n q ≤ cnt n (fun v => p v && q v) + n := by
  unfold cnt
  induction n with
  | zero => simp
  | succ n ih =>
    rw [List.range_succ, List.countP_append, List.countP_append, List.countP_append]
    simp only [List.countP_cons, List.countP_nil]
    cases p n <;> cases q n <;> simp <;> omega
theorem cnt_meet {n : Nat} {p q : Nat → Bool} (hp : n < 2 * cnt n p) (hq : n < 2 * cnt n q) : ∃ v, v < n ∧ p v = true ∧ q v = true := by
  have h := cnt_both n p q
  have h1 : 0 < cnt n (fun v => p v && q v) := by omega
  unfold cnt at h1
  obtain ⟨v, hv, e⟩ := List.countP_pos_iff.mp h1
  have e := Bool.and_eq_true_iff.mp e
  exact ⟨v, List.mem_range.mp hv, e.1, e.2⟩
theorem cnt_congr {n : Nat} {p q : Nat → Bool} (h : ∀ v, v < n → p v = q v) : cnt n p = cnt n q := by
  unfold cnt
  exact List.countP_congr fun v hv => by rw [h v (List.mem_range.mp hv)]
theorem cnt_one {n k : Nat} (hk : k < n) (p : Nat → Bool) (hp : p k = false) : cnt n (fun v => decide (v = k) || p v) = cnt n p + 1 := by
  unfold cnt
  induction n with
  | zero => omega
  | succ n ih =>
    rw [List.range_succ, List.countP_append, List.countP_append]
    simp only [List.countP_cons, List.countP_nil]
    by_cases h : k < n
    · rw [ih h]
      have : decide (n = k) = false := decide_eq_false (by omega)
      rw [this, Bool.false_or]
      omega
    · have e : k = n := by omega
      subst e
      rw [hp, decide_eq_true rfl, Bool.true_or]
      have h0 : List.countP (fun v => decide (v = k) || p v) (List.range k) = List.countP p (List.range k) := List.countP_congr fun v hv => by
        have := List.mem_range.mp hv
        rw [decide_eq_false (by omega), Bool.false_or]
      rw [h0]
      simp
end Rf

set_option linter.all false
set_option maxHeartbeats 1000000
namespace Rf
variable {α : Type}
/-! ### the room -/
structure Kp (α : Type) where
  term : Int
  row : List (Int × α)
  leads : Bool
  settled : Nat
  next : Nat → Nat
  held : Nat → Nat
abbrev Room (α : Type) := Nat → Kp α
def put (S : Room α) (k : Nat) (x : Kp α) : Room α := fun j => if j = k then x else S j
theorem put_same {S : Room α} {k : Nat} {x : Kp α} : put S k x k = x := if_pos rfl
theorem put_ne {S : Room α} {k j : Nat} {x : Kp α} (h : j ≠ k) : put S k x j = S j := if_neg h
def hear (x : Kp α) (t : Int) : Kp α := if x.term < t then { x with term := t, leads := false } else x
theorem hear_lt {x : Kp α} {t : Int} (h : x.term < t) : hear x t = { x with term := t, leads := false } := if_pos h
theorem hear_ge {x : Kp α} {t : Int} (h : ¬ x.term < t) : hear x t = x := if_neg h
theorem hear_term {x : Kp α} {t : Int} : (hear x t).term = max x.term t := by
  unfold hear
  split
  · show t = _
    omega
  · omega
theorem hear_row {x : Kp α} {t : Int} : (hear x t).row = x.row := by unfold hear; split <;> rfl
theorem hear_settled {x : Kp α} {t : Int} : (hear x t).settled = x.settled := by unfold hear; split <;> rfl
theorem hear_leads {x : Kp α} {t : Int} (h : (hear x t).leads = true) : x.leads = true ∧ hear x t = x := by
  unfold hear at h ⊢
  split at h
  · cases h
  · rename_i hh
    rw [if_neg hh]
    exact ⟨h, rfl⟩
/-- one is asked, in t, for r -/
def ask1 (t : Int) (r : List (Int × α)) (a : Room α × Nat) (o : Nat) : Room α × Nat :=
  if (a.1 o).term < t then (put a.1 o { a.1 o with term := t, leads := false }, if newM r (a.1 o).row = true then a.2 + 1 else a.2) else a
def asked (t : Int) (r : List (Int × α)) (S : Room α) (os : List Nat) : Room α × Nat := os.foldl (ask1 t r) (S, 1)
/-- what standing leaves, whether it leads -/
def standR (n : Nat) (S : Room α) (k : Nat) (os : List Nat) : Room α × Bool :=
  let t := (S k).term + 1
  let a := asked t (S k).row (put S k { S k with term := t, leads := false }) os
  if n < 2 * a.2 then (put a.1 k { a.1 k with leads := true, next := fun _ => (S k).row.length, held := fun _ => 0 }, true) else (a.1, false)
def writeR (S : Room α) (k : Nat) (w : α) : Room α := put S k { S k with row := (S k).row ++ [((S k).term, w)] }
def setF (f : Nat → Nat) (o v : Nat) : Nat → Nat := fun j => if j = o then v else f j
def handR (S : Room α) (k o m : Nat) : Room α × Bool :=
  if (S k).term < (S o).term then (put S k (hear (S k) (S o).term), false)
  else
    let x := hear (S o) (S k).term
    let a := (S k).next o
    if agr x.row a (lastT ((S k).row.take a)) = true then
      let some_ := ((S k).row.drop a).take m
      let b := a + some_.length
      (put (put S o { x with row := fillM x.row a some_, settled := max x.settled (min (S k).settled b) }) k { S k with next := setF (S k).next o b, held := setF (S k).held o b }, true)
    else (put (put S o x) k { S k with next := setF (S k).next o (a - 1) }, false)
/-- held, as one that leads counts it -/
def heldM (S : Room α) (k : Nat) : Nat → Nat := fun o => if o = k then (S k).row.length else (S k).held o
/-- the greatest number up to m that more than half reach and whose entry is of the term -/
def settM (n : Nat) (h : Nat → Nat) (es : List (Int × α)) (t : Int) : Nat → Nat
  | 0 => 0
  | m + 1 => match es[m]? with
    | some e => if n < 2 * cnt n (fun v => decide (m + 1 ≤ h v)) ∧ e.1 = t then m + 1 else settM n h es t m
    | none => settM n h es t m
theorem settM_at (n : Nat) (h : Nat → Nat) (es : List (Int × α)) (t : Int) : ∀ m, settM n h es t m = 0 ∨ ∃ j e, settM n h es t m = j + 1 ∧ es[j]? = some e ∧ e.1 = t ∧ n < 2 * cnt n (fun v => decide (j + 1 ≤ h v))
  | 0 => .inl rfl
  | m + 1 => by
    have ih := settM_at n h es t m
    unfold settM
    split
    · rename_i e he
      split
      · rename_i hh
        exact .inr ⟨m, e, rfl, he, hh.2, hh.1⟩
      · exact ih
    · exact ih
def settleR (n : Nat) (S : Room α) (k : Nat) : Room α := put S k { S k with settled := max (S k).settled (settM n (heldM S k) (S k).row (S k).term (S k).row.length) }
def restR (S : Room α) (k : Nat) : Room α := put S k { S k with leads := false, settled := 0 }
def room0 : Room α := fun _ => ⟨0, [], false, 0, fun _ => 0, fun _ => 0⟩

/-! ### what is remembered beside it: the rows of those that led, who led, who gave a voice, who held how many -/
structure Gh (α : Type) where
  tl : Int → Option (List (Int × α))
  ldr : Int → Nat
  vot : Int → Nat → Bool
  ack : Nat → Int → Nat
def gh0 : Gh α := ⟨fun _ => none, fun _ => 0, fun _ _ => false, fun _ _ => 0⟩
/-- every entry stands in the row of the one that led in its term, with all ahead of it -/
def LM (G : Gh α) (r : List (Int × α)) : Prop := ∀ (i : Nat) (e : Int × α), r[i]? = some e → ∃ l, G.tl e.1 = some l ∧ i < l.length ∧ r.take (i + 1) = l.take (i + 1)
def Mk (G : Gh α) (t : Int) (m : Nat) : Prop := ∃ l e, G.tl t = some l ∧ l[m - 1]? = some e ∧ e.1 = t ∧ 1 ≤ m
def Con (G : Gh α) (u t : Int) (m : Nat) : Prop := ∃ l l', G.tl t = some l ∧ G.tl u = some l' ∧ m ≤ l'.length ∧ l'.take m = l.take m
def led (G : Gh α) (t : Int) : Prop := ∃ l, G.tl t = some l
def ackd (G : Gh α) (v : Nat) (t : Int) (m : Nat) : Prop := (v = G.ldr t ∧ ∃ l, G.tl t = some l ∧ m ≤ l.length) ∨ m ≤ G.ack v t
/-- more than half hold m entries of the one that led in t, the last of them of t -/
def Comm (n : Nat) (G : Gh α) (t : Int) (m : Nat) : Prop := Mk G t m ∧ ∃ p : Nat → Bool, (∀ v, v < n → p v = true → ackd G v t m) ∧ n < 2 * cnt n p
/-- r is the beginning of what came to be settled -/
def Known (n : Nat) (G : Gh α) (u : Int) (r : List (Int × α)) : Prop := r = [] ∨ ∃ t m l, Comm n G t m ∧ G.tl t = some l ∧ t ≤ u ∧ r.length ≤ m ∧ r = l.take r.length
structure GInv (n : Nat) (G : Gh α) : Prop where
  g1 : ∀ t l, G.tl t = some l → 1 ≤ t ∧ G.ldr t < n ∧ n < 2 * cnt n (G.vot t) ∧ G.vot t (G.ldr t) = true
  g2 : ∀ t l, G.tl t = some l → LM G l ∧ Srt l ∧ Wit l t
  g3 : ∀ t u m, t < u → led G u → Mk G t m → (∀ x, led G x → t < x → x < u → Con G x t m) → (∃ v, v < n ∧ G.vot u v = true ∧ ackd G v t m) → Con G u t m
structure KInv (n : Nat) (G : Gh α) (v : Nat) (x : Kp α) : Prop where
  k1 : x.leads = true → G.tl x.term = some x.row ∧ G.ldr x.term = v
  k2 : ∀ l, G.tl x.term = some l → G.ldr x.term = v → x.row = l
  k3 : LM G x.row
  k4 : Srt x.row ∧ Wit x.row x.term
  k5 : ∀ t m, Mk G t m → ackd G v t m → t ≤ x.term → (∀ u, led G u → t < u → u ≤ x.term → Con G u t m) → ∃ l, G.tl t = some l ∧ m ≤ x.row.length ∧ x.row.take m = l.take m
  k6 : Known n G x.term (x.row.take x.settled) ∧ x.settled ≤ x.row.length
  k7 : x.leads = true → ∀ o, o < n → o ≠ v → x.held o ≤ G.ack o x.term ∧ x.next o ≤ x.row.length
  k8 : ∀ t, G.vot t v = true → t ≤ x.term
  k9 : ∀ t, 0 < G.ack v t → t ≤ x.term ∧ ∃ l, G.tl t = some l ∧ G.ack v t ≤ l.length
  k0 : 0 ≤ x.term
structure Inv (n : Nat) (G : Gh α) (S : Room α) : Prop where
  g : GInv n G
  k : ∀ v, v < n → KInv n G v (S v)

theorem Mk.led {G : Gh α} {t : Int} {m : Nat} (h : Mk G t m) : led G t := by
  obtain ⟨l, _, h, _⟩ := h
  exact ⟨l, h⟩
theorem Mk.len {G : Gh α} {t : Int} {m : Nat} {l : List (Int × α)} (h : Mk G t m) (hl : G.tl t = some l) : m ≤ l.length ∧ 1 ≤ m := by
  obtain ⟨l', e, h1, h2, _, h4⟩ := h
  rw [hl] at h1
  cases h1
  have := (List.getElem?_eq_some_iff.mp h2).1
  omega
/-- what is settled in one term stands in the rows of all that lead in later ones -/
theorem GInv.lc {n : Nat} {G : Gh α} (g : GInv n G) {t : Int} {m : Nat} (c : Comm n G t m) : ∀ (d : Nat) (u : Int), (u - t).toNat = d → t < u → led G u → Con G u t m := by
  intro d
  induction d using Nat.strongRecOn with
  | ind d ih =>
    intro u hd hu hl
    obtain ⟨mk, p, hp, hc⟩ := c
    refine g.g3 t u m hu hl mk (fun x hx h1 h2 => ih (x - t).toNat (by omega) x rfl h1 hx) ?_
    obtain ⟨l, hl⟩ := hl
    obtain ⟨v, hv, e1, e2⟩ := cnt_meet hc (g.g1 u l hl).2.2.1
    exact ⟨v, hv, e2, hp v hv e1⟩
theorem GInv.later {n : Nat} {G : Gh α} (g : GInv n G) {t u : Int} {m : Nat} (c : Comm n G t m) (h : t < u) (hl : led G u) : Con G u t m := g.lc c _ u rfl h hl
/-- two rows that are known to be settled: one is a beginning of the other -/
theorem Known.cmp {n : Nat} {G : Gh α} (g : GInv n G) {u1 u2 : Int} {r1 r2 : List (Int × α)} (h1 : Known n G u1 r1) (h2 : Known n G u2 r2) (hl : r1.length ≤ r2.length) : r2.take r1.length = r1 := by
  rcases h1 with rfl | ⟨t1, m1, l1, c1, e1, _, q1, p1⟩
  · rfl
  · rcases h2 with rfl | ⟨t2, m2, l2, c2, e2, _, q2, p2⟩
    · have : r1 = [] := List.length_eq_zero_iff.mp (by simpa using hl)
      subst this
      rfl
    · rw [p2, List.take_take, Nat.min_eq_left hl]
      rcases Int.lt_trichotomy t1 t2 with h | h | h
      · obtain ⟨a, b, ea, eb, _, eq⟩ := g.later c1 h c2.1.led
        rw [e1] at ea
        rw [e2] at eb
        cases ea
        cases eb
        rw [take_less eq q1]
        exact p1.symm
      · subst h
        rw [e1] at e2
        cases e2
        exact p1.symm
      · obtain ⟨a, b, ea, eb, _, eq⟩ := g.later c2 h c1.1.led
        rw [e2] at ea
        rw [e1] at eb
        cases ea
        cases eb
        rw [← take_less eq (Nat.le_trans hl q2)]
        exact p1.symm
/-- the row of the one that leads in the greatest term begins with all that is known to be settled -/
theorem Known.within {n : Nat} {G : Gh α} (g : GInv n G) {u w : Int} {r l : List (Int × α)} (h : Known n G u r) (hl : G.tl w = some l) (hw : ∀ t, led G t → t ≤ w) : l.take r.length = r := by
  rcases h with rfl | ⟨t1, m1, l1, c1, e1, _, q1, p1⟩
  · rfl
  · rcases Int.lt_or_eq_of_le (hw t1 ⟨_, e1⟩) with h | h
    · obtain ⟨a, b, ea, eb, _, eq⟩ := g.later c1 h ⟨_, hl⟩
      rw [e1] at ea
      rw [hl] at eb
      cases ea
      cases eb
      rw [take_less eq q1]
      exact p1.symm
    · subst h
      rw [e1] at hl
      cases hl
      exact p1.symm
/-- rows agree up to a place with the same term -/
theorem LM.agree {G : Gh α} {r s : List (Int × α)} (h : LM G r) (k : LM G s) {i : Nat} {a b : Int × α} (ha : r[i]? = some a) (hb : s[i]? = some b) (e : a.1 = b.1) : r.take (i + 1) = s.take (i + 1) := by
  obtain ⟨l, h1, _, h2⟩ := h i a ha
  obtain ⟨l', k1, _, k2⟩ := k i b hb
  rw [e, k1] at h1
  cases h1
  rw [h2, k2]
theorem LM.take {G : Gh α} {r : List (Int × α)} (h : LM G r) (n : Nat) : LM G (r.take n) := fun i e hi => by
  obtain ⟨h1, h2⟩ := get_take hi
  obtain ⟨l, q1, q2, q3⟩ := h i e h1
  refine ⟨l, q1, q2, ?_⟩
  rw [List.take_take, Nat.min_eq_left (by omega)]
  exact q3
theorem inv0 (n : Nat) : Inv n gh0 (room0 (α := α)) where
  g := ⟨fun t l h => (nomatch h), fun t l h => (nomatch h), fun t u m _ hl => (by obtain ⟨l, h⟩ := hl; cases h)⟩
  k := fun v _ => {
    k1 := fun h => (nomatch h)
    k2 := fun l h => (nomatch h)
    k3 := fun i e h => by cases h
    k4 := ⟨fun i j a b _ h => (by cases h), fun i e h => (by cases h)⟩
    k5 := fun t m h => by obtain ⟨l, _, h, _⟩ := h; cases h
    k6 := ⟨.inl rfl, Nat.le_refl _⟩
    k7 := fun h => (nomatch h)
    k8 := fun t h => (nomatch h)
    k9 := fun t h => absurd h (Nat.lt_irrefl _)
    k0 := Int.le_refl _ }
end Rf

set_option linter.all false
set_option maxHeartbeats 1000000
namespace Rf
variable {α : Type} {n : Nat} {G G' : Gh α}
structure GLe (G G' : Gh α) : Prop where
  tl : ∀ t l, G.tl t = some l → ∃ s, G'.tl t = some (l ++ s)
  ldr : ∀ t, led G t → G'.ldr t = G.ldr t
  ack : ∀ v t, G.ack v t ≤ G'.ack v t
theorem GLe.refl (G : Gh α) : GLe G G := ⟨fun t l h => ⟨[], by rw [List.append_nil]; exact h⟩, fun _ _ => rfl, fun _ _ => Nat.le_refl _⟩
theorem GLe.led (h : GLe G G') {t : Int} (k : led G t) : led G' t := by
  obtain ⟨l, k⟩ := k
  obtain ⟨s, e⟩ := h.tl t l k
  exact ⟨_, e⟩
theorem GLe.trans {G2 : Gh α} (h : GLe G G') (k : GLe G' G2) : GLe G G2 := ⟨fun t l e => by
    obtain ⟨s, e1⟩ := h.tl t l e
    obtain ⟨s', e2⟩ := k.tl t _ e1
    exact ⟨s ++ s', by rw [← List.append_assoc]; exact e2⟩,
  fun t e => (k.ldr t (h.led e)).trans (h.ldr t e), fun v t => Nat.le_trans (h.ack v t) (k.ack v t)⟩
theorem app_take {l s : List (Int × α)} {m : Nat} (h : m ≤ l.length) : (l ++ s).take m = l.take m := List.take_append_of_le_length h
theorem Mk.mono (h : GLe G G') {t : Int} {m : Nat} (k : Mk G t m) : Mk G' t m := by
  obtain ⟨l, e, h1, h2, h3, h4⟩ := k
  obtain ⟨s, e1⟩ := h.tl t l h1
  exact ⟨_, e, e1, by rw [List.getElem?_append_left (List.getElem?_eq_some_iff.mp h2).1]; exact h2, h3, h4⟩
theorem ackd.mono (h : GLe G G') {v : Nat} {t : Int} {m : Nat} (k : ackd G v t m) : ackd G' v t m := by
  rcases k with ⟨e, l, h1, h2⟩ | k
  · obtain ⟨s, e1⟩ := h.tl t l h1
    exact .inl ⟨by rw [h.ldr t ⟨l, h1⟩]; exact e, _, e1, by rw [List.length_append]; omega⟩
  · exact .inr (Nat.le_trans k (h.ack v t))
theorem Comm.mono (h : GLe G G') {t : Int} {m : Nat} (k : Comm n G t m) : Comm n G' t m := by
  obtain ⟨mk, p, hp, hc⟩ := k
  exact ⟨mk.mono h, p, fun v hv e => (hp v hv e).mono h, hc⟩
theorem Known.mono (h : GLe G G') {u w : Int} {r : List (Int × α)} (k : Known n G u r) (hu : u ≤ w) : Known n G' w r := by
  rcases k with k | ⟨t, m, l, c, e, q, q1, q2⟩
  · exact .inl k
  · obtain ⟨s, e1⟩ := h.tl t l e
    have := (c.1.len e).1
    exact .inr ⟨t, m, _, c.mono h, e1, Int.le_trans q hu, q1, by rw [app_take (by omega)]; exact q2⟩
theorem Con.mono (h : GLe G G') {u t : Int} {m : Nat} (mk : Mk G t m) (k : Con G u t m) : Con G' u t m := by
  obtain ⟨l, l', h1, h2, h3, h4⟩ := k
  obtain ⟨s, e1⟩ := h.tl t l h1
  obtain ⟨s', e2⟩ := h.tl u l' h2
  exact ⟨_, _, e1, e2, by rw [List.length_append]; omega, by rw [app_take h3, app_take (mk.len h1).1]; exact h4⟩
theorem LM.mono (h : GLe G G') {r : List (Int × α)} (k : LM G r) : LM G' r := fun i e hi => by
  obtain ⟨l, h1, h2, h3⟩ := k i e hi
  obtain ⟨s, e1⟩ := h.tl _ l h1
  exact ⟨_, e1, by rw [List.length_append]; omega, by rw [app_take (by omega)]; exact h3⟩
theorem Known.pre {u : Int} {r : List (Int × α)} (k : Known n G u r) (m : Nat) : Known n G u (r.take m) := by
  rcases k with rfl | ⟨t, j, l, c, e, q, q1, q2⟩
  · exact .inl List.take_nil
  · refine .inr ⟨t, j, l, c, e, q, ?_, ?_⟩
    · rw [List.length_take]; omega
    · rw [List.length_take]
      have : r.take m = (l.take r.length).take m := by rw [← q2]
      rw [this, List.take_take]

/-! ### a keeper hears, wakes anew, settles -/
theorem KInv.hear {v : Nat} {x : Kp α} (g : GInv n G) (h : KInv n G v x) (t : Int) : KInv n G v (hear x t) := by
  by_cases ht : x.term < t
  · rw [hear_lt ht]
    exact {
      k1 := fun z => (nomatch z)
      k2 := fun l h1 h2 => by
        have h1 : G.tl t = some l := h1
        have h2 : G.ldr t = v := h2
        have q := (g.g1 t l h1).2.2.2
        rw [h2] at q
        have := h.k8 t q
        omega
      k3 := h.k3
      k4 := ⟨h.k4.1, h.k4.2.mono (Int.le_of_lt ht)⟩
      k5 := fun u m mk a hu hc => by
        have hu : u ≤ t := hu
        by_cases q : u ≤ x.term
        · exact h.k5 u m mk a q fun w hw h1 h2 => hc w hw h1 (show w ≤ t by omega)
        · exfalso
          obtain ⟨l, e, h1, h2, h3, h4⟩ := mk
          rcases a with ⟨a1, a2⟩ | a
          · have q1 := (g.g1 u l h1).2.2.2
            rw [← a1] at q1
            exact q (h.k8 u q1)
          · exact q (h.k9 u (by omega)).1
      k6 := ⟨h.k6.1.mono (GLe.refl G) (Int.le_of_lt ht), h.k6.2⟩
      k7 := fun z => (nomatch z)
      k8 := fun u hu => (show u ≤ t by have := h.k8 u hu; omega)
      k9 := fun u hu => ⟨(show u ≤ t by have := (h.k9 u hu).1; omega), (h.k9 u hu).2⟩
      k0 := (show 0 ≤ t by have := h.k0; omega) }
  · rw [hear_ge ht]
    exact h
theorem KInv.rest {v : Nat} {x : Kp α} (h : KInv n G v x) : KInv n G v { x with leads := false, settled := 0 } :=
  { k1 := fun z => (nomatch z), k2 := h.k2, k3 := h.k3, k4 := h.k4, k5 := h.k5, k6 := ⟨.inl rfl, Nat.zero_le _⟩, k7 := fun z => (nomatch z), k8 := h.k8, k9 := h.k9, k0 := h.k0 }
/-- more known to be settled -/
theorem KInv.more {v : Nat} {x : Kp α} (h : KInv n G v x) {m : Nat} (hm : m ≤ x.row.length) (k : Known n G x.term (x.row.take m)) : KInv n G v { x with settled := max x.settled m } :=
  { k1 := h.k1, k2 := h.k2, k3 := h.k3, k4 := h.k4, k5 := h.k5, k7 := h.k7, k8 := h.k8, k9 := h.k9, k0 := h.k0,
    k6 := by
      rcases Nat.le_total x.settled m with q | q
      · have e : max x.settled m = m := by omega
        show Known n G x.term (x.row.take (max x.settled m)) ∧ max x.settled m ≤ x.row.length
        rw [e]
        exact ⟨k, hm⟩
      · have e : max x.settled m = x.settled := by omega
        show Known n G x.term (x.row.take (max x.settled m)) ∧ max x.settled m ≤ x.row.length
        rw [e]
        exact h.k6 }
theorem Inv.put {S : Room α} (h : Inv n G S) {k : Nat} {x : Kp α} (hx : k < n → KInv n G k x) : Inv n G (put S k x) := ⟨h.g, fun v hv => by
  by_cases e : v = k
  · subst e
    rw [put_same]
    exact hx hv
  · rw [put_ne e]
    exact h.k v hv⟩
theorem Inv.restR {S : Room α} (h : Inv n G S) (k : Nat) : Inv n G (restR S k) := h.put fun hk => (h.k k hk).rest
theorem Inv.hearR {S : Room α} (h : Inv n G S) (k : Nat) (t : Int) : Inv n G (Rf.put S k (hear (S k) t)) := h.put fun hk => (h.k k hk).hear h.g t
/-- what settling finds -/
theorem settle_known {S : Room α} (h : Inv n G S) {k : Nat} (hk : k < n) (hl : (S k).leads = true) {m : Nat} : Known n G (S k).term ((S k).row.take (settM n (heldM S k) (S k).row (S k).term m)) ∧ settM n (heldM S k) (S k).row (S k).term m ≤ (S k).row.length := by
  have K := h.k k hk
  obtain ⟨k1, k2⟩ := K.k1 hl
  rcases settM_at n (heldM S k) (S k).row (S k).term m with q | ⟨j, e, q, h1, h2, h3⟩
  · rw [q]
    exact ⟨.inl rfl, Nat.zero_le _⟩
  · rw [q]
    have hj := (List.getElem?_eq_some_iff.mp h1).1
    refine ⟨.inr ⟨(S k).term, j + 1, (S k).row, ⟨⟨_, e, k1, by rw [Nat.add_sub_cancel]; exact h1, h2, by omega⟩, _, fun v hv hp => ?_, h3⟩, k1, Int.le_refl _, by rw [List.length_take]; omega, by rw [List.length_take, Nat.min_eq_left hj]⟩, hj⟩
    have hp := of_decide_eq_true hp
    unfold heldM at hp
    by_cases e : v = k
    · rw [if_pos e] at hp
      exact .inl ⟨by rw [k2]; exact e, _, k1, hp⟩
    · rw [if_neg e] at hp
      exact .inr (Nat.le_trans hp (K.k7 hl v hv e).1)
theorem Inv.settleR {S : Room α} (h : Inv n G S) {k : Nat} (hl : (S k).leads = true) : Inv n G (settleR n S k) := h.put fun hk => (h.k k hk).more (settle_known h hk hl).2 (settle_known h hk hl).1

/-! ### one writes -/
def ghW (G : Gh α) (t : Int) (r : List (Int × α)) : Gh α := { G with tl := fun u => if u = t then some r else G.tl u }
theorem Inv.writeR {S : Room α} (h : Inv n G S) {k : Nat} (hk : k < n) (hl : (S k).leads = true) (w : α) : ∃ G', GLe G G' ∧ Inv n G' (writeR S k w) ∧ (∀ u, led G' u ↔ led G u) ∧ G'.vot = G.vot := by
  have K := h.k k hk
  obtain ⟨k1, k2⟩ := K.k1 hl
  have ht := (h.g.g1 _ _ k1).1
  generalize hx : (S k).row = r at *
  generalize htt : (S k).term = t at *
  have T1 : (ghW G t (r ++ [(t, w)])).tl t = some (r ++ [(t, w)]) := if_pos rfl
  have T2 : ∀ u, u ≠ t → (ghW G t (r ++ [(t, w)])).tl u = G.tl u := fun u hu => if_neg hu
  have le : GLe G (ghW G t (r ++ [(t, w)])) := ⟨fun u l e => by
      by_cases hu : u = t
      · subst hu
        rw [k1] at e
        cases e
        exact ⟨_, T1⟩
      · exact ⟨[], by rw [T2 u hu, List.append_nil]; exact e⟩, fun _ _ => rfl, fun _ _ => Nat.le_refl _⟩
  have ledI : ∀ u, led (ghW G t (r ++ [(t, w)])) u ↔ led G u := fun u => ⟨fun ⟨l, e⟩ => by
    by_cases hu : u = t
    · subst hu
      exact ⟨_, k1⟩
    · rw [T2 u hu] at e
      exact ⟨_, e⟩, le.led⟩
  -- marks of before
  have mkB : ∀ {u m}, Mk (ghW G t (r ++ [(t, w)])) u m → (u = t ∧ m = r.length + 1) ∨ Mk G u m := fun {u m} ⟨l, e, h1, h2, h3, h4⟩ => by
    by_cases hu : u = t
    · subst hu
      rw [T1] at h1
      cases h1
      rcases snoc_get h2 with q | ⟨q, _⟩
      · exact .inr ⟨r, e, k1, q, h3, h4⟩
      · exact .inl ⟨rfl, by omega⟩
    · rw [T2 u hu] at h1
      exact .inr ⟨l, e, h1, h2, h3, h4⟩
  have conB : ∀ {x u m}, Mk G u m → u < x → Con (ghW G t (r ++ [(t, w)])) x u m → Con G x u m := fun {x u m} mk hux ⟨l, l', h1, h2, h3, h4⟩ => by
    have hl1 : ∃ l0, G.tl u = some l0 ∧ l.take m = l0.take m := by
      by_cases hu : u = t
      · subst hu
        rw [T1] at h1
        cases h1
        exact ⟨r, k1, take_snoc (mk.len k1).1⟩
      · rw [T2 u hu] at h1
        exact ⟨l, h1, rfl⟩
    obtain ⟨l0, e0, e1⟩ := hl1
    by_cases hx : x = t
    · subst hx
      rw [T1] at h2
      cases h2
      by_cases hm : m ≤ r.length
      · exact ⟨l0, r, e0, k1, hm, by rw [← take_snoc hm, h4, e1]⟩
      · exfalso
        rw [List.length_append, List.length_singleton] at h3
        have hm : m = r.length + 1 := by omega
        subst hm
        obtain ⟨l2, e, q1, q2, q3, _⟩ := mk
        rw [e0] at q1
        cases q1
        rw [Nat.add_sub_cancel] at q2
        have q4 : (r ++ [(x, w)])[r.length]? = l0[r.length]? := get_of_take (n := r.length + 1) (h4.trans e1) (by omega)
        rw [q2, List.getElem?_append_right (Nat.le_refl _), Nat.sub_self] at q4
        have q5 : (x, w) = e := by simpa using q4
        subst q5
        have q3 : x = u := q3
        omega
    · rw [T2 x hx] at h2
      exact ⟨l0, l', e0, h2, h3, by rw [h4, e1]⟩
  have ackS : ∀ {v m}, v < n → v ≠ k → ackd (ghW G t (r ++ [(t, w)])) v t m → m ≤ G.ack v t := fun {v m} hv hvk a => by
    rcases a with ⟨e, _⟩ | a
    · exact absurd (e.trans k2) hvk
    · exact a
  have ackO : ∀ {v u m}, u ≠ t → ackd (ghW G t (r ++ [(t, w)])) v u m → ackd G v u m := fun {v u m} hu a => by
    rcases a with ⟨e, l, h1, h2⟩ | a
    · rw [T2 u hu] at h1
      exact .inl ⟨e, l, h1, h2⟩
    · exact .inr a
  have rS := (h.g.g2 t r k1).2.1
  have rW := (h.g.g2 t r k1).2.2
  have lm' : LM (ghW G t (r ++ [(t, w)])) (r ++ [(t, w)]) := fun i e hi => by
    rcases snoc_get hi with q | ⟨q, rfl⟩
    · obtain ⟨l, h1, h2, h3⟩ := ((h.g.g2 t r k1).1.mono le) i e q
      exact ⟨l, h1, h2, by rw [take_snoc (List.getElem?_eq_some_iff.mp q).1]; exact h3⟩
    · exact ⟨_, T1, by rw [List.length_append, List.length_singleton]; omega, rfl⟩
  refine ⟨ghW G t (r ++ [(t, w)]), le, ⟨⟨fun u l e => ?_, fun u l e => ?_, fun u x m hux hlx mk hc hv => ?_⟩, fun v hv => ?_⟩, ledI, rfl⟩
  · by_cases hu : u = t
    · subst hu
      exact h.g.g1 _ _ k1
    · rw [T2 u hu] at e
      exact h.g.g1 _ _ e
  · by_cases hu : u = t
    · subst hu
      rw [T1] at e
      cases e
      exact ⟨lm', rS.snoc rW (Int.le_refl _), rW.snoc ht (Int.le_refl _)⟩
    · rw [T2 u hu] at e
      obtain ⟨q1, q2, q3⟩ := h.g.g2 _ _ e
      exact ⟨q1.mono le, q2, q3⟩
  · obtain ⟨v, hv, hvot, ha⟩ := hv
    have hvot : G.vot x v = true := hvot
    rcases mkB mk with ⟨rfl, hm⟩ | mk0
    · exfalso
      by_cases hvk : v = k
      · subst hvk
        have := K.k8 x hvot
        rw [htt] at this
        omega
      · have q := ackS hv hvk ha
        have K9 := (h.k v hv).k9 u (by omega)
        obtain ⟨_, l, q1, q2⟩ := K9
        rw [k1] at q1
        cases q1
        omega
    · have ha0 : ackd G v u m := by
        by_cases hu : u = t
        · subst hu
          by_cases hvk : v = k
          · exact .inl ⟨by rw [k2]; exact hvk, _, k1, (mk0.len k1).1⟩
          · exact .inr (ackS hv hvk ha)
        · exact ackO hu ha
      exact (h.g.g3 u x m hux ((ledI x).mp hlx) mk0 (fun y hy h1 h2 => conB mk0 h1 (hc y ((ledI y).mpr hy) h1 h2)) ⟨v, hv, hvot, ha0⟩).mono le mk0
  · have KV := h.k v hv
    by_cases hvk : v = k
    · subst hvk
      have e0 : Rf.writeR S v w v = { S v with row := r ++ [(t, w)] } := by
        unfold Rf.writeR
        rw [put_same, hx, htt]
      rw [e0]
      have KK : ∀ {m}, m ≤ r.length → (r ++ [(t, w)]).take m = r.take m := fun {m} hm => take_snoc hm
      exact {
        k1 := fun _ => ⟨by show _ = some (r ++ [(t, w)]); rw [htt]; exact T1, by show G.ldr _ = v; rw [htt]; exact k2⟩
        k2 := fun l e _ => by
          have e : (ghW G t (r ++ [(t, w)])).tl (S v).term = some l := e
          rw [htt, T1] at e
          exact Option.some.inj e
        k3 := lm'
        k4 := ⟨rS.snoc rW (Int.le_refl _), by show Wit _ (S v).term; rw [htt]; exact rW.snoc ht (Int.le_refl _)⟩
        k5 := fun u m mk a hu hc => by
          show ∃ l, _ ∧ m ≤ (r ++ [(t, w)]).length ∧ (r ++ [(t, w)]).take m = _
          by_cases q : u = t
          · subst q
            exact ⟨_, T1, (mk.len T1).1, rfl⟩
          · rcases mkB mk with ⟨q', _⟩ | mk0
            · exact absurd q' q
            · obtain ⟨l, h1, h2, h3⟩ := KV.k5 u m mk0 (ackO q a) hu fun y hy h1 h2 => conB mk0 h1 (hc y ((ledI y).mpr hy) h1 h2)
              rw [hx] at h2 h3
              exact ⟨l, by rw [T2 u q]; exact h1, by rw [List.length_append]; omega, by rw [KK h2]; exact h3⟩
        k6 := by
          have q := KV.k6
          rw [hx] at q
          show Known n _ (S v).term ((r ++ [(t, w)]).take (S v).settled) ∧ (S v).settled ≤ (r ++ [(t, w)]).length
          rw [KK q.2]
          exact ⟨q.1.mono le (Int.le_refl _), by rw [List.length_append]; omega⟩
        k7 := fun _ o ho hne => by
          have q := KV.k7 hl o ho hne
          rw [hx] at q
          exact ⟨q.1, by show _ ≤ (r ++ [(t, w)]).length; rw [List.length_append]; exact Nat.le_trans q.2 (Nat.le_add_right _ _)⟩
        k8 := KV.k8
        k9 := fun u hu => by
          obtain ⟨q1, l, q2, q3⟩ := KV.k9 u hu
          obtain ⟨s, e⟩ := le.tl u l q2
          exact ⟨q1, _, e, by rw [List.length_append]; exact Nat.le_trans q3 (Nat.le_add_right _ _)⟩
        k0 := KV.k0 }
    · have e0 : Rf.writeR S k w v = S v := put_ne hvk
      rw [e0]
      have nt : ∀ l, G.tl (S v).term = some l → G.ldr (S v).term = v → (S v).term ≠ t := fun l _ e2 z => hvk (by rw [z, k2] at e2; exact e2.symm)
      exact {
        k1 := fun hv1 => by
          obtain ⟨q1, q2⟩ := KV.k1 hv1
          exact ⟨by rw [T2 _ (nt _ q1 q2)]; exact q1, q2⟩
        k2 := fun l e1 e2 => by
          by_cases q : (S v).term = t
          · exact absurd (by rw [q] at e2; exact (e2.symm.trans k2)) hvk
          · rw [T2 _ q] at e1
            exact KV.k2 l e1 e2
        k3 := KV.k3.mono le
        k4 := KV.k4
        k5 := fun u m mk a hu hc => by
          have back : Mk G u m → ackd G v u m → ∃ l, (ghW G t (r ++ [(t, w)])).tl u = some l ∧ m ≤ (S v).row.length ∧ (S v).row.take m = l.take m := fun mk0 a0 => by
            obtain ⟨l, h1, h2, h3⟩ := KV.k5 u m mk0 a0 hu fun y hy h1 h2 => conB mk0 h1 (hc y ((ledI y).mpr hy) h1 h2)
            obtain ⟨s, e⟩ := le.tl u l h1
            exact ⟨_, e, h2, by rw [app_take (mk0.len h1).1]; exact h3⟩
          by_cases q : u = t
          · subst q
            have q1 := ackS hv hvk a
            rcases mkB mk with ⟨_, hm⟩ | mk0
            · exfalso
              obtain ⟨_, l, q2, q3⟩ := KV.k9 u (by omega)
              rw [k1] at q2
              cases q2
              omega
            · exact back mk0 (.inr q1)
          · rcases mkB mk with ⟨q', _⟩ | mk0
            · exact absurd q' q
            · exact back mk0 (ackO q a)
        k6 := ⟨KV.k6.1.mono le (Int.le_refl _), KV.k6.2⟩
        k7 := KV.k7
        k8 := KV.k8
        k9 := fun u hu => by
          obtain ⟨q1, l, q2, q3⟩ := KV.k9 u hu
          obtain ⟨s, e⟩ := le.tl u l q2
          exact ⟨q1, _, e, by rw [List.length_append]; exact Nat.le_trans q3 (Nat.le_add_right _ _)⟩
        k0 := KV.k0 }
end Rf

set_option linter.all false
set_option maxHeartbeats 1000000
namespace Rf
variable {α : Type} {n : Nat} {G G' : Gh α}
/-! ### one hands on -/
theorem agr_take {r L : List (Int × α)} {a : Nat} (hr : LM G r) (hL : LM G L) (ha : a ≤ L.length) (h : agr r a (lastT (L.take a)) = true) : r.take a = L.take a := by
  rcases agr_iff.mp h with rfl | ⟨e, h1, h2, h3⟩
  · rfl
  · obtain ⟨c, rfl⟩ : ∃ c, a = c + 1 := ⟨a - 1, by omega⟩
    rw [Nat.add_sub_cancel] at h1
    obtain ⟨f, hf⟩ : ∃ f, L[c]? = some f := ⟨_, List.getElem?_eq_getElem (by omega)⟩
    rw [lastT_take hf] at h3
    exact hr.agree hL h1 hf h3
theorem len_of_take {r L : List (Int × α)} {a : Nat} (h : r.take a = L.take a) (ha : a ≤ L.length) : a ≤ r.length := by
  have := congrArg List.length h
  rw [List.length_take, List.length_take] at this
  omega
theorem fill_two {r L : List (Int × α)} {a m : Nat} (hr : LM G r) (hL : LM G L) (ha : a ≤ L.length) (h : r.take a = L.take a) :
    a + ((L.drop a).take m).length ≤ L.length ∧
    ((fillM r a ((L.drop a).take m) = r ∧ a + ((L.drop a).take m).length ≤ r.length ∧ r.take (a + ((L.drop a).take m).length) = L.take (a + ((L.drop a).take m).length)) ∨
     (fillM r a ((L.drop a).take m) = L.take (a + ((L.drop a).take m).length) ∧ ∃ c, c < a + ((L.drop a).take m).length ∧ (r.length ≤ c ∨ ∃ e f, r[c]? = some e ∧ L[c]? = some f ∧ e.1 ≠ f.1))) := by
  have hb : a + ((L.drop a).take m).length ≤ L.length := by
    rw [List.length_take, List.length_drop]
    omega
  have har := len_of_take h ha
  have hs : ((L.drop a).take m) = (L.drop a).take ((L.drop a).take m).length := by
    rw [List.length_take, ← List.take_eq_take_min]
  generalize hp : ((L.drop a).take m) = p at *
  -- alike up to i: the same beginning
  have al : ∀ i, i ≤ p.length → alikeT (r.drop a) p i → r.take (a + i) = L.take (a + i) := fun i hi hal => by
    cases i with
    | zero => exact h
    | succ i =>
      obtain ⟨e, f, h1, h2, h3⟩ := hal i (by omega)
      rw [List.getElem?_drop] at h1
      rw [hs] at h2
      have h2 := (get_take h2).1
      rw [List.getElem?_drop] at h2
      exact hr.agree hL h1 h2 h3
  refine ⟨hb, ?_⟩
  unfold fillM
  rcases fillT_two (r.drop a) p with ⟨h1, h2⟩ | ⟨i, h1, h2, h3, h4⟩
  · left
    have e := al _ (Nat.le_refl _) h1
    exact ⟨by rw [h2, List.take_append_drop], len_of_take e hb, e⟩
  · right
    have e := al i (by omega) h2
    refine ⟨?_, a + i, by omega, ?_⟩
    · have e1 : (r.drop a).take i = (L.drop a).take i := by
        have q : ∀ z : List (Int × α), (z.drop a).take i = (z.take (a + i)).drop a := fun z => by rw [List.take_drop]
        rw [q, q, e]
      have e2 : (L.drop a).take i = p.take i := by
        rw [hs, List.take_take, Nat.min_eq_left (by omega)]
      rw [h4, e1, e2, List.take_append_drop, h, List.take_add]
      exact congrArg (L.take a ++ ·) hs
    · rcases h3 with q | ⟨e', f', q1, q2, q3⟩
      · rw [List.length_drop] at q
        exact .inl (by omega)
      · rw [List.getElem?_drop] at q1
        rw [hs] at q2
        have q2 := (get_take q2).1
        rw [List.getElem?_drop] at q2
        exact .inr ⟨e', f', q1, q2, q3⟩
/-- what is known stands in the rows of those that led later, or then -/
theorem Known.inL {u w : Int} {r l : List (Int × α)} (g : GInv n G) (h : Known n G u r) (hl : G.tl w = some l) (hw : u ≤ w) : l.take r.length = r ∧ r.length ≤ l.length := by
  rcases h with rfl | ⟨t1, m1, l1, c1, e1, q0, q1, p1⟩
  · exact ⟨rfl, Nat.zero_le _⟩
  · rcases Int.lt_or_eq_of_le (Int.le_trans q0 hw) with h | h
    · obtain ⟨a, b, ea, eb, h3, eq⟩ := g.later c1 h ⟨_, hl⟩
      rw [e1] at ea
      rw [hl] at eb
      cases ea
      cases eb
      rw [take_less eq q1]
      exact ⟨p1.symm, by omega⟩
    · subst h
      rw [e1] at hl
      cases hl
      exact ⟨p1.symm, Nat.le_trans q1 (c1.1.len e1).1⟩
def ghH (G : Gh α) (o : Nat) (t : Int) (b : Nat) : Gh α := { G with ack := fun v u => if v = o ∧ u = t then max (G.ack v u) b else G.ack v u }
theorem ghH_same {o : Nat} {t : Int} {b : Nat} : (ghH G o t b).ack o t = max (G.ack o t) b := if_pos ⟨rfl, rfl⟩
theorem ghH_ne {o v : Nat} {t u : Int} {b : Nat} (h : v ≠ o) : (ghH G o t b).ack v u = G.ack v u := if_neg fun q => h q.1
theorem ghH_nt {o v : Nat} {t u : Int} {b : Nat} (h : u ≠ t) : (ghH G o t b).ack v u = G.ack v u := if_neg fun q => h q.2
theorem ghH_le (G : Gh α) (o : Nat) (t : Int) (b : Nat) : GLe G (ghH G o t b) := ⟨fun u l e => ⟨[], by rw [List.append_nil]; exact e⟩, fun _ _ => rfl, fun v u => by
  by_cases h : v = o ∧ u = t
  · obtain ⟨rfl, rfl⟩ := h
    rw [ghH_same]
    omega
  · show _ ≤ ite _ _ _
    rw [if_neg h]
    exact Nat.le_refl _⟩
theorem ghH_ackd {o v : Nat} {t u : Int} {b m : Nat} (h : ackd (ghH G o t b) v u m) : ackd G v u m ∨ (v = o ∧ u = t ∧ m ≤ b) := by
  rcases h with h | h
  · exact .inl (.inl h)
  · by_cases q : v = o ∧ u = t
    · obtain ⟨rfl, rfl⟩ := q
      rw [ghH_same] at h
      by_cases z : m ≤ G.ack v u
      · exact .inl (.inr z)
      · exact .inr ⟨rfl, rfl, by omega⟩
    · have h : m ≤ ite _ _ _ := h
      rw [if_neg q] at h
      exact .inl (.inr h)
theorem KInv.ghH {o v : Nat} {t : Int} {b : Nat} {x : Kp α} (h : KInv n G v x) (hv : v ≠ o) : KInv n (Rf.ghH G o t b) v x :=
  { k1 := h.k1, k2 := h.k2, k3 := h.k3, k4 := h.k4
    k5 := fun u m mk a hu hc => by
      rcases ghH_ackd a with a | ⟨a, _⟩
      · exact h.k5 u m mk a hu hc
      · exact absurd a hv
    k6 := ⟨h.k6.1.mono (ghH_le G o t b) (Int.le_refl _), h.k6.2⟩
    k7 := fun hl o' ho hne => ⟨Nat.le_trans (h.k7 hl o' ho hne).1 ((ghH_le G o t b).ack _ _), (h.k7 hl o' ho hne).2⟩
    k8 := h.k8
    k9 := fun u hu => by
      rw [ghH_ne hv] at hu ⊢
      exact h.k9 u hu
    k0 := h.k0 }
theorem handR_lo {S : Room α} {k o m : Nat} (h : (S k).term < (S o).term) : Rf.handR S k o m = (put S k (hear (S k) (S o).term), false) := by
  unfold Rf.handR
  rw [if_pos h]
theorem handR_un {S : Room α} {k o m : Nat} (h : ¬ (S k).term < (S o).term) (ha : ¬ agr (hear (S o) (S k).term).row ((S k).next o) (lastT ((S k).row.take ((S k).next o))) = true) :
    Rf.handR S k o m = (put (put S o (hear (S o) (S k).term)) k { S k with next := setF (S k).next o ((S k).next o - 1) }, false) := by
  unfold Rf.handR
  rw [if_neg h]
  exact if_neg ha
theorem handR_ok {S : Room α} {k o m : Nat} (h : ¬ (S k).term < (S o).term) (ha : agr (hear (S o) (S k).term).row ((S k).next o) (lastT ((S k).row.take ((S k).next o))) = true) :
    Rf.handR S k o m = (put (put S o { hear (S o) (S k).term with
      row := fillM (hear (S o) (S k).term).row ((S k).next o) (((S k).row.drop ((S k).next o)).take m)
      settled := max (hear (S o) (S k).term).settled (min (S k).settled ((S k).next o + (((S k).row.drop ((S k).next o)).take m).length)) }) k
      { S k with
        next := setF (S k).next o ((S k).next o + (((S k).row.drop ((S k).next o)).take m).length)
        held := setF (S k).held o ((S k).next o + (((S k).row.drop ((S k).next o)).take m).length) }, true) := by
  unfold Rf.handR
  rw [if_neg h]
  exact if_pos ha
theorem Inv.handR {S : Room α} (h : Inv n G S) {k o : Nat} (hk : k < n) (ho : o < n) (hne : o ≠ k) (hl : (S k).leads = true) (m : Nat) : ∃ G', GLe G G' ∧ Inv n G' (Rf.handR S k o m).1 ∧ G'.tl = G.tl ∧ G'.vot = G.vot ∧ G'.ldr = G.ldr := by
  have K := h.k k hk
  obtain ⟨k1, k2⟩ := K.k1 hl
  by_cases hT : (S k).term < (S o).term
  · refine ⟨G, GLe.refl G, ?_, rfl, rfl, rfl⟩
    rw [handR_lo hT]
    exact h.hearR k _
  · have X := (h.k o ho).hear h.g (S k).term
    have xT : (hear (S o) (S k).term).term = (S k).term := by rw [hear_term]; omega
    have aL := (K.k7 hl o ho hne).2
    have kk1 := handR_ok (m := m) hT
    have kk2 := handR_un (m := m) hT
    generalize (hear (S o) (S k).term) = x at X xT kk1 kk2
    by_cases hA : agr x.row ((S k).next o) (lastT ((S k).row.take ((S k).next o))) = true
    · have kk := kk1 hA
      clear kk1 kk2
      have lL := (h.g.g2 _ _ k1)
      obtain ⟨hb, two⟩ := fill_two (m := m) X.k3 lL.1 aL (agr_take X.k3 lL.1 aL hA)
      generalize hbb : (S k).next o + (((S k).row.drop ((S k).next o)).take m).length = b at *
      generalize fillM x.row ((S k).next o) (((S k).row.drop ((S k).next o)).take m) = r' at *
      have le := ghH_le G o (S k).term b
      have notL : G.ldr (S k).term ≠ o := fun z => hne (by rw [← z, k2])
      -- what the other one's row and the leading one's both begin with stays
      have stay : ∀ j, j ≤ x.row.length → x.row.take j = (S k).row.take j → j ≤ r'.length ∧ r'.take j = x.row.take j := fun j hj e => by
        rcases two with ⟨q1, q2, q3⟩ | ⟨q1, c, q2, q3⟩
        · rw [q1]
          exact ⟨hj, rfl⟩
        · have hjb : j ≤ b := by
            rcases q3 with q3 | ⟨e', f', z1, z2, z3⟩
            · omega
            · by_cases hcj : c < j
              · exfalso
                have := get_of_take e hcj
                rw [z1, z2] at this
                cases this
                exact z3 rfl
              · omega
          rw [q1, List.take_take, Nat.min_eq_left hjb, e, List.length_take]
          exact ⟨by omega, rfl⟩
      have newb : b ≤ r'.length ∧ r'.take b = (S k).row.take b := by
        rcases two with ⟨q1, q2, q3⟩ | ⟨q1, _⟩
        · rw [q1]
          exact ⟨q2, q3⟩
        · rw [q1, List.take_take, Nat.min_self, List.length_take]
          exact ⟨by omega, rfl⟩
      have K6 := K.k6
      have X6 := X.k6
      rw [xT] at X6
      have iL := X6.1.inL h.g k1 (Int.le_refl _)
      rw [List.length_take, Nat.min_eq_left X6.2] at iL
      have st6 := stay x.settled X6.2 iL.1.symm
      have ldF : x.leads = true → False := fun z => by
        have q := X.k1 z
        rw [xT] at q
        exact notL q.2
      have Y : KInv n (ghH G o (S k).term b) o { x with row := r' } := {
        k1 := fun z => (ldF z).elim
        k2 := fun l e1 e2 => by
          have e2 : G.ldr x.term = o := e2
          rw [xT] at e2
          exact absurd e2 notL
        k3 := by
          rcases two with ⟨q1, _⟩ | ⟨q1, _⟩
          · rw [q1]
            exact X.k3.mono le
          · rw [q1]
            exact (lL.1.mono le).take b
        k4 := by
          rcases two with ⟨q1, _⟩ | ⟨q1, _⟩
          · rw [q1]
            exact X.k4
          · rw [q1]
            exact ⟨lL.2.1.take b, by show Wit _ x.term; rw [xT]; exact lL.2.2.take b⟩
        k5 := fun u j mk a hu hc => by
          have hu : u ≤ x.term := hu
          have hu2 := hu
          rw [xT] at hu2
          have mk : Mk G u j := mk
          rcases ghH_ackd a with a | ⟨_, e, hj⟩
          · obtain ⟨l, h1, h2, h3⟩ := X.k5 u j mk a hu hc
            have e : (S k).row.take j = l.take j := by
              rcases Int.lt_or_eq_of_le hu2 with q | q
              · obtain ⟨l1, l2, z1, z2, _, z4⟩ := hc (S k).term ⟨_, k1⟩ q (by show _ ≤ x.term; rw [xT]; exact Int.le_refl _)
                have z1 : G.tl u = some l1 := z1
                have z2 : G.tl (S k).term = some l2 := z2
                rw [h1] at z1
                rw [k1] at z2
                cases z1
                cases z2
                exact z4
              · rw [q, k1] at h1
                cases h1
                rfl
            have q := stay j h2 (h3.trans e.symm)
            exact ⟨l, h1, q.1, q.2.trans h3⟩
          · subst e
            exact ⟨_, k1, Nat.le_trans hj newb.1, take_less newb.2 hj⟩
        k6 := by
          show Known n _ x.term (r'.take x.settled) ∧ x.settled ≤ r'.length
          rw [st6.2, xT]
          exact ⟨X6.1.mono le (Int.le_refl _), st6.1⟩
        k7 := fun z => (ldF z).elim
        k8 := X.k8
        k9 := fun u hu => by
          by_cases hut : u = (S k).term
          · subst hut
            rw [ghH_same] at hu ⊢
            refine ⟨by show _ ≤ x.term; rw [xT]; exact Int.le_refl _, _, k1, ?_⟩
            rcases Nat.eq_zero_or_pos (G.ack o (S k).term) with z | z
            · omega
            · obtain ⟨_, l, z1, z2⟩ := X.k9 _ z
              rw [k1] at z1
              cases z1
              omega
          · rw [ghH_nt hut] at hu ⊢
            exact X.k9 u hu
        k0 := X.k0 }
      refine ⟨ghH G o (S k).term b, le, ⟨⟨h.g.g1, fun u l e => ?_, fun u w j huw hlw mk hc hv => ?_⟩, fun v hv => ?_⟩, rfl, rfl, rfl⟩
      · obtain ⟨q1, q2⟩ := h.g.g2 u l e
        exact ⟨q1.mono le, q2⟩
      · obtain ⟨v, hv, hvot, ha⟩ := hv
        rcases ghH_ackd ha with a | ⟨rfl, rfl, _⟩
        · exact h.g.g3 u w j huw hlw mk hc ⟨v, hv, hvot, a⟩
        · exfalso
          have := (h.k v hv).k8 w hvot
          omega
      · rw [kk]
        by_cases hvk : v = k
        · subst hvk
          show KInv n _ v (Rf.put (Rf.put S o _) v _ v)
          rw [put_same]
          have Z := K.ghH (o := o) (t := (S v).term) (b := b) hne.symm
          exact { k1 := Z.k1, k2 := Z.k2, k3 := Z.k3, k4 := Z.k4, k5 := Z.k5, k6 := Z.k6, k8 := Z.k8, k9 := Z.k9, k0 := Z.k0
                  k7 := fun _ o' ho' hne' => by
                    show setF _ o b o' ≤ _ ∧ setF _ o b o' ≤ (S v).row.length
                    unfold setF
                    by_cases q : o' = o
                    · subst q
                      rw [if_pos rfl, if_pos rfl]
                      show b ≤ (ghH G o' (S v).term b).ack o' (S v).term ∧ _
                      rw [ghH_same]
                      exact ⟨by omega, hb⟩
                    · rw [if_neg q, if_neg q]
                      exact Z.k7 hl o' ho' hne' }
        · show KInv n _ v (Rf.put (Rf.put S o _) k _ v)
          rw [put_ne hvk]
          by_cases hvo : v = o
          · subst hvo
            rw [put_same]
            refine Y.more (m := min (S k).settled b) (by show _ ≤ r'.length; omega) ?_
            show Known n _ x.term (r'.take _)
            have e : r'.take (min (S k).settled b) = ((S k).row.take (S k).settled).take (min (S k).settled b) := by
              rw [List.take_take, take_less newb.2 (by omega)]
              congr 1
              omega
            rw [e, xT]
            exact (K6.1.pre _).mono le (Int.le_refl _)
          · rw [put_ne hvo]
            exact (h.k v hv).ghH hvo
    · have kk := kk2 hA
      clear kk1 kk2
      refine ⟨G, GLe.refl G, ?_, rfl, rfl, rfl⟩
      rw [kk]
      refine (h.put fun _ => X).put fun _ => ?_
      exact { k1 := K.k1, k2 := K.k2, k3 := K.k3, k4 := K.k4, k5 := K.k5, k6 := K.k6, k8 := K.k8, k9 := K.k9, k0 := K.k0
              k7 := fun _ o' ho' hne' => by
                show _ ∧ setF _ o _ o' ≤ (S k).row.length
                unfold setF
                by_cases q : o' = o
                · rw [if_pos q]
                  exact ⟨(K.k7 hl o' ho' hne').1, by omega⟩
                · rw [if_neg q]
                  exact K.k7 hl o' ho' hne' }
end Rf

set_option linter.all false
set_option maxHeartbeats 1000000
namespace Rf
variable {α : Type} {n : Nat} {G G' : Gh α}
/-! ### one stands -/
theorem put_self (S : Room α) (o : Nat) : put S o (S o) = S := funext fun j => by
  by_cases h : j = o
  · subst h
    exact put_same
  · exact put_ne h
def yes (t : Int) (r : List (Int × α)) (x : Kp α) : Bool := decide (x.term < t) && newM r x.row
theorem ask1_fst (t : Int) (r : List (Int × α)) (S : Room α) (c o : Nat) : (ask1 t r (S, c) o).1 = put S o (hear (S o) t) := by
  unfold ask1 hear
  by_cases h : (S o).term < t
  · rw [if_pos h, if_pos h]
  · rw [if_neg h, if_neg h]
    exact (put_self S o).symm
theorem ask1_snd (t : Int) (r : List (Int × α)) (S : Room α) (c o : Nat) : (ask1 t r (S, c) o).2 = if yes t r (S o) = true then c + 1 else c := by
  unfold ask1 yes
  by_cases h : (S o).term < t
  · rw [if_pos h, decide_eq_true h, Bool.true_and]
  · rw [if_neg h, decide_eq_false h, Bool.false_and]
    exact (if_neg (by decide)).symm
theorem asked_room (t : Int) (r : List (Int × α)) : ∀ (os : List Nat) (S : Room α) (c v : Nat), (os.foldl (ask1 t r) (S, c)).1 v = if v ∈ os then hear (S v) t else S v
  | [], S, c, v => (if_neg (by simp)).symm
  | o :: os, S, c, v => by
    rw [List.foldl_cons]
    have e : ask1 t r (S, c) o = (put S o (hear (S o) t), (ask1 t r (S, c) o).2) := by rw [← ask1_fst t r S c o]
    rw [e, asked_room t r os]
    by_cases hv : v = o
    · subst hv
      rw [put_same, if_pos (List.mem_cons_self ..)]
      split
      · rw [hear_ge (x := hear (S v) t) (by rw [hear_term]; omega)]
      · rfl
    · rw [put_ne hv]
      simp only [List.mem_cons, hv, false_or]
theorem asked_voices (t : Int) (r : List (Int × α)) : ∀ (os : List Nat) (S : Room α) (c : Nat), (∀ o, o ∈ os → o < n) → (os.foldl (ask1 t r) (S, c)).2 = c + cnt n (fun v => decide (v ∈ os) && yes t r (S v))
  | [], S, c, _ => by
    have : cnt n (fun v => decide (v ∈ ([] : List Nat)) && yes t r (S v)) = 0 := by
      unfold cnt
      rw [List.countP_eq_zero]
      intro v _
      simp
    rw [this]
    rfl
  | o :: os, S, c, h => by
    rw [List.foldl_cons]
    have e : ask1 t r (S, c) o = (put S o (hear (S o) t), (ask1 t r (S, c) o).2) := by rw [← ask1_fst t r S c o]
    have ho := h o (List.mem_cons_self ..)
    rw [e, asked_voices t r os _ _ fun o' h' => h o' (List.mem_cons_of_mem _ h'), ask1_snd]
    have y0 : yes t r (hear (S o) t) = false := by
      unfold yes
      rw [decide_eq_false (by rw [hear_term]; omega), Bool.false_and]
    by_cases hy : yes t r (S o) = true
    · rw [if_pos hy]
      have q : cnt n (fun v => decide (v ∈ o :: os) && yes t r (S v)) = cnt n (fun v => decide (v = o) || (decide (v ∈ os) && yes t r (put S o (hear (S o) t) v))) := cnt_congr fun v _ => by
        by_cases hv : v = o
        · subst hv
          rw [hy, decide_eq_true (List.mem_cons_self ..), decide_eq_true rfl]
          rfl
        · rw [put_ne hv, decide_eq_false hv, Bool.false_or]
          congr 1
          simp [hv]
      rw [q, cnt_one ho _ (by rw [put_same, y0, Bool.and_false])]
      omega
    · rw [if_neg hy]
      congr 1
      refine cnt_congr fun v _ => ?_
      by_cases hv : v = o
      · subst hv
        rw [put_same, y0, Bool.not_eq_true _ |>.mp hy, Bool.and_false, Bool.and_false]
      · rw [put_ne hv]
        congr 1
        simp [hv]
/-- who gives a voice -/
def voices (S : Room α) (k : Nat) (os : List Nat) (v : Nat) : Bool := decide (v = k) || (decide (v ∈ os) && yes ((S k).term + 1) (S k).row (S v))
theorem hear_up {x : Kp α} : hear x (x.term + 1) = { x with term := x.term + 1, leads := false } := hear_lt (Int.lt_succ _)
/-- the room when all were asked -/
def heardR (S : Room α) (k : Nat) (os : List Nat) : Room α := fun v => if v = k ∨ v ∈ os then hear (S v) ((S k).term + 1) else S v
theorem standR_eq {S : Room α} {k : Nat} {os : List Nat} (hk : k < n) (ho : ∀ o, o ∈ os → o < n) : standR n S k os =
    if n < 2 * cnt n (voices S k os) then (put (heardR S k os) k { hear (S k) ((S k).term + 1) with leads := true, next := fun _ => (S k).row.length, held := fun _ => 0 }, true) else (heardR S k os, false) := by
  have e1 : (os.foldl (ask1 ((S k).term + 1) (S k).row) (put S k (hear (S k) ((S k).term + 1)), 1)).1 = heardR S k os := funext fun v => by
    rw [asked_room]
    unfold heardR
    by_cases hv : v = k
    · subst hv
      rw [put_same, if_pos (show v = v ∨ v ∈ os from .inl rfl)]
      split
      · rw [hear_ge (x := hear (S v) _) (by rw [hear_term]; omega)]
      · rfl
    · rw [put_ne hv]
      simp only [hv, false_or]
  have e2 : (os.foldl (ask1 ((S k).term + 1) (S k).row) (put S k (hear (S k) ((S k).term + 1)), 1)).2 = cnt n (voices S k os) := by
    rw [asked_voices (n := n) _ _ _ _ _ ho]
    have q : cnt n (voices S k os) = cnt n (fun v => decide (v = k) || (decide (v ∈ os) && yes ((S k).term + 1) (S k).row (put S k (hear (S k) ((S k).term + 1)) v))) := cnt_congr fun v _ => by
      unfold voices
      by_cases hv : v = k
      · rw [decide_eq_true hv]
        rfl
      · rw [put_ne hv]
    rw [q, cnt_one hk]
    · omega
    · have : yes ((S k).term + 1) (S k).row (put S k (hear (S k) ((S k).term + 1)) k) = false := by
        unfold yes
        rw [put_same, decide_eq_false (by rw [hear_term]; omega), Bool.false_and]
      rw [this, Bool.and_false]
  have e0 : asked ((S k).term + 1) (S k).row (put S k { S k with term := (S k).term + 1, leads := false }) os = (heardR S k os, cnt n (voices S k os)) := by
    rw [← hear_up]
    unfold asked
    rw [← e1, ← e2]
  unfold standR
  simp only [e0]
  have e3 : heardR S k os k = hear (S k) ((S k).term + 1) := if_pos (.inl rfl)
  rw [e3]
theorem Inv.heard {S : Room α} (h : Inv n G S) (k : Nat) (os : List Nat) : Inv n G (heardR S k os) := ⟨h.g, fun v hv => by
  unfold heardR
  split
  · exact (h.k v hv).hear h.g _
  · exact h.k v hv⟩

def ghS (G : Gh α) (k : Nat) (t : Int) (r : List (Int × α)) (V : Nat → Bool) : Gh α := { G with
  tl := fun u => if u = t then some r else G.tl u
  ldr := fun u => if u = t then k else G.ldr u
  vot := fun u => if u = t then V else G.vot u }
theorem newM_iff {r s : List (Int × α)} (h : newM r s = true) : (lastT r = lastT s ∧ s.length ≤ r.length) ∨ lastT s < lastT r := by
  unfold newM at h
  split at h
  · rename_i e
    exact .inl ⟨e, of_decide_eq_true h⟩
  · exact .inr (of_decide_eq_true h)
theorem lastT_len {r : List (Int × α)} (h : 0 < r.length) : ∃ e, r[r.length - 1]? = some e ∧ lastT r = e.1 := by
  have : r.length - 1 < r.length := by omega
  exact ⟨_, List.getElem?_eq_getElem this, lastT_at (n := r.length - 1) (by omega) (List.getElem?_eq_getElem this)⟩
/-- whose row is as new as one that holds what is marked holds it too -/
theorem new_holds (g : GInv n G) {r s l : List (Int × α)} {t T : Int} {m : Nat} (hr : LM G r) (wr : Wit r T) (sS : Srt s) (mk : Mk G t m) (ht : 1 ≤ t) (hl : G.tl t = some l)
    (hs : m ≤ s.length) (he : s.take m = l.take m) (hn : newM r s = true) (hc : ∀ x, led G x → t < x → x ≤ T → Con G x t m) : m ≤ r.length ∧ r.take m = l.take m := by
  obtain ⟨l', e, q1, q2, q3, q4⟩ := id mk
  rw [hl] at q1
  cases q1
  have se : s[m - 1]? = some e := by
    rw [get_of_take he (by omega)]
    exact q2
  obtain ⟨f, hf, hf1⟩ := lastT_len (r := s) (by omega)
  have hge : t ≤ lastT s := by
    rw [hf1, ← q3]
    exact sS (m - 1) (s.length - 1) e f (by omega) se hf
  have hr0 : 0 < r.length := by
    rcases Nat.eq_zero_or_pos r.length with z | z
    · have z := List.length_eq_zero_iff.mp z
      subst z
      rcases newM_iff hn with ⟨a, _⟩ | a <;> rw [lastT_nil] at a <;> omega
    · exact z
  obtain ⟨x, hx, hx1⟩ := lastT_len hr0
  obtain ⟨lx, z1, z2, z3⟩ := hr _ x hx
  have e1 : r.length - 1 + 1 = r.length := by omega
  rw [e1] at z3
  rcases Int.lt_or_le t x.1 with h | h
  · obtain ⟨a, b, ea, eb, h3, eq⟩ := hc x.1 ⟨_, z1⟩ h (wr _ x hx).2
    rw [hl] at ea
    rw [z1] at eb
    cases ea
    cases eb
    have hm : m ≤ r.length := by
      rcases Nat.lt_or_ge r.length m with z | z
      · exfalso
        have q5 : lx[m - 1]? = some e := by
          rw [get_of_take eq (by omega)]
          exact q2
        have q6 : lx[r.length - 1]? = some x := by
          rw [← get_of_take z3 (by omega)]
          exact hx
        have := (g.g2 _ _ z1).2.1 (r.length - 1) (m - 1) x e (by omega) q6 q5
        omega
      · exact z
    exact ⟨hm, (take_less z3 hm).trans eq⟩
  · have hle : lastT s = lastT r ∧ s.length ≤ r.length := by
      rcases newM_iff hn with ⟨a, b⟩ | a
      · exact ⟨a.symm, b⟩
      · omega
    have ex : x.1 = t := by omega
    rw [ex, hl] at z1
    cases z1
    have hm : m ≤ r.length := by omega
    exact ⟨hm, take_less z3 hm⟩
/-- the terms of those that led are below that of one that more than half choose -/
theorem Inv.above {S : Room α} (h : Inv n G S) {k : Nat} {os : List Nat} (hv : n < 2 * cnt n (voices S k os)) : ∀ u, led G u → u < (S k).term + 1 := fun u ⟨l, e⟩ => by
  obtain ⟨v, hvn, h1, h2⟩ := cnt_meet hv (h.g.g1 u l e).2.2.1
  have q := (h.k v hvn).k8 u h2
  unfold voices at h1
  rcases Bool.or_eq_true_iff.mp h1 with z | z
  · have z := of_decide_eq_true z
    subst z
    omega
  · have z := (Bool.and_eq_true_iff.mp z).2
    unfold yes at z
    have z := of_decide_eq_true (Bool.and_eq_true_iff.mp z).1
    omega
theorem Inv.standR {S : Room α} (h : Inv n G S) {k : Nat} (hk : k < n) {os : List Nat} (ho : ∀ o, o ∈ os → o < n) :
    ((Rf.standR n S k os).2 = false ∧ Inv n G (Rf.standR n S k os).1) ∨
    ((Rf.standR n S k os).2 = true ∧ n < 2 * cnt n (voices S k os) ∧ GLe G (ghS G k ((S k).term + 1) (S k).row (voices S k os)) ∧ Inv n (ghS G k ((S k).term + 1) (S k).row (voices S k os)) (Rf.standR n S k os).1) := by
  rw [standR_eq hk ho]
  by_cases hv : n < 2 * cnt n (voices S k os)
  · right
    rw [if_pos hv]
    have ab := h.above hv
    have HH := h.heard k os
    have K := h.k k hk
    have E1 : ∀ v, voices S k os v = true → (S k).term + 1 ≤ (heardR S k os v).term := fun v q => by
      unfold heardR
      unfold voices at q
      rcases Bool.or_eq_true_iff.mp q with z | z
      · rw [if_pos (.inl (of_decide_eq_true z)), hear_term]
        omega
      · rw [if_pos (.inr (of_decide_eq_true (Bool.and_eq_true_iff.mp z).1)), hear_term]
        omega
    have E2 : ∀ v, voices S k os v = true → v = k ∨ (newM (S k).row (S v).row = true ∧ (S v).term < (S k).term + 1) := fun v q => by
      unfold voices yes at q
      rcases Bool.or_eq_true_iff.mp q with z | z
      · exact .inl (of_decide_eq_true z)
      · have z := Bool.and_eq_true_iff.mp (Bool.and_eq_true_iff.mp z).2
        exact .inr ⟨z.2, of_decide_eq_true z.1⟩
    have E3 : voices S k os k = true := by
      unfold voices
      rw [decide_eq_true rfl]
      rfl
    have E4 : heardR S k os k = { S k with term := (S k).term + 1, leads := false } := by
      unfold heardR
      rw [if_pos (.inl rfl), hear_up]
    generalize voices S k os = V at *
    generalize htt : (S k).term + 1 = t at *
    have T1 : (ghS G k t (S k).row V).tl t = some (S k).row := if_pos rfl
    have T2 : ∀ u, u ≠ t → (ghS G k t (S k).row V).tl u = G.tl u := fun u hu => if_neg hu
    have L1 : (ghS G k t (S k).row V).ldr t = k := if_pos rfl
    have L2 : ∀ u, u ≠ t → (ghS G k t (S k).row V).ldr u = G.ldr u := fun u hu => if_neg hu
    have V1 : (ghS G k t (S k).row V).vot t = V := if_pos rfl
    have V2 : ∀ u, u ≠ t → (ghS G k t (S k).row V).vot u = G.vot u := fun u hu => if_neg hu
    have nt : ∀ {u}, led G u → u ≠ t := fun {u} q z => by have := ab u q; omega
    have le : GLe G (ghS G k t (S k).row V) := ⟨fun u l e => ⟨[], by rw [T2 u (nt ⟨l, e⟩), List.append_nil]; exact e⟩, fun u q => L2 u (nt q), fun _ _ => Nat.le_refl _⟩
    have mkB : ∀ {u m}, Mk (ghS G k t (S k).row V) u m → Mk G u m := fun {u m} ⟨l, e, h1, h2, h3, h4⟩ => by
      by_cases hu : u = t
      · exfalso
        subst hu
        rw [T1] at h1
        cases h1
        have := (K.k4.2 _ e h2).2
        omega
      · rw [T2 u hu] at h1
        exact ⟨l, e, h1, h2, h3, h4⟩
    have conB : ∀ {x u m}, x ≠ t → u ≠ t → Con (ghS G k t (S k).row V) x u m → Con G x u m := fun {x u m} hx hu ⟨l, l', h1, h2, h3⟩ => by
      rw [T2 u hu] at h1
      rw [T2 x hx] at h2
      exact ⟨l, l', h1, h2, h3⟩
    have ackB : ∀ {v u m}, u ≠ t → ackd (ghS G k t (S k).row V) v u m → ackd G v u m := fun {v u m} hu a => by
      rcases a with ⟨e, l, h1, h2⟩ | a
      · rw [T2 u hu] at h1
        rw [L2 u hu] at e
        exact .inl ⟨e, l, h1, h2⟩
      · exact .inr a
    have tle : ∀ {v u m}, v < n → Mk G u m → ackd G v u m → u ≤ (S v).term := fun {v u m} hv mk a => by
      obtain ⟨l, e, h1, h2, h3, h4⟩ := mk
      rcases a with ⟨a1, a2⟩ | a
      · have q1 := (h.g.g1 u l h1).2.2.2
        rw [← a1] at q1
        exact (h.k v hv).k8 u q1
      · exact ((h.k v hv).k9 u (by omega)).1
    have Kup : ∀ v, v < n → KInv n (ghS G k t (S k).row V) v (heardR S k os v) := fun v hv => by
      have KV := HH.k v hv
      exact {
        k1 := fun z => by
          obtain ⟨q1, q2⟩ := KV.k1 z
          have q3 := nt ⟨_, q1⟩
          exact ⟨by rw [T2 _ q3]; exact q1, by rw [L2 _ q3]; exact q2⟩
        k2 := fun l e1 e2 => by
          by_cases q : (heardR S k os v).term = t
          · rw [q, T1] at e1
            rw [q, L1] at e2
            cases e1
            subst e2
            rw [E4]
          · rw [T2 _ q] at e1
            rw [L2 _ q] at e2
            exact KV.k2 l e1 e2
        k3 := KV.k3.mono le
        k4 := KV.k4
        k5 := fun u m mk a hu hc => by
          have mk0 := mkB mk
          have hut := nt mk0.led
          obtain ⟨l, h1, h2, h3⟩ := KV.k5 u m mk0 (ackB hut a) hu fun x hx q1 q2 => conB (nt hx) hut (hc x (le.led hx) q1 q2)
          exact ⟨l, by rw [T2 _ hut]; exact h1, h2, h3⟩
        k6 := ⟨KV.k6.1.mono le (Int.le_refl _), KV.k6.2⟩
        k7 := KV.k7
        k8 := fun u q => by
          by_cases hu : u = t
          · subst hu
            rw [V1] at q
            exact E1 v q
          · rw [V2 u hu] at q
            exact KV.k8 u q
        k9 := fun u q => by
          obtain ⟨q1, l, q2, q3⟩ := KV.k9 u q
          exact ⟨q1, l, by rw [T2 _ (nt ⟨l, q2⟩)]; exact q2, q3⟩
        k0 := KV.k0 }
    refine ⟨rfl, hv, le, ⟨⟨fun u l e => ?_, fun u l e => ?_, fun u x m hux hlx mk hc hvv => ?_⟩, fun v hv => ?_⟩⟩
    · by_cases hu : u = t
      · subst hu
        have := K.k0
        rw [L1, V1]
        exact ⟨by omega, hk, hv, E3⟩
      · rw [T2 u hu] at e
        rw [L2 u hu, V2 u hu]
        exact h.g.g1 u l e
    · by_cases hu : u = t
      · subst hu
        rw [T1] at e
        cases e
        exact ⟨K.k3.mono le, K.k4.1, K.k4.2.mono (by omega)⟩
      · rw [T2 u hu] at e
        obtain ⟨q1, q2⟩ := h.g.g2 _ _ e
        exact ⟨q1.mono le, q2⟩
    · obtain ⟨v, hvn, hvot, ha⟩ := hvv
      have mk0 := mkB mk
      have hut := nt mk0.led
      have ha0 := ackB hut ha
      have hc0 : ∀ y, led G y → u < y → y < x → Con G y u m := fun y hy q1 q2 => conB (nt hy) hut (hc y (le.led hy) q1 q2)
      by_cases hx : x = t
      · subst hx
        rw [V1] at hvot
        obtain ⟨l, e, h1, h2, h3, h4⟩ := id mk0
        have hu1 := (h.g.g1 u l h1).1
        rcases E2 v hvot with rfl | ⟨hn, ht⟩
        · obtain ⟨l', q1, q2, q3⟩ := K.k5 u m mk0 ha0 (tle hvn mk0 ha0) fun y hy z1 z2 => hc0 y hy z1 (by omega)
          exact ⟨l', _, by rw [T2 _ hut]; exact q1, T1, q2, q3⟩
        · obtain ⟨l', q1, q2, q3⟩ := (h.k v hvn).k5 u m mk0 ha0 (tle hvn mk0 ha0) fun y hy z1 z2 => hc0 y hy z1 (by omega)
          have := new_holds h.g K.k3 K.k4.2 (h.k v hvn).k4.1 mk0 hu1 q1 q2 q3 hn fun y hy z1 z2 => hc0 y hy z1 (by omega)
          exact ⟨l', _, by rw [T2 _ hut]; exact q1, T1, this.1, this.2⟩
      · rw [V2 x hx] at hvot
        have hlx : led G x := by
          obtain ⟨l, e⟩ := hlx
          rw [T2 x hx] at e
          exact ⟨l, e⟩
        exact (h.g.g3 u x m hux hlx mk0 hc0 ⟨v, hvn, hvot, ha0⟩).mono le mk0
    · by_cases hvk : v = k
      · subst hvk
        show KInv n _ v (Rf.put (heardR S v os) v _ v)
        rw [put_same]
        have Z := Kup v hv
        rw [E4] at Z
        have e : hear (S v) t = { S v with term := t, leads := false } := by
          rw [← htt, hear_up]
        rw [e]
        exact { k1 := fun _ => ⟨T1, L1⟩, k2 := Z.k2, k3 := Z.k3, k4 := Z.k4, k5 := Z.k5, k6 := Z.k6, k8 := Z.k8, k9 := Z.k9, k0 := Z.k0
                k7 := fun _ o' _ _ => ⟨Nat.zero_le _, Nat.le_refl _⟩ }
      · show KInv n _ v (Rf.put (heardR S k os) k _ v)
        rw [put_ne hvk]
        exact Kup v hv
  · left
    rw [if_neg hv]
    exact ⟨rfl, h.heard k os⟩
end Rf

set_option linter.all false
set_option maxHeartbeats 1000000
namespace Rf
variable {α : Type} {n : Nat} {G G' : Gh α}
/-! ### deeds, and what each leaves -/
inductive Deed (α : Type) where
  | stand (k : Nat) (os : List Nat)
  | rest (k : Nat)
  | write (k : Nat) (w : α)
  | hand (k o m : Nat)
  | settle (k : Nat)
inductive Tell where
  | no
  | b (x : Bool)
  | i (x : Nat)
def Deed.ok (n : Nat) : Deed α → Prop
  | .stand k os => k < n ∧ ∀ o, o ∈ os → o < n
  | .rest k => k < n
  | .write k _ => k < n
  | .hand k o _ => k < n ∧ o < n ∧ o ≠ k
  | .settle k => k < n
def doR (n : Nat) (S : Room α) : Deed α → Room α × Tell
  | .stand k os => ((standR n S k os).1, .b (standR n S k os).2)
  | .rest k => (restR S k, .no)
  | .write k w => if (S k).leads = true then (writeR S k w, .i (S k).row.length) else (S, .no)
  | .hand k o m => if (S k).leads = true then ((handR S k o m).1, .b (handR S k o m).2) else (S, .no)
  | .settle k => if (S k).leads = true then (settleR n S k, .i (settleR n S k k).settled) else (S, .no)
theorem standR_k {S : Room α} {k : Nat} {os : List Nat} (hk : k < n) (ho : ∀ o, o ∈ os → o < n) : ((standR n S k os).1 k).term = (S k).term + 1 ∧ ((standR n S k os).1 k).row = (S k).row ∧ ((standR n S k os).1 k).settled = (S k).settled ∧ ((standR n S k os).1 k).leads = (standR n S k os).2 := by
  have E : heardR S k os k = hear (S k) ((S k).term + 1) := if_pos (.inl rfl)
  rw [standR_eq hk ho]
  split
  · show (put _ k _ k).term = _ ∧ (put _ k _ k).row = _ ∧ (put _ k _ k).settled = _ ∧ (put _ k _ k).leads = _
    rw [put_same]
    exact ⟨by show (hear _ _).term = _; rw [hear_up], by show (hear _ _).row = _; rw [hear_up], by show (hear _ _).settled = _; rw [hear_up], rfl⟩
  · show (heardR S k os k).term = _ ∧ (heardR S k os k).row = _ ∧ (heardR S k os k).settled = _ ∧ (heardR S k os k).leads = _
    rw [E, hear_up]
    exact ⟨rfl, rfl, rfl, rfl⟩
theorem standR_o {S : Room α} {k v : Nat} {os : List Nat} (hk : k < n) (ho : ∀ o, o ∈ os → o < n) (hv : v ≠ k) : (standR n S k os).1 v = if v ∈ os then hear (S v) ((S k).term + 1) else S v := by
  have E : heardR S k os v = if v ∈ os then hear (S v) ((S k).term + 1) else S v := by
    unfold heardR
    simp only [hv, false_or]
  rw [standR_eq hk ho]
  split
  · show put _ k _ v = _
    rw [put_ne hv]
    exact E
  · exact E
theorem hear_kept {x : Kp α} {t : Int} : x.term ≤ (hear x t).term ∧ (hear x t).row = x.row ∧ (hear x t).settled = x.settled := ⟨by rw [hear_term]; omega, hear_row, hear_settled⟩
/-- what every deed leaves: terms do not fall, what is settled does not shrink but by waking anew, the row of one that leads on stays but for what it writes -/
structure Left (S : Room α) (d : Deed α) (S' : Room α) (v : Nat) : Prop where
  term : (S v).term ≤ (S' v).term
  settled : (∀ k, d = .rest k → v ≠ k) → (S v).settled ≤ (S' v).settled
  row : (S' v).leads = true → (S' v).term = (S v).term → (S' v).row = (S v).row ∨ ∃ w, d = .write v w ∧ (S' v).row = (S v).row ++ [((S v).term, w)]
theorem Left.same {S : Room α} {d : Deed α} {S' : Room α} {v : Nat} (h : S' v = S v) : Left S d S' v := ⟨by rw [h]; exact Int.le_refl _, fun _ => by rw [h]; exact Nat.le_refl _, fun _ _ => .inl (by rw [h])⟩
theorem Left.heard {S : Room α} {d : Deed α} {S' : Room α} {v : Nat} {t : Int} (h : S' v = hear (S v) t) : Left S d S' v := ⟨by rw [h]; exact hear_kept.1, fun _ => by rw [h, hear_kept.2.2]; exact Nat.le_refl _, fun _ _ => .inl (by rw [h, hear_kept.2.1])⟩
theorem left_of {S : Room α} (h : Inv n G S) {d : Deed α} (hd : d.ok n) {v : Nat} (hv : v < n) : Left S d (doR n S d).1 v := by
  cases d with
  | stand k os =>
    obtain ⟨hk, ho⟩ := hd
    show Left S _ (standR n S k os).1 v
    by_cases hvk : v = k
    · subst hvk
      obtain ⟨e1, e2, e3, _⟩ := standR_k (S := S) hk ho
      exact ⟨by rw [e1]; omega, fun _ => by rw [e3]; exact Nat.le_refl _, fun _ _ => .inl e2⟩
    · have e := standR_o (S := S) hk ho hvk
      split at e
      · exact .heard e
      · exact .same e
  | rest k =>
    show Left S _ (restR S k) v
    by_cases hvk : v = k
    · subst hvk
      have e : restR S v v = { S v with leads := false, settled := 0 } := put_same
      exact ⟨by rw [e]; exact Int.le_refl _, fun q => absurd rfl (q v rfl), fun _ _ => .inl (by rw [e])⟩
    · exact .same (put_ne hvk)
  | write k w =>
    by_cases hl : (S k).leads = true
    · rw [show (doR n S (.write k w)).1 = writeR S k w from by simp only [doR, if_pos hl]]
      by_cases hvk : v = k
      · subst hvk
        have e : writeR S v w v = { S v with row := (S v).row ++ [((S v).term, w)] } := put_same
        exact ⟨by rw [e]; exact Int.le_refl _, fun _ => by rw [e]; exact Nat.le_refl _, fun _ _ => .inr ⟨w, rfl, by rw [e]⟩⟩
      · exact .same (put_ne hvk)
    · rw [show (doR n S (.write k w)).1 = S from by simp only [doR, if_neg hl]]
      exact .same rfl
  | settle k =>
    by_cases hl : (S k).leads = true
    · rw [show (doR n S (.settle k)).1 = settleR n S k from by simp only [doR, if_pos hl]]
      by_cases hvk : v = k
      · subst hvk
        have e : settleR n S v v = { S v with settled := max (S v).settled (settM n (heldM S v) (S v).row (S v).term (S v).row.length) } := put_same
        exact ⟨by rw [e]; exact Int.le_refl _, fun _ => by rw [e]; exact Nat.le_max_left _ _, fun _ _ => .inl (by rw [e])⟩
      · exact .same (put_ne hvk)
    · rw [show (doR n S (.settle k)).1 = S from by simp only [doR, if_neg hl]]
      exact .same rfl
  | hand k o m =>
    obtain ⟨hk, ho, hne⟩ := hd
    by_cases hl : (S k).leads = true
    · rw [show (doR n S (.hand k o m)).1 = (handR S k o m).1 from by simp only [doR, if_pos hl]]
      by_cases hT : (S k).term < (S o).term
      · rw [handR_lo hT]
        by_cases hvk : v = k
        · subst hvk
          exact .heard put_same
        · exact .same (put_ne hvk)
      · by_cases hA : agr (hear (S o) (S k).term).row ((S k).next o) (lastT ((S k).row.take ((S k).next o))) = true
        · rw [handR_ok hT hA]
          by_cases hvk : v = k
          · subst hvk
            show Left S _ (put (put S o _) v _) v
            refine ⟨?_, fun _ => ?_, fun _ _ => .inl ?_⟩ <;> rw [put_same]
            · exact Int.le_refl _
            · exact Nat.le_refl _
          · by_cases hvo : v = o
            · subst hvo
              show Left S _ (put (put S v _) k _) v
              refine ⟨?_, fun _ => ?_, fun hl' ht' => ?_⟩
              · rw [put_ne hvk, put_same]
                exact hear_kept.1
              · rw [put_ne hvk, put_same]
                show _ ≤ max _ _
                rw [hear_settled]
                exact Nat.le_max_left _ _
              · rw [put_ne hvk, put_same] at hl' ht'
                obtain ⟨q1, q2⟩ := hear_leads hl'
                exfalso
                have k1 := ((h.k v hv).k1 q1).2
                have k2 := ((h.k k hk).k1 hl).2
                have e : (hear (S v) (S k).term).term = (S v).term := by rw [q2]
                rw [hear_term] at e
                have : (S v).term = (S k).term := by omega
                rw [this, k2] at k1
                exact hvk k1.symm
            · exact .same ((put_ne hvk).trans (put_ne hvo))
        · rw [handR_un hT hA]
          by_cases hvk : v = k
          · subst hvk
            show Left S _ (put (put S o _) v _) v
            refine ⟨?_, fun _ => ?_, fun _ _ => .inl ?_⟩ <;> rw [put_same]
            · exact Int.le_refl _
            · exact Nat.le_refl _
          · by_cases hvo : v = o
            · subst hvo
              exact .heard ((put_ne hvk).trans put_same)
            · exact .same ((put_ne hvk).trans (put_ne hvo))
    · rw [show (doR n S (.hand k o m)).1 = S from by simp only [doR, if_neg hl]]
      exact .same rfl
/-- a deed, and what is remembered beside it -/
structure Step (n : Nat) (G : Gh α) (S : Room α) (d : Deed α) (G' : Gh α) : Prop where
  le : GLe G G'
  inv : Inv n G' (doR n S d).1
  won : ∀ k os, d = .stand k os → (doR n S d).2 = .b true → (∀ u, led G u → u < ((doR n S d).1 k).term) ∧ led G' ((doR n S d).1 k).term ∧ ∀ u, led G' u → led G u ∨ u = ((doR n S d).1 k).term
  nwon : (∀ k os, d = .stand k os → (doR n S d).2 ≠ .b true) → ∀ u, led G' u → led G u
theorem step_of {S : Room α} (h : Inv n G S) {d : Deed α} (hd : d.ok n) : ∃ G', Step n G S d G' := by
  have plain : ∀ {S' : Room α}, (doR n S d).1 = S' → Inv n G S' → (∀ k os, d ≠ .stand k os) → ∃ G', Step n G S d G' := fun {S'} e i hn =>
    ⟨G, GLe.refl G, by rw [e]; exact i, fun k os q => absurd q (hn k os), fun _ u q => q⟩
  cases d with
  | stand k os =>
    obtain ⟨hk, ho⟩ := hd
    rcases h.standR hk ho with ⟨e, i⟩ | ⟨e, hv, le, i⟩
    · refine ⟨G, GLe.refl G, i, fun k' os' _ q => ?_, fun _ u q => q⟩
      have q : Tell.b (standR n S k os).2 = .b true := q
      rw [e] at q
      cases q
    · refine ⟨_, le, i, fun k' os' q _ => ?_, fun q => absurd (show (doR n S (.stand k os)).2 = .b true from congrArg Tell.b e) (q k os rfl)⟩
      cases q
      show (∀ u, led G u → u < ((standR n S k os).1 k).term) ∧ led _ ((standR n S k os).1 k).term ∧ ∀ u, led _ u → led G u ∨ u = ((standR n S k os).1 k).term
      rw [(standR_k hk ho).1]
      refine ⟨h.above hv, ⟨_, if_pos rfl⟩, fun u q => ?_⟩
      by_cases hu : u = (S k).term + 1
      · exact .inr hu
      · obtain ⟨l, e⟩ := q
        have e : (if u = (S k).term + 1 then _ else G.tl u) = some l := e
        rw [if_neg hu] at e
        exact .inl ⟨l, e⟩
  | rest k => exact plain rfl (h.restR k) fun _ _ q => nomatch q
  | settle k =>
    by_cases hl : (S k).leads = true
    · exact plain (show (doR n S (.settle k)).1 = settleR n S k by simp only [doR, if_pos hl]) (h.settleR hl) fun _ _ q => nomatch q
    · exact plain (S' := S) (by simp only [doR, if_neg hl]) h fun _ _ q => nomatch q
  | write k w =>
    by_cases hl : (S k).leads = true
    · obtain ⟨G', le, i, e, _⟩ := h.writeR (k := k) hd hl w
      have q : (doR n S (.write k w)).1 = Rf.writeR S k w := by simp only [doR, if_pos hl]
      exact ⟨G', le, by rw [q]; exact i, fun _ _ q => (nomatch q), fun _ u q => (e u).mp q⟩
    · exact plain (S' := S) (by simp only [doR, if_neg hl]) h fun _ _ q => nomatch q
  | hand k o m =>
    obtain ⟨hk, ho, hne⟩ := hd
    by_cases hl : (S k).leads = true
    · obtain ⟨G', le, i, e, _⟩ := h.handR hk ho hne hl m
      have q : (doR n S (.hand k o m)).1 = (Rf.handR S k o m).1 := by simp only [doR, if_pos hl]
      refine ⟨G', le, by rw [q]; exact i, fun _ _ q => (nomatch q), fun _ u q => ?_⟩
      obtain ⟨l, q⟩ := q
      rw [e] at q
      exact ⟨l, q⟩
    · exact plain (S' := S) (by simp only [doR, if_neg hl]) h fun _ _ q => nomatch q
/-! ### what the laws ask behind each deed -/
/-- one leader in each term -/
theorem Inv.one {S : Room α} (h : Inv n G S) {v : Nat} (hv : v < n) (hl : (S v).leads = true) : led G (S v).term ∧ G.ldr (S v).term = v := ⟨⟨_, ((h.k v hv).k1 hl).1⟩, ((h.k v hv).k1 hl).2⟩
def part (x : Kp α) : List (Int × α) := x.row.take x.settled
theorem Inv.part {S : Room α} (h : Inv n G S) {v : Nat} (hv : v < n) : Known n G (S v).term (Rf.part (S v)) ∧ (Rf.part (S v)).length = (S v).settled :=
  ⟨(h.k v hv).k6.1, by unfold Rf.part; rw [List.length_take]; have := (h.k v hv).k6.2; omega⟩
theorem Inv.part_grows {S : Room α} (h : Inv n G S) {d : Deed α} (hd : d.ok n) (st : Step n G S d G') {v : Nat} (hv : v < n) (hn : ∀ k, d = .rest k → v ≠ k) : (Rf.part ((doR n S d).1 v)).take (Rf.part (S v)).length = Rf.part (S v) := by
  have a := h.part hv
  have b := st.inv.part hv
  refine Known.cmp st.inv.g (a.1.mono st.le (Int.le_refl _)) b.1 ?_
  rw [a.2, b.2]
  exact (left_of h hd hv).settled hn
/-- the last that was told to lead -/
def Top (G : Gh α) (w : Int) : Prop := (∀ u, led G u → u ≤ w)
theorem Inv.newest {S : Room α} (h : Inv n G S) {v : Nat} (hv : v < n) {w u : Int} (tp : Top G w) (hl : (S v).leads = true) (hw : (S v).term = w) {r : List (Int × α)} (hr : Known n G u r) : (S v).row.take r.length = r := by
  have q := ((h.k v hv).k1 hl).1
  rw [hw] at q
  exact hr.within h.g q tp
theorem Inv.agree {S : Room α} (h : Inv n G S) {v w : Nat} (hv : v < n) (hw : w < n) {i : Nat} {a b : Int × α} (ha : (S v).row[i]? = some a) (hb : (S w).row[i]? = some b) (e : a.1 = b.1) : (S v).row.take (i + 1) = (S w).row.take (i + 1) := (h.k v hv).k3.agree (h.k w hw).k3 ha hb e
end Rf

set_option linter.all false
set_option maxHeartbeats 1000000
namespace Rf
variable {α : Type} {n : Nat} {G G' : Gh α}
/-! ### point 17 -/
theorem newM_eq {r s : List (Int × α)} : newM r s = true ↔ (lastT r = lastT s ∧ s.length ≤ r.length) ∨ lastT s < lastT r := by
  refine ⟨newM_iff, fun h => ?_⟩
  unfold newM
  rcases h with ⟨h1, h2⟩ | h
  · rw [if_pos h1]
    exact decide_eq_true h2
  · rw [if_neg (by omega)]
    exact decide_eq_true h
theorem newM_refl (r : List (Int × α)) : newM r r = true := newM_eq.mpr (.inl ⟨rfl, Nat.le_refl _⟩)
theorem newM_trans {r s t : List (Int × α)} (h : newM r s = true) (k : newM s t = true) : newM r t = true := by
  have h := newM_eq.mp h
  have k := newM_eq.mp k
  exact newM_eq.mpr (by omega)
/-- (last term, length) greater or not -/
theorem newM_of_gt {r s : List (Int × α)} (h : lastT s < lastT r ∨ (lastT s = lastT r ∧ s.length < r.length)) : newM r s = true := newM_eq.mpr (by omega)
theorem newM_of_ngt {r s : List (Int × α)} (h : ¬ (lastT s < lastT r ∨ (lastT s = lastT r ∧ s.length < r.length))) : newM s r = true := newM_eq.mpr (by omega)
/-- one stands, whose term will be above the others', and whose row is as new: it leads -/
theorem stand_last {S : Room α} {k : Nat} (hk : k < n) (hT : ∀ v, v < n → v ≠ k → (S v).term < (S k).term + 1) (hN : ∀ v, v < n → newM (S k).row (S v).row = true) :
    (standR n S k (List.range n)).2 = true ∧ (standR n S k (List.range n)).1 k = { hear (S k) ((S k).term + 1) with leads := true, next := fun _ => (S k).row.length, held := fun _ => 0 } := by
  have hc : cnt n (voices S k (List.range n)) = n := by
    unfold cnt
    have : List.countP (voices S k (List.range n)) (List.range n) = (List.range n).length := by
      rw [List.countP_eq_length]
      intro v hv
      have hv' := List.mem_range.mp hv
      unfold voices yes
      by_cases e : v = k
      · rw [decide_eq_true e, Bool.true_or]
      · rw [decide_eq_true hv, decide_eq_true (hT v hv' e), hN v hv', Bool.true_and, Bool.true_and, Bool.or_true]
    rw [this, List.length_range]
  rw [standR_eq hk fun o h => List.mem_range.mp h, if_pos (by rw [hc]; omega)]
  exact ⟨rfl, put_same⟩
theorem stand_rows {S : Room α} {k v : Nat} (hk : k < n) (hv : v < n) : ((standR n S k (List.range n)).1 v).row = (S v).row ∧ ((standR n S k (List.range n)).1 v).term = (if v = k then (S k).term + 1 else max (S v).term ((S k).term + 1)) := by
  have ho : ∀ o, o ∈ List.range n → o < n := fun o h => List.mem_range.mp h
  by_cases e : v = k
  · subst e
    rw [if_pos rfl]
    exact ⟨(standR_k hk ho).2.1, (standR_k hk ho).1⟩
  · rw [if_neg e, standR_o hk ho e, if_pos (List.mem_range.mpr hv)]
    exact ⟨hear_row, hear_term⟩
structure Lead (n : Nat) (G : Gh α) (X : Room α) (k : Nat) (L : List (Int × α)) (T : Int) : Prop where
  inv : Inv n G X
  hk : k < n
  leads : (X k).leads = true
  row : (X k).row = L
  term : (X k).term = T
  oth : ∀ v, v < n → v ≠ k → (X v).term = T
  len : 0 < L.length
  last : ∃ e, L[L.length - 1]? = some e ∧ e.1 = T
structure Has (X : Room α) (k : Nat) (L : List (Int × α)) (o : Nat) : Prop where
  row : (X o).row = L
  next : (X k).next o = L.length
  held : (X k).held o = L.length
def none_of (T : Int) (r : List (Int × α)) : Prop := ∀ (i : Nat) (e : Int × α), r[i]? = some e → e.1 ≠ T
structure Same (X X' : Room α) (k o : Nat) : Prop where
  oth : ∀ v, v ≠ k → v ≠ o → X' v = X v
  next : ∀ j, j ≠ o → (X' k).next j = (X k).next j ∧ (X' k).held j = (X k).held j
  settled : (X' k).settled = (X k).settled
theorem hand_once {X : Room α} {k o m : Nat} {L : List (Int × α)} {T : Int} (D : Lead n G X k L T) (ho : o < n) (hne : o ≠ k) (hq : none_of T (X o).row ∨ (X o).row = L)
    (ha : (X k).next o ≤ L.length) (hm : L.length ≤ (X k).next o + m) :
    ∃ G', GLe G G' ∧ Lead n G' (handR X k o m).1 k L T ∧ Same X (handR X k o m).1 k o ∧
      (((handR X k o m).2 = true ∧ Has (handR X k o m).1 k L o ∧ ((handR X k o m).1 o).settled = max (X o).settled (min (X k).settled L.length)) ∨
       ((handR X k o m).2 = false ∧ ¬ Has X k L o ∧ 1 ≤ (X k).next o ∧ ((handR X k o m).1 k).next o = (X k).next o - 1 ∧ ((handR X k o m).1 o).row = (X o).row)) := by
  obtain ⟨G', le, i, _⟩ := D.inv.handR D.hk ho hne D.leads m
  have K := D.inv.k k D.hk
  have O := D.inv.k o ho
  have hT : ¬ (X k).term < (X o).term := by rw [D.term, D.oth o ho hne]; omega
  have hh : hear (X o) (X k).term = X o := hear_ge (by rw [D.term, D.oth o ho hne]; omega)
  have ok := handR_ok (m := m) hT
  have un := handR_un (m := m) hT
  rw [hh, D.row] at ok un
  obtain ⟨le0, e, hl1, hl2⟩ := And.intro D.len D.last
  by_cases hA : agr (X o).row ((X k).next o) (lastT (L.take ((X k).next o))) = true
  · have q := ok hA
    have hb : ((L.drop ((X k).next o)).take m).length = L.length - (X k).next o := by
      rw [List.length_take, List.length_drop]
      omega
    have hb2 : (X k).next o + ((L.drop ((X k).next o)).take m).length = L.length := by omega
    have kl : LM G L := by rw [← D.row]; exact K.k3
    have two := (fill_two (m := m) O.k3 kl ha (agr_take O.k3 kl ha hA)).2
    rw [hb2] at two q
    have row' : fillM (X o).row ((X k).next o) ((L.drop ((X k).next o)).take m) = L := by
      rcases two with ⟨q1, q2, q3⟩ | ⟨q1, _⟩
      · rw [List.take_length] at q3
        rcases hq with hq | hq
        · exfalso
          have : (X o).row[L.length - 1]? = some e := by
            rw [← hl1]
            exact get_of_take (n := L.length) (by rw [q3, List.take_length]) (by omega)
          exact hq _ e this hl2
        · rw [q1, hq]
      · rw [q1, List.take_length]
    rw [row'] at q
    rw [q] at i ⊢
    have e1 : ∀ {x y : Kp α}, put (put X o x) k y k = y := put_same
    have e2 : ∀ {x y : Kp α}, put (put X o x) k y o = x := (put_ne hne).trans put_same
    refine ⟨G', le, ⟨i, D.hk, ?_, ?_, ?_, fun v hv hvk => ?_, D.len, D.last⟩, ⟨fun v h1 h2 => (put_ne h1).trans (put_ne h2), fun j hj => ?_, ?_⟩, .inl ⟨rfl, ⟨?_, ?_, ?_⟩, ?_⟩⟩
    · show (put _ k _ k).leads = true
      rw [put_same]
      exact D.leads
    · show (put _ k _ k).row = L
      rw [put_same]
      exact D.row
    · show (put _ k _ k).term = T
      rw [put_same]
      exact D.term
    · show (put _ k _ v).term = T
      rw [put_ne hvk]
      by_cases hvo : v = o
      · subst hvo
        rw [put_same]
        exact D.oth v hv hvk
      · rw [put_ne hvo]
        exact D.oth v hv hvk
    · show (put _ k _ k).next j = _ ∧ (put _ k _ k).held j = _
      rw [put_same]
      exact ⟨if_neg hj, if_neg hj⟩
    · show (put _ k _ k).settled = _
      rw [put_same]
    · show (put _ k _ o).row = _
      rw [e2]
    · show (put _ k _ k).next o = _
      rw [put_same]
      exact if_pos rfl
    · show (put _ k _ k).held o = _
      rw [put_same]
      exact if_pos rfl
    · show (put _ k _ o).settled = _
      rw [e2]
  · have q := un hA
    have a1 : 1 ≤ (X k).next o := by
      rcases Nat.eq_zero_or_pos ((X k).next o) with z | z
      · exfalso
        rw [z] at hA
        exact hA (agr_iff.mpr (.inl rfl))
      · exact z
    have nh : ¬ Has X k L o := fun H => by
      apply hA
      rw [H.row, H.next]
      refine agr_iff.mpr (.inr ⟨e, hl1, D.len, ?_⟩)
      have := lastT_take hl1
      rw [Nat.sub_add_cancel D.len] at this
      exact this.symm
    rw [q] at i ⊢
    have e2 : ∀ {x y : Kp α}, put (put X o x) k y o = x := (put_ne hne).trans put_same
    refine ⟨G', le, ⟨i, D.hk, ?_, ?_, ?_, fun v hv hvk => ?_, D.len, D.last⟩, ⟨fun v h1 h2 => (put_ne h1).trans (put_ne h2), fun j hj => ?_, ?_⟩, .inr ⟨rfl, nh, a1, ?_, ?_⟩⟩
    · show (put _ k _ k).leads = true
      rw [put_same]
      exact D.leads
    · show (put _ k _ k).row = L
      rw [put_same]
      exact D.row
    · show (put _ k _ k).term = T
      rw [put_same]
      exact D.term
    · show (put _ k _ v).term = T
      rw [put_ne hvk]
      by_cases hvo : v = o
      · subst hvo
        rw [put_same]
        exact D.oth v hv hvk
      · rw [put_ne hvo]
        exact D.oth v hv hvk
    · show (put _ k _ k).next j = _ ∧ (put _ k _ k).held j = _
      rw [put_same]
      exact ⟨if_neg hj, rfl⟩
    · show (put _ k _ k).settled = _
      rw [put_same]
    · show (put _ k _ k).next o = _
      rw [put_same]
      exact if_pos rfl
    · show (put _ k _ o).row = _
      rw [e2]
theorem Has.same {X X' : Room α} {k o v : Nat} {L : List (Int × α)} (s : Same X X' k o) (h1 : v ≠ k) (h2 : v ≠ o) (h : Has X k L v) : Has X' k L v := ⟨by rw [s.oth v h1 h2]; exact h.row, by rw [(s.next v h2).1]; exact h.next, by rw [(s.next v h2).2]; exact h.held⟩
/-- all hold it: it settles its whole row -/
theorem settle_all {X : Room α} {k : Nat} {L : List (Int × α)} {T : Int} (D : Lead n G X k L T) (h : ∀ o, o < n → o ≠ k → (X k).held o = L.length) : (settleR n X k k).settled = L.length ∧ Lead n G (settleR n X k) k L T := by
  have e : settleR n X k k = { X k with settled := max (X k).settled (settM n (heldM X k) (X k).row (X k).term (X k).row.length) } := put_same
  have hs : settM n (heldM X k) (X k).row (X k).term (X k).row.length = L.length := by
    rw [D.row, D.term]
    obtain ⟨f, hl1, hl2⟩ := D.last
    obtain ⟨c, hc⟩ : ∃ c, L.length = c + 1 := ⟨L.length - 1, by have := D.len; omega⟩
    rw [hc] at hl1 ⊢
    rw [Nat.add_sub_cancel] at hl1
    unfold settM
    rw [hl1]
    have hn : cnt n (fun v => decide (c + 1 ≤ heldM X k v)) = n := by
      unfold cnt
      have : List.countP (fun v => decide (c + 1 ≤ heldM X k v)) (List.range n) = (List.range n).length := by
        rw [List.countP_eq_length]
        intro v hv
        apply decide_eq_true
        unfold heldM
        split
        · rw [D.row]
          omega
        · rename_i q
          rw [h v (List.mem_range.mp hv) q]
          omega
      rw [this, List.length_range]
    have := D.hk
    exact if_pos ⟨by rw [hn]; omega, hl2⟩
  have h6 := (D.inv.k k D.hk).k6.2
  rw [D.row] at h6
  refine ⟨by rw [e]; show max _ _ = _; rw [hs]; omega, D.inv.settleR D.leads, D.hk, by rw [e]; exact D.leads, by rw [e]; exact D.row, by rw [e]; exact D.term, fun v hv hvk => ?_, D.len, D.last⟩
  rw [show settleR n X k v = X v from put_ne hvk]
  exact D.oth v hv hvk
/-- it leads, and writes: nobody else has an entry of its term -/
theorem lead_writes {S : Room α} (h : Inv n G S) {k : Nat} (hk : k < n) (hT : ∀ v, v < n → v ≠ k → (S v).term < (S k).term + 1) (hN : ∀ v, v < n → newM (S k).row (S v).row = true) (w : α) :
    ∃ G', GLe G G' ∧ Lead n G' (writeR (standR n S k (List.range n)).1 k w) k ((S k).row ++ [((S k).term + 1, w)]) ((S k).term + 1) ∧
      ∀ v, v < n → v ≠ k → none_of ((S k).term + 1) ((writeR (standR n S k (List.range n)).1 k w) v).row ∧ ((writeR (standR n S k (List.range n)).1 k w) k).next v = (S k).row.length := by
  have ho : ∀ o, o ∈ List.range n → o < n := fun o h => List.mem_range.mp h
  obtain ⟨t1, t2⟩ := stand_last hk hT hN
  have i : ∃ G', GLe G G' ∧ Inv n G' (standR n S k (List.range n)).1 := by
    rcases h.standR hk ho with ⟨e, _⟩ | ⟨_, _, le, i⟩
    · rw [t1] at e
      cases e
    · exact ⟨_, le, i⟩
  obtain ⟨G1, le1, i1⟩ := i
  have sr : ∀ v, v < n → _ := fun v hv => stand_rows (S := S) hk hv
  generalize (standR n S k (List.range n)).1 = Y at *
  have l1 : (Y k).leads = true := by rw [t2]
  obtain ⟨G2, le2, i2, _, _⟩ := i1.writeR hk l1 w
  have r1 := (sr k hk).1
  have r2 := (sr k hk).2
  rw [if_pos rfl] at r2
  have e1 : writeR Y k w k = { Y k with row := (S k).row ++ [((S k).term + 1, w)] } := by
    show put _ k _ k = _
    rw [put_same, r1, r2]
  have e2 : ∀ v, v ≠ k → writeR Y k w v = Y v := fun v hv => put_ne hv
  refine ⟨G2, le1.trans le2, ⟨i2, hk, by rw [e1]; exact l1, by rw [e1], by rw [e1]; exact r2, fun v hv hvk => ?_, by rw [List.length_append, List.length_singleton]; omega, ⟨((S k).term + 1, w), ?_, rfl⟩⟩, fun v hv hvk => ⟨fun i e he => ?_, ?_⟩⟩
  · have r3 := (sr v hv).2
    rw [if_neg hvk] at r3
    have := hT v hv hvk
    rw [e2 v hvk, r3]
    omega
  · rw [List.length_append, List.length_singleton, Nat.add_sub_cancel, List.getElem?_append_right (Nat.le_refl _), Nat.sub_self]
    rfl
  · rw [e2 v hvk, (sr v hv).1] at he
    have := ((h.k v hv).k4.2 i e he).2
    have := hT v hv hvk
    omega
  · rw [e1]
    show (Y k).next v = _
    rw [t2]
end Rf

set_option linter.all false
set_option maxHeartbeats 1000000
namespace Rf
variable {α : Type} {n : Nat} {G G' : Gh α}
/-- every row behind a deed is the beginning of one ahead of it, or has one entry more -/
theorem row_do {S : Room α} (h : Inv n G S) {d : Deed α} (hd : d.ok n) {v : Nat} (hv : v < n) :
    (∃ u b, u < n ∧ ((doR n S d).1 v).row = (S u).row.take b) ∨ ∃ w, d = .write v w ∧ ((doR n S d).1 v).row = (S v).row ++ [((S v).term, w)] := by
  have same : ∀ {r : List (Int × α)}, r = (S v).row → ∃ u b, u < n ∧ r = (S u).row.take b := fun {r} e => ⟨v, (S v).row.length, hv, by rw [e, List.take_length]⟩
  cases d with
  | stand k os =>
    obtain ⟨hk, ho⟩ := hd
    left
    apply same
    show ((standR n S k os).1 v).row = _
    by_cases hvk : v = k
    · subst hvk
      exact (standR_k hk ho).2.1
    · rw [standR_o hk ho hvk]
      split
      · exact hear_row
      · rfl
  | rest k =>
    left
    apply same
    show (restR S k v).row = _
    by_cases hvk : v = k
    · subst hvk
      rw [show restR S v v = { S v with leads := false, settled := 0 } from put_same]
    · rw [show restR S k v = S v from put_ne hvk]
  | write k w =>
    by_cases hl : (S k).leads = true
    · rw [show (doR n S (.write k w)).1 = writeR S k w from by simp only [doR, if_pos hl]]
      by_cases hvk : v = k
      · subst hvk
        exact .inr ⟨w, rfl, by rw [show writeR S v w v = { S v with row := (S v).row ++ [((S v).term, w)] } from put_same]⟩
      · exact .inl (same (by rw [show writeR S k w v = S v from put_ne hvk]))
    · rw [show (doR n S (.write k w)).1 = S from by simp only [doR, if_neg hl]]
      exact .inl (same rfl)
  | settle k =>
    left
    by_cases hl : (S k).leads = true
    · rw [show (doR n S (.settle k)).1 = settleR n S k from by simp only [doR, if_pos hl]]
      apply same
      by_cases hvk : v = k
      · subst hvk
        rw [show settleR n S v v = { S v with settled := max (S v).settled (settM n (heldM S v) (S v).row (S v).term (S v).row.length) } from put_same]
      · rw [show settleR n S k v = S v from put_ne hvk]
    · rw [show (doR n S (.settle k)).1 = S from by simp only [doR, if_neg hl]]
      exact same rfl
  | hand k o m =>
    obtain ⟨hk, ho, hne⟩ := hd
    left
    by_cases hl : (S k).leads = true
    · rw [show (doR n S (.hand k o m)).1 = (handR S k o m).1 from by simp only [doR, if_pos hl]]
      by_cases hT : (S k).term < (S o).term
      · rw [handR_lo hT]
        apply same
        show (put _ _ _ v).row = _
        by_cases hvk : v = k
        · subst hvk
          rw [put_same]
          exact hear_row
        · rw [put_ne hvk]
      · have K := h.k k hk
        by_cases hA : agr (hear (S o) (S k).term).row ((S k).next o) (lastT ((S k).row.take ((S k).next o))) = true
        · rw [handR_ok hT hA]
          by_cases hvk : v = k
          · subst hvk
            apply same
            show (put (put S o _) v _ v).row = _
            rw [put_same]
          · by_cases hvo : v = o
            · subst hvo
              show ∃ u b, u < n ∧ (put (put S v _) k _ v).row = _
              rw [put_ne hvk, put_same]
              have aL := (K.k7 hl v hv hne).2
              have lL := h.g.g2 _ _ (K.k1 hl).1
              have X := (h.k v hv).k3
              rw [hear_row] at hA ⊢
              rcases (fill_two (m := m) X lL.1 aL (agr_take X lL.1 aL hA)).2 with ⟨q, _⟩ | ⟨q, _⟩
              · exact same q
              · exact ⟨k, _, hk, q⟩
            · apply same
              show (put (put S o _) k _ v).row = _
              rw [put_ne hvk, put_ne hvo]
        · rw [handR_un hT hA]
          by_cases hvk : v = k
          · subst hvk
            apply same
            show (put (put S o _) v _ v).row = _
            rw [put_same]
          · by_cases hvo : v = o
            · subst hvo
              apply same
              show (put (put S v _) k _ v).row = _
              rw [put_ne hvk, put_same]
              exact hear_row
            · apply same
              show (put (put S o _) k _ v).row = _
              rw [put_ne hvk, put_ne hvo]
    · rw [show (doR n S (.hand k o m)).1 = S from by simp only [doR, if_neg hl]]
      exact same rfl
end Rf

set_option linter.all false
set_option maxHeartbeats 1000000
namespace Rf
variable {α : Type} {n : Nat} {G G' : Gh α}
/-- terms within a bound -/
def Tm (n : Nat) (S : Room α) (c : Int) : Prop := ∀ v, v < n → (S v).term ≤ c
theorem Tm.mono {S : Room α} {c c' : Int} (h : Tm n S c) (k : c ≤ c') : Tm n S c' := fun v hv => Int.le_trans (h v hv) k
theorem tm_put {S : Room α} {c c' : Int} {k : Nat} {x : Kp α} (h : Tm n S c) (hc : c ≤ c') (hx : x.term ≤ c') : Tm n (put S k x) c' := fun v hv => by
  by_cases e : v = k
  · rw [e, put_same]; exact hx
  · rw [put_ne e]; exact Int.le_trans (h v hv) hc
theorem tm_do {S : Room α} {c : Int} (h : Tm n S c) {d : Deed α} (hd : d.ok n) : Tm n (doR n S d).1 (c + 1) := by
  cases d with
  | stand k os =>
    obtain ⟨hk, ho⟩ := hd
    intro v hv
    show ((standR n S k os).1 v).term ≤ _
    have := h k hk
    by_cases e : v = k
    · rw [e, (standR_k hk ho).1]; omega
    · rw [standR_o hk ho e]
      split
      · rw [hear_term]
        have := h v hv
        omega
      · have := h v hv
        omega
  | rest k =>
    intro v hv
    show (restR S k v).term ≤ _
    have := h v hv
    unfold restR
    by_cases e : v = k
    · rw [e, put_same]; rw [e] at this; show (S k).term ≤ _; omega
    · rw [put_ne e]; omega
  | write k w =>
    by_cases hl : (S k).leads = true
    · rw [show (doR n S (.write k w)).1 = writeR S k w from by simp only [doR, if_pos hl]]
      have hk : k < n := hd
      exact tm_put h (by omega) (by show (S k).term ≤ _; have := h k hk; omega)
    · rw [show (doR n S (.write k w)).1 = S from by simp only [doR, if_neg hl]]
      exact h.mono (by omega)
  | settle k =>
    by_cases hl : (S k).leads = true
    · rw [show (doR n S (.settle k)).1 = settleR n S k from by simp only [doR, if_pos hl]]
      have hk : k < n := hd
      exact tm_put h (by omega) (by show (S k).term ≤ _; have := h k hk; omega)
    · rw [show (doR n S (.settle k)).1 = S from by simp only [doR, if_neg hl]]
      exact h.mono (by omega)
  | hand k o m =>
    obtain ⟨hk, ho, hne⟩ := hd
    have tk := h k hk
    have to_ := h o ho
    by_cases hl : (S k).leads = true
    · rw [show (doR n S (.hand k o m)).1 = (handR S k o m).1 from by simp only [doR, if_pos hl]]
      by_cases hT : (S k).term < (S o).term
      · rw [handR_lo hT]
        exact tm_put h (by omega) (by rw [hear_term]; omega)
      · by_cases hA : agr (hear (S o) (S k).term).row ((S k).next o) (lastT ((S k).row.take ((S k).next o))) = true
        · rw [handR_ok hT hA]
          exact tm_put (tm_put h (Int.le_refl _) (by show (hear _ _).term ≤ _; rw [hear_term]; omega)) (by omega) (by show (S k).term ≤ _; omega)
        · rw [handR_un hT hA]
          exact tm_put (tm_put h (Int.le_refl _) (by show (hear _ _).term ≤ _; rw [hear_term]; omega)) (by omega) (by show (S k).term ≤ _; omega)
    · rw [show (doR n S (.hand k o m)).1 = S from by simp only [doR, if_neg hl]]
      exact h.mono (by omega)
end Rf

set_option Elab.async false
set_option linter.all false
set_option maxRecDepth 100000
set_option maxHeartbeats 1000000
namespace G
open PySem L2 Evl
section
variable {K : PySem.W.Frag} {σ : L2.St} {B H B1 H1 : Hp} {ta tb te tv : TE} {D : Ends} {tu tz tw : TS} {n : Nat} {i j m : Int} {d : PyData} {ds es : List PyData} {b c : Bool}
/-- xs * m -/
theorem evd_rep (ha : EvD K ta σ B H (.list ds)) (hb : EvD K tb σ B H (.int m)) (h1 : 0 ≤ m) (h2 : ds.length * m.toNat ≤ 100000) (h3 : m < 2 ^ 63 := by omega) : EvD K (tOp rRep ta tb) σ B H (.list (List.replicate m.toNat ds).flatten) :=
  evd_op ha hb fun x y B1 H1 gr p1 p2 Q q => by
    obtain ⟨a, xs, rfl, q1, q2⟩ := dq_list.mp p1
    have rep : ∀ k : Nat, DqAll K B1 (List.replicate k ds).flatten (List.replicate k xs).flatten := fun k => by
      induction k with
      | zero => exact dqa_nil.mpr rfl
      | succ k ih =>
        rw [List.replicate_succ, List.replicate_succ, List.flatten_cons, List.flatten_cons]
        exact q2.append ih
    exact ⟨a, m, xs, rfl, dq_int.mp p2, gr.bh _ _ q1, by omega, h3, sz_of (by rw [q2.len]; exact h2), fun l hl => q _ _ _ (Gr.new gr.bh hl) (dq_list.mpr ⟨l, _, rfl, upd_same, (rep _).mono (Ex.new (ex_none gr.bh hl))⟩)⟩
theorem dqa_ints {B : Hp} (f : Nat → Int) : ∀ k : List Nat, DqAll K B (k.map fun i => .int (f i)) (k.map fun i => V.int (f i))
  | [] => dqa_nil.mpr rfl
  | i :: k => dqa_cons.mpr ⟨_, _, rfl, dq_int.mpr rfl, dqa_ints f k⟩
/-- list(range(m)) -/
theorem evd_listRg (h : EvD K te σ B H (.int m)) (h0 : 0 ≤ m) (h1 : m ≤ 100000) : EvD K (tLstRg (tRg1 te)) σ B H (.list ((List.range m.toNat).map fun i : Nat => .int (i : Int))) := fun B1 H1 g Q q =>
  h B1 H1 g _ fun v B2 H2 g2 p => ⟨m, dq_int.mp p, RgOk.of_le (by omega) (by omega) (by omega) h0, fun l hl => q _ _ _ (g2.trans (Gr.new g2.bh hl)) (dq_list.mpr ⟨l, _, rfl, upd_same, by
    unfold rgV
    have e : (m - 0).toNat = m.toNat := by rw [Int.sub_zero]
    rw [e]
    have := dqa_ints (K := K) (B := upd B2 l (.lst (rgV 0 m))) (fun i : Nat => (0 : Int) + (i : Int)) (List.range m.toNat)
    unfold rgV at this
    rw [e] at this
    have e2 : (List.range m.toNat).map (fun i : Nat => PyData.int ((0 : Int) + (i : Int))) = (List.range m.toNat).map fun i : Nat => .int (i : Int) := List.map_congr_left fun i _ => by rw [Int.zero_add]
    rw [e2] at this
    exact this⟩)⟩
/-- int(b) -/
theorem evd_intB (h : EvD K ta σ B H (.bool b)) : EvD K (tCB (fun xs H Q => (∃ i, xs = [V.int i] ∧ Q (.int i) H) ∨ ∃ k, xs = [V.bl k] ∧ Q (.int (if k then 1 else 0)) H) (tCons ta tNil)) σ B H (.int (if b then 1 else 0)) :=
  evd_cb (ea_cons h ea_nil) fun vs B1 H1 g p Q q => by
    obtain ⟨v, vs', rfl, p1, p2⟩ := dqa_cons.mp p
    cases dqa_nil.mp p2
    exact .inr ⟨b, by rw [dq_bool.mp p1], q _ B1 H1 g.le (dq_int.mpr rfl)⟩
/-- an item of a list of ints -/
theorem evd_pick {xs : List Int} (ha : EvD K ta σ B H (.list (xs.map .int))) (hb : EvD K tb σ B H (.int i)) (h0 : 0 ≤ i) (h1 : i < (xs.length : Int)) : EvD K (tOp (rIxL K) ta tb) σ B H (.int (xs.getD i.toNat 0)) :=
  evd_ixL ha hb (by rw [atI_map, atI_in h0 h1 0]; rfl)
/-- comprehensions over a range, with an if -/
theorem evd_lcRIf {ta : TA} {tt : TT} {m : Int} {j : Nat} {vs : List Nat} (f : Nat → PyData) (w : Nat → Bool) (h : EvA ta σ B H fun B1 vs => DqAll K B1 [.int m] vs) (hm : m ≤ 40000) (hw : ∀ x, wipe ((wipe σ vs).set j (some x)) vs = wipe σ vs)
    (ht : ∀ (i : Nat) B1 H1, Gr B H B1 H1 → (i : Int) < m → EvT K tt ((wipe σ vs).set j (some (.int (i : Int)))) B1 H1 (w i))
    (he : ∀ (i : Nat) B1 H1, Gr B H B1 H1 → (i : Int) < m → w i = true → EvD K te ((wipe σ vs).set j (some (.int (i : Int)))) B1 H1 (f i)) (hm0 : -40000 ≤ m := by omega) :
    EvD K (tLc (iRng1 ta) (gName j) tt te vs) σ B H (.list (((List.range m.toNat).filter w).map f)) := fun B0 H0 g Q q =>
  h B0 H0 g _ fun vs' B1 H1 g1 p => by
    obtain ⟨v, vs2, rfl, e1, e2⟩ := dqa_cons.mp p
    cases dqa_nil.mp e2
    cases dq_int.mp e1
    refine ⟨m, rfl, by omega, by omega, fun Dl hD => ?_⟩
    refine lc_range (lo := 0) (n := m.toNat) (fun i H' => ∃ B' acc, Gr B1 H1 B' H' ∧ B' Dl = none ∧ H' Dl = some (.lst acc) ∧ DqAll K B' (((List.range i).filter w).map f) acc) ⟨B1, [], Gr.newM g1.bh hD, ex_none g1.bh hD, upd_same, dqa_nil.mpr rfl⟩ ?_ ?_
    · rintro i H' hi ⟨B', acc, gg, b1, b2, b3⟩
      refine ⟨hw _, ?_⟩
      have e0 : (0 : Int) + (i : Int) = (i : Int) := Int.zero_add _
      rw [e0]
      refine ht i B' H' ((g.trans g1).trans gg) (by omega) B' H' gg.le _ fun B2 H2 g2 => ?_
      have hf : (List.range (i + 1)).filter w = (List.range i).filter w ++ if w i = true then [i] else [] := by
        rw [List.range_succ, List.filter_append]
        congr 1
        cases hwi : w i <;> simp [List.filter, hwi]
      by_cases hwi : w i = true
      · rw [if_pos hwi] at hf ⊢
        refine he i B2 H2 (((g.trans g1).trans gg).trans g2) (by omega) hwi B2 H2 g2.le _ fun v B3 H3 g3 pv => ⟨acc, g3.hh _ _ (g2.hh _ _ b2), ?_, B3, _, ((gg.trans g2).trans g3).mut hD ((g2.trans g3).out b1 b2), (g2.trans g3).out b1 b2, upd_same, ?_⟩
        · have := b3.len
          have h2 : ((List.range i).filter w).length ≤ (List.range i).length := List.length_filter_le _ _
          rw [List.length_range] at h2
          rw [List.length_map] at this
          exact sz_lt (by omega)
        · rw [hf, List.map_append]
          exact (b3.mono (g2.trans g3).bb).append (DqAll.one pv)
      · rw [if_neg hwi] at hf ⊢
        rw [List.append_nil] at hf
        exact ⟨B2, acc, gg.trans g2, g2.out b1 b2, g2.hh _ _ b2, by rw [hf]; exact b3.mono g2.bb⟩
    · rintro H' ⟨B', acc, gg, b1, b2, b3⟩
      exact q _ _ H' (g1.trans (gg.froz hD b1 b2)) (dq_list.mpr ⟨Dl, acc, rfl, upd_same, b3.mono (Ex.new b1)⟩)
theorem sz_le {k : Nat} (h : k ≤ 100000) : k ≤ sizeLine := sz_of h
end

/-! ### deeds as data -/
def deedD : Rf.Deed Str → PyData
  | .stand k os => .list [.str (PySem.Str.ofString "stand"), .int (k : Int), .list (os.map fun o : Nat => .int (o : Int))]
  | .rest k => .list [.str (PySem.Str.ofString "rest"), .int (k : Int)]
  | .write k w => .list [.str (PySem.Str.ofString "write"), .int (k : Int), .str w]
  | .hand k o m => .list [.str (PySem.Str.ofString "hand"), .int (k : Int), .int (o : Int), .int (m : Int)]
  | .settle k => .list [.str (PySem.Str.ofString "settle"), .int (k : Int)]
def deedGood (n : Nat) (x : Rf.Deed Str) : Prop := x.ok n ∧ (∀ k w, x = .write k w → PyData.strOk w = true) ∧ ∀ k os, x = .stand k os → os.length ≤ 100
def deedsGood (n c : Nat) (dl : List (Rf.Deed Str)) : Prop := (∀ x ∈ dl, deedGood n x) ∧ dl.length ≤ c
theorem deedsGood.append {n c c' : Nat} {dl dl' : List (Rf.Deed Str)} (h : deedsGood n c dl) (k : deedsGood n c' dl') : deedsGood n (c + c') (dl ++ dl') :=
  ⟨fun x hx => (List.mem_append.mp hx).elim (h.1 x) (k.1 x), by rw [List.length_append]; have := h.2; have := k.2; omega⟩
theorem deedsGood.mono {n c c' : Nat} {dl : List (Rf.Deed Str)} (h : deedsGood n c dl) (k : c ≤ c') : deedsGood n c' dl := ⟨h.1, Nat.le_trans h.2 k⟩
theorem deedsGood.nil {n c : Nat} : deedsGood n c [] := ⟨(fun _ h => nomatch h), Nat.zero_le _⟩
theorem deedsGood.one {n : Nat} {x : Rf.Deed Str} (h : deedGood n x) : deedsGood n 1 [x] := ⟨fun y hy => by rw [List.mem_singleton.mp hy]; exact h, Nat.le_refl _⟩
theorem deedsGood.rep {n c : Nat} {dl : List (Rf.Deed Str)} (h : deedsGood n c dl) (k M : Nat) (hk : k ≤ M) : deedsGood n (M * c) (List.replicate k dl).flatten := by
  refine ⟨fun x hx => ?_, ?_⟩
  · obtain ⟨l, hl, hx⟩ := List.mem_flatten.mp hx
    rw [(List.mem_replicate.mp hl).2] at hx
    exact h.1 x hx
  · have e : (List.replicate k dl).flatten.length = k * dl.length := by
      induction k with
      | zero => simp
      | succ k ih =>
        rw [List.replicate_succ, List.flatten_cons, List.length_append, ih (by omega), Nat.succ_mul]
        omega
    rw [e]
    exact Nat.mul_le_mul hk h.2
theorem deedsGood.cut {n c : Nat} {dl : List (Rf.Deed Str)} (h : deedsGood n c dl) (a b : Nat) : deedsGood n c ((dl.drop a).take b) :=
  ⟨fun x hx => h.1 x (List.mem_of_mem_drop (List.mem_of_mem_take hx)), by rw [List.length_take, List.length_drop]; have := h.2; omega⟩
theorem good_stand {n k : Nat} {os : List Nat} (hk : k < n) (ho : ∀ o ∈ os, o < n) (hl : os.length ≤ 100 := by first | decide | assumption | (rw [List.length_range]; omega)) : deedGood n (.stand k os) := ⟨⟨hk, ho⟩, (fun _ _ q => nomatch q), fun _ _ q => by cases q; exact hl⟩
theorem good_rest {n k : Nat} (hk : k < n) : deedGood n (.rest k) := ⟨hk, (fun _ _ q => nomatch q), fun _ _ q => nomatch q⟩
theorem good_write {n k : Nat} {w : Str} (hk : k < n) (hw : PyData.strOk w = true) : deedGood n (.write k w) := ⟨hk, (fun _ _ q => by cases q; exact hw), fun _ _ q => nomatch q⟩
theorem good_hand {n k o m : Nat} (hk : k < n) (ho : o < n) (hne : o ≠ k) : deedGood n (.hand k o m) := ⟨⟨hk, ho, hne⟩, (fun _ _ q => nomatch q), fun _ _ q => nomatch q⟩
theorem good_settle {n k : Nat} (hk : k < n) : deedGood n (.settle k) := ⟨hk, (fun _ _ q => nomatch q), fun _ _ q => nomatch q⟩
/-- evaluates to some list of good deeds -/
def EvL (K : PySem.W.Frag) (te : TE) (σ : L2.St) (B H : Hp) (n c : Nat) : Prop := EvP te σ B H fun B1 v => ∃ dl, deedsGood n c dl ∧ Dq K B1 (.list (dl.map deedD)) v
section
variable {K : PySem.W.Frag} {σ : L2.St} {B H B1 H1 : Hp} {ta tb te tv : TE} {D : Ends} {tu tz tw : TS} {n c c' : Nat} {i j m : Int} {d : PyData} {ds es : List PyData} {b : Bool}
theorem EvL.of {dl : List (Rf.Deed Str)} (h : EvD K te σ B H (.list (dl.map deedD))) (g : deedsGood n c dl) : EvL K te σ B H n c := EvP.imp h fun _ _ v _ p => ⟨dl, g, p⟩
theorem EvL.weak (h : EvL K te σ B H n c) (k : c ≤ c') : EvL K te σ B H n c' := EvP.imp h fun _ _ v _ ⟨dl, g, p⟩ => ⟨dl, g.mono k, p⟩
theorem evl_cat (ha : EvL K ta σ B H n c) (hb : EvL K tb σ B H n c') (hl : c + c' ≤ 100000) : EvL K (tOp rCat ta tb) σ B H n (c + c') :=
  evp_op ha hb (fun _ _ _ e ⟨dl, g, p⟩ => ⟨dl, g, p.mono e⟩) fun x y B1 H1 gr ⟨dl, g, h1⟩ ⟨dl', g', h2⟩ Q q => by
    obtain ⟨a, xs, rfl, q1, q2⟩ := dq_list.mp h1
    obtain ⟨b, ys, rfl, q3, q4⟩ := dq_list.mp h2
    exact ⟨a, b, xs, ys, rfl, rfl, gr.bh _ _ q1, gr.bh _ _ q3, sz_of (by rw [q2.len, q4.len, List.length_map, List.length_map]; have := g.2; have := g'.2; omega), fun l hl => q _ _ _ (Gr.new gr.bh hl)
      ⟨dl ++ dl', g.append g', dq_list.mpr ⟨l, _, rfl, upd_same, by rw [List.map_append]; exact (q2.append q4).mono (Ex.new (ex_none gr.bh hl))⟩⟩⟩
theorem map_flat {α β : Type} (f : α → β) (k : Nat) (l : List α) : ((List.replicate k l).flatten).map f = (List.replicate k (l.map f)).flatten := by
  induction k with
  | zero => rfl
  | succ k ih => rw [List.replicate_succ, List.flatten_cons, List.map_append, ih, List.replicate_succ, List.flatten_cons]
theorem evl_rep {dl : List (Rf.Deed Str)} (ha : EvD K ta σ B H (.list (dl.map deedD))) (g : deedsGood n c dl) (hb : EvD K tb σ B H (.int m)) (h1 : 0 ≤ m) (M : Nat) (h2 : m ≤ (M : Int)) (h3 : M * c ≤ 100000) (hM : M ≤ 1000) : EvL K (tOp rRep ta tb) σ B H n (M * c) := by
  have hk : m.toNat ≤ M := by omega
  refine EvL.of (dl := (List.replicate m.toNat dl).flatten) ?_ (g.rep m.toNat M hk)
  rw [map_flat]
  refine evd_rep ha hb h1 ?_
  rw [List.length_map]
  have := g.2
  have q : dl.length * m.toNat ≤ c * M := Nat.mul_le_mul this hk
  rw [Nat.mul_comm c M] at q
  omega
theorem evl_sl {tl th : TO} {lo hi : Option Int} (h : EvL K te σ B H n c) (h1 : EvO K tl σ B H lo) (h2 : EvO K th σ B H hi) : EvL K (tSl (rSlL K) te tl th) σ B H n c := fun B1 H1 g Q q =>
  h B1 H1 g _ fun x B2 H2 g2 ⟨dl, gd, p⟩ => h1 B2 H2 (g.trans g2) _ fun B3 H3 g3 => h2 B3 H3 ((g.trans g2).trans g3) _ fun B4 H4 g4 => by
    obtain ⟨a, xs, rfl, q1, q2⟩ := dq_list.mp p
    refine ⟨a, xs, rfl, sq_of (g4.bh _ _ (g4.bb _ _ (g3.bb _ _ q1))), fun l hl => q _ _ _ ((g2.trans (g3.trans g4)).trans (Gr.new g4.bh hl)) ⟨_, gd.cut (HT.sIx xs.length 0 lo) (HT.sIx xs.length xs.length hi - HT.sIx xs.length 0 lo), dq_list.mpr ⟨l, _, rfl, upd_same, ?_⟩⟩⟩
    rw [List.map_take, List.map_drop]
    unfold cutV
    exact ((q2.mono (g3.bb.trans (g4.bb.trans (Ex.new (ex_none g4.bh hl))))).drop _).take _
/-- a def that gives some list of good deeds -/
def spL (K : PySem.W.Frag) (c : Nat) (pre : Nat → List PyData → Prop) : Sp := fun vs H Q _ => ∃ B n ds, Ex B H ∧ DqAll K B ds vs ∧ pre n ds ∧ ∀ dl v B1 H1, Gr B H B1 H1 → deedsGood n c dl → Dq K B1 (.list (dl.map deedD)) v → Q v H1
theorem evl_call {pre : Nat → List PyData → Prop} {tr : TA} {E : XK} (h : EvA tr σ B H fun B1 vs => DqAll K B1 ds vs) (hr : pre n ds) : EvL K (tCall (spL K c pre) [] E tr) σ B H n c := fun B1 H1 g Q q =>
  h B1 H1 g _ fun vs B2 H2 g2 p => ⟨B2, n, ds, g2.bh, by rw [List.append_nil]; exact p, hr, fun dl v B3 H3 g3 gd p3 => q v B3 H3 (g2.trans g3) ⟨dl, gd, p3⟩⟩
theorem s_retL (g0 : Ex B H) (h : EvL K te σ B H n c) (k : ∀ dl v B1 H1, Gr B H B1 H1 → deedsGood n c dl → Dq K B1 (.list (dl.map deedD)) v → D.rt v H1) : tRet te D σ H := h B H (Gr.refl g0) _ fun v B1 H1 g ⟨dl, gd, p⟩ => k dl v B1 H1 g gd p
theorem s_asgL {z : Nat} (g0 : Ex B H) (h : EvL K te σ B H n c) (k : ∀ dl v B1 H1, Gr B H B1 H1 → deedsGood n c dl → Dq K B1 (.list (dl.map deedD)) v → D.nx (σ.set z (some v)) H1) : tAsg te (gName z) D σ H := h B H (Gr.refl g0) _ fun v B1 H1 g ⟨dl, gd, p⟩ => k dl v B1 H1 g gd p
theorem q_asgL {z : Nat} (g0 : Ex B H) (h : EvL K te σ B H n c) (k : ∀ dl v B1 H1, Gr B H B1 H1 → deedsGood n c dl → Dq K B1 (.list (dl.map deedD)) v → tz D (σ.set z (some v)) H1) : tSeq (tAsg te (gName z)) tz D σ H := s_asgL (D := { D with nx := tz D }) g0 h k
end
section
variable {K : PySem.W.Frag} {σ : L2.St} {B H B1 H1 : Hp} {ta tb te tv : TE} {D : Ends} {tu tz tw : TS} {n c c' z : Nat} {i j m : Int} {d : PyData} {ds es : List PyData} {b : Bool}
theorem cut_take {xs : List PyData} {v : Int} (h : 0 ≤ v) : cutD xs none (some v) = xs.take v.toNat := by
  unfold cutD
  have e : HT.sIx xs.length xs.length (some v) = min v.toNat xs.length := by
    show (if v < 0 then (v + (xs.length : Int)).toNat else min v.toNat xs.length) = _
    rw [if_neg (by omega)]
  have e0 : HT.sIx xs.length 0 none = 0 := rfl
  rw [e, e0, List.drop_zero, Nat.sub_zero]
  by_cases hl : v.toNat ≤ xs.length
  · rw [Nat.min_eq_left hl]
  · rw [Nat.min_eq_right (by omega), List.take_length, List.take_of_length_le (by omega)]
/-- x = l + e, l a list that may change -/
theorem s_catL {l : Addr} {xs : List V} {dl : List (Rf.Deed Str)} (g0 : Ex B H) (ha : EvV ta σ B H (.ref l)) (hl : H l = some (.lst xs)) (hd : DqAll K B (dl.map deedD) xs) (gd : deedsGood n c dl) (hb : EvL K tb σ B H n c') (hz : c + c' ≤ 100000)
    (k : ∀ l' xs' dl' B1 H1, Gr B H B1 H1 → H l' = none → B1 l' = none → H1 l' = some (.lst xs') → DqAll K B1 (dl'.map deedD) xs' → deedsGood n (c + c') dl' → D.nx (σ.set z (some (.ref l'))) H1) : tAsg (tOp rCat ta tb) (gName z) D σ H :=
  ha B H (Gr.refl g0) _ fun x B1 H1 g1 e => hb B1 H1 g1 _ fun y B2 H2 g2 ⟨dl', gd', p⟩ => by
    obtain ⟨b, ys, rfl, q3, q4⟩ := dq_list.mp p
    have g12 := g1.trans g2
    exact ⟨l, b, xs, ys, e, rfl, g12.hh _ _ hl, g2.bh _ _ q3, sz_of (by rw [hd.len, q4.len, List.length_map, List.length_map]; have := gd.2; have := gd'.2; omega), fun q hq => k q _ (dl ++ dl') B2 _ (g12.trans (Gr.newM g2.bh hq)) (ex_none g12.hh hq) (ex_none g2.bh hq) upd_same
      (by rw [List.map_append]; exact (hd.mono g12.bb).append q4) (gd.append gd')⟩
end
section
variable {K : PySem.W.Frag} {σ : L2.St} {B H B1 H1 : Hp} {ta tb te tv to ti : TE} {D : Ends} {tu tz tw : TS} {n : Nat} {i j m : Int} {d : PyData} {ds es : List PyData} {b : Bool}
theorem evm_rep (ha : EvD K ta σ B H (.list ds)) (hb : EvD K tb σ B H (.int m)) (h1 : 0 ≤ m) (h2 : ds.length * m.toNat ≤ 100000) (h3 : m < 2 ^ 63 := by omega) : EvM K (tOp rRep ta tb) σ B H (List.replicate m.toNat ds).flatten := fun B1 H1 g Q q =>
  ha B1 H1 g _ fun x B2 H2 g2 p1 => hb B2 H2 (g.trans g2) _ fun y B3 H3 g3 p2 => by
    obtain ⟨a, xs, rfl, q1, q2⟩ := dq_list.mp (p1.mono g3.bb)
    have rep : ∀ k : Nat, DqAll K B3 (List.replicate k ds).flatten (List.replicate k xs).flatten := fun k => by
      induction k with
      | zero => exact dqa_nil.mpr rfl
      | succ k ih =>
        rw [List.replicate_succ, List.replicate_succ, List.flatten_cons, List.flatten_cons]
        exact q2.append ih
    exact ⟨a, m, xs, rfl, dq_int.mp p2, g3.bh _ _ q1, by omega, h3, sz_of (by rw [q2.len]; exact h2), fun l hl => q l _ B3 _ ((g2.trans g3).trans (Gr.newM g3.bh hl)) (ex_none (g2.trans g3).hh hl) (ex_none g3.bh hl) upd_same (rep _)⟩
theorem evm_lcR {ta : TA} {m : Int} {j : Nat} {vs : List Nat} (f : Nat → PyData) (h : EvA ta σ B H fun B1 vs => DqAll K B1 [.int m] vs) (hm : m ≤ 40000) (hw : ∀ x, wipe ((wipe σ vs).set j (some x)) vs = wipe σ vs)
    (he : ∀ (i : Nat) B1 H1, Gr B H B1 H1 → (i : Int) < m → EvD K te ((wipe σ vs).set j (some (.int (i : Int)))) B1 H1 (f i)) (hm0 : -40000 ≤ m := by omega) :
    EvM K (tLc (iRng1 ta) (gName j) tYes te vs) σ B H ((List.range m.toNat).map f) := fun B0 H0 g Q q =>
  h B0 H0 g _ fun vs' B1 H1 g1 p => by
    obtain ⟨v, vs2, rfl, e1, e2⟩ := dqa_cons.mp p
    cases dqa_nil.mp e2
    cases dq_int.mp e1
    refine ⟨m, rfl, by omega, by omega, fun Dl hD => ?_⟩
    refine lc_range (lo := 0) (n := m.toNat) (fun i H' => ∃ B' acc, Gr B1 H1 B' H' ∧ B' Dl = none ∧ H' Dl = some (.lst acc) ∧ DqAll K B' ((List.range i).map f) acc) ⟨B1, [], Gr.newM g1.bh hD, ex_none g1.bh hD, upd_same, dqa_nil.mpr rfl⟩ ?_ ?_
    · rintro i H' hi ⟨B', acc, gg, b1, b2, b3⟩
      refine ⟨hw _, ?_⟩
      have e0 : (0 : Int) + (i : Int) = (i : Int) := Int.zero_add _
      unfold tYes
      dsimp only
      rw [if_pos rfl, e0]
      refine he i B' H' ((g.trans g1).trans gg) (by omega) B' H' gg.le _ fun v B2 H2 g2 pv => ⟨acc, g2.hh _ _ b2, ?_, B2, _, (gg.trans g2).mut hD (g2.out b1 b2), g2.out b1 b2, upd_same, ?_⟩
      · have := b3.len
        rw [List.length_map, List.length_range] at this
        exact sz_lt (by omega)
      · rw [List.range_succ, List.map_append]
        exact (b3.mono g2.bb).append (DqAll.one pv)
    · rintro H' ⟨B', acc, gg, b1, b2, b3⟩
      exact q Dl acc B' H' (g1.trans gg) (ex_none g1.hh hD) b1 b2 b3
/-- xs[i] = e -/
theorem s_setL {l : Addr} {xs : List V} {k : Nat} (g0 : Ex B H) (hv : EvD K te σ B H d) (ho : EvV to σ B H (.ref l)) (hl : H l = some (.lst xs)) (hi : EvD K ti σ B H (.int i)) (hj : ixN xs.length i = some k)
    (q : ∀ v B1 H1, Gr B H B1 H1 → Dq K B1 d v → D.nx σ (upd H1 l (.lst (xs.set k v)))) : tAsg te (gSub to ti rSetL) D σ H :=
  hv B H (Gr.refl g0) _ fun v B1 H1 g1 dv => ho B1 H1 g1 _ fun x B2 H2 g2 e => hi B2 H2 (g1.trans g2) _ fun y B3 H3 g3 p => by
    have g13 := (g1.trans g2).trans g3
    exact ⟨l, xs, i, k, e, dq_int.mp p, g13.hh _ _ hl, hj, q v B3 H3 g13 (dv.mono (g2.trans g3).bb)⟩
theorem q_setL {l : Addr} {xs : List V} {k : Nat} (g0 : Ex B H) (hv : EvD K te σ B H d) (ho : EvV to σ B H (.ref l)) (hl : H l = some (.lst xs)) (hi : EvD K ti σ B H (.int i)) (hj : ixN xs.length i = some k)
    (q : ∀ v B1 H1, Gr B H B1 H1 → Dq K B1 d v → tz D σ (upd H1 l (.lst (xs.set k v)))) : tSeq (tAsg te (gSub to ti rSetL)) tz D σ H := s_setL (D := { D with nx := tz D }) g0 hv ho hl hi hj q
theorem DqAll.set {B : Hp} : ∀ {ds : List PyData} {xs : List V} (k : Nat) {d : PyData} {v : V}, DqAll K B ds xs → Dq K B d v → DqAll K B (ds.set k d) (xs.set k v)
  | [], _, _, _, _, h, _ => by rw [dqa_nil.mp h]; exact dqa_nil.mpr rfl
  | e :: ds, _, 0, _, _, h, k => by
    obtain ⟨u, vs, rfl, _, h2⟩ := dqa_cons.mp h
    exact dqa_cons.mpr ⟨_, _, rfl, k, h2⟩
  | e :: ds, _, i + 1, _, _, h, k => by
    obtain ⟨u, vs, rfl, h1, h2⟩ := dqa_cons.mp h
    exact dqa_cons.mpr ⟨_, _, rfl, h1, DqAll.set i h2 k⟩
theorem ixN_of {n k : Nat} (h : k < n) : ixN n ((k : Nat) : Int) = some k := by
  unfold ixN
  rw [if_pos (by omega), if_pos (by omega), Int.toNat_natCast]
end
/-- a deed begins with its name and whose it is -/
def nameOf : Rf.Deed Str → Str
  | .stand _ _ => PySem.Str.ofString "stand"
  | .rest _ => PySem.Str.ofString "rest"
  | .write _ _ => PySem.Str.ofString "write"
  | .hand _ _ _ => PySem.Str.ofString "hand"
  | .settle _ => PySem.Str.ofString "settle"
def whoOf : Rf.Deed Str → Nat
  | .stand k _ => k
  | .rest k => k
  | .write k _ => k
  | .hand k _ _ => k
  | .settle k => k
theorem deed_heads (d : Rf.Deed Str) : ∃ rest, deedD d = .list (.str (nameOf d) :: .int (whoOf d : Int) :: rest) := by
  cases d <;> exact ⟨_, rfl⟩
theorem deed_at {K : PySem.W.Frag} {σ : L2.St} {B H : Hp} {te ti : TE} {d : Rf.Deed Str} (h : EvD K te σ B H (deedD d)) : (EvD K ti σ B H (.int 0) → EvD K (tOp (rIxL K) te ti) σ B H (.str (nameOf d))) ∧ (EvD K ti σ B H (.int 1) → EvD K (tOp (rIxL K) te ti) σ B H (.int (whoOf d : Int))) := by
  cases d <;> exact ⟨fun hi => evd_ixL h hi rfl, fun hi => evd_ixL h hi rfl⟩
theorem name_write {d : Rf.Deed Str} {k : Nat} : (nameOf d == PySem.Str.ofString "write" && decide ((whoOf d : Int) = (k : Int))) = true ↔ ∃ w, d = .write k w := by
  have n1 : (PySem.Str.ofString "stand" == PySem.Str.ofString "write") = false := by decide +kernel
  have n2 : (PySem.Str.ofString "rest" == PySem.Str.ofString "write") = false := by decide +kernel
  have n3 : (PySem.Str.ofString "hand" == PySem.Str.ofString "write") = false := by decide +kernel
  have n4 : (PySem.Str.ofString "settle" == PySem.Str.ofString "write") = false := by decide +kernel
  cases d with
  | write k' w =>
    show (PySem.Str.ofString "write" == PySem.Str.ofString "write" && decide ((k' : Int) = (k : Int))) = true ↔ _
    rw [beq_self_eq_true, Bool.true_and, decide_eq_true_eq]
    constructor
    · intro h
      exact ⟨w, by rw [show k' = k by omega]⟩
    · rintro ⟨w', h⟩
      cases h
      rfl
  | stand k' os =>
    show (PySem.Str.ofString "stand" == PySem.Str.ofString "write" && _) = true ↔ _
    rw [n1, Bool.false_and]
    refine Iff.intro (fun z => ?_) (fun h => ?_)
    · cases z
    · obtain ⟨_, z⟩ := h
      cases z
  | rest k' =>
    show (PySem.Str.ofString "rest" == PySem.Str.ofString "write" && _) = true ↔ _
    rw [n2, Bool.false_and]
    refine Iff.intro (fun z => ?_) (fun h => ?_)
    · cases z
    · obtain ⟨_, z⟩ := h
      cases z
  | hand k' o m =>
    show (PySem.Str.ofString "hand" == PySem.Str.ofString "write" && _) = true ↔ _
    rw [n3, Bool.false_and]
    refine Iff.intro (fun z => ?_) (fun h => ?_)
    · cases z
    · obtain ⟨_, z⟩ := h
      cases z
  | settle k' =>
    show (PySem.Str.ofString "settle" == PySem.Str.ofString "write" && _) = true ↔ _
    rw [n4, Bool.false_and]
    refine Iff.intro (fun z => ?_) (fun h => ?_)
    · cases z
    · obtain ⟨_, z⟩ := h
      cases z
end G

set_option Elab.async false
set_option linter.all false
set_option maxRecDepth 100000
set_option maxHeartbeats 1000000
namespace G
open PySem L2 Evl
section
variable {X : Cx} {CX : CXT} {k : Nat} {f C : Addr} {fd : FuncData} {m : Str} {ps : List Str} {sp : Sp} {E : L2.St → XK} {o e : Expr} {es : List Expr} {t : TA} {ta : TE} {apos pos : Pos}
/-- o.m(e, ..) in a try: what it raises is taken where it stands -/
theorem pe_methE {pl : Sem Bool} (he : PE X o ta) (c : Cls X.K C) (hm : Meth X.K C m f) (F : FnOk X.prog X.w X.K X.mg X.base CX k f fd ps sp) (hr : Room k X.A) (hb : Binds X.K fd ps []) (hx : ∀ σ, PassesAt CX X σ (E σ)) (ha : PA X (e :: es) t)
    (hst : starEach (e :: es) X.env = (false, eval e X.env) :: starEach es X.env := by rfl) (hpl : (backTo pos (starEach es X.env)).any (·.1) = false := by rfl)
    (ht : eval (.Call (.Attribute o m apos) (e :: es) [] pos) X.env = (do
      let ov ← eval o X.env
      standAt apos.atName
      let (f, first) ← holding [ov] (getMethod ov m pl)
      callWith pos f first (backTo pos (starEach (e :: es) X.env)) (backToKw pos (keywordEach [] X.env))) := by rfl) :
    PE X (.Call (.Attribute o m apos) (e :: es) [] pos) (L2H.tMethH C m sp E ta t) := by
  refine ⟨fun pins s σ H Q I h => ?_⟩
  refine PySem.W.methodCall_KW (pl := pl) (thn (he.run pins s σ H _ I h) fun u s1 ⟨x, H1, I1, rx, a, dx, fs, ex, ea, l, q⟩ => ?_) ht
  subst ex
  obtain rfl : u = Value.ref a := rx
  refine getmeth_ok I1 ea c hm l ?_
  refine PySem.W.callWith_K (first := [.ref a]) (h₀ := X.base) I1.ok.mod.kin hm.kp (thn (ha.run pos pins s1 σ H1 _ I1 q) fun us s2 ⟨vs, H2, I2, r, q2⟩ => ⟨I2.kIn, ?_⟩) hst hpl
  exact run_fnS (us := .ref a :: us) (vs := .ref a :: vs) F hr hb (hx σ) I2 (.cons rfl r) q2
end
theorem m_methE {B H : Hp} {σ : L2.St} {ta : TE} {p dx C : Addr} {fs : List (Str × V)} {m : Str} {sp : Sp} {E : L2.St → XK} {t : TA} {P : Hp → List V → Prop} {Q : VK} (g0 : Ex B H) (h : EvV ta σ B H (.ref p)) (hp : H p = some (.ins C dx fs)) (hm : fs.lookup m = none) (ht : EvA t σ B H P)
    (k : ∀ vs B1 H1, Gr B H B1 H1 → P B1 vs → sp (.ref p :: vs) H1 Q (E σ)) : L2H.tMethH C m sp E ta t σ H Q :=
  h B H (Gr.refl g0) _ fun x B1 H1 g1 e => ⟨p, dx, fs, e, g1.hh _ _ hp, hm, ht B1 H1 g1 _ fun vs B2 H2 g2 q => by
    rw [e]
    exact k vs B2 H2 (g1.trans g2) q⟩
/-- x is b, b a truth, x a truth, an int or None -/
def isPl : V → Bool
  | .bl _ => true
  | .int _ => true
  | .non => true
  | _ => false
def rIsP (neg : Bool) : R2 := fun x y H Q => isPl x = true ∧ ∃ b, y = .bl b ∧ Q (.bl (xor neg (decide (x = .bl b)))) H
theorem op_isP {X : Cx} : OpR X (compareOp .Is) (rIsP false) := by
  intro pins s σ H x y v u Q I rx ry h
  obtain ⟨hx, b, rfl, q⟩ := h
  cases (show u = Value.bool b from ry)
  cases x with
  | bl a =>
    cases (show v = Value.bool a from rx)
    by_cases e : a = b
    · subst e
      exact wpAny_is_self rfl ⟨.bl true, H, I, rfl, by simpa using q⟩
    · exact wpAny_is_other rfl (fun z => e (Value.bool.inj z)) ⟨.bl false, H, I, rfl, by simpa [e] using q⟩
  | int i =>
    obtain ⟨t, rfl⟩ := (show ∃ t, v = Value.int i t from rx)
    exact wpAny_is_other rfl (fun z => nomatch z) ⟨.bl false, H, I, rfl, by simpa using q⟩
  | non =>
    cases (show v = Value.none from rx)
    exact wpAny_is_other rfl (fun z => nomatch z) ⟨.bl false, H, I, rfl, by simpa using q⟩
  | _ => exact nomatch hx
theorem op_notP {X : Cx} : OpR X (compareOp .IsNot) (rIsP true) := by
  intro pins s σ H x y v u Q I rx ry h
  obtain ⟨hx, b, rfl, q⟩ := h
  cases (show u = Value.bool b from ry)
  cases x with
  | bl a =>
    cases (show v = Value.bool a from rx)
    by_cases e : a = b
    · subst e
      exact wpAny_isNot_self rfl ⟨.bl false, H, I, rfl, by simpa using q⟩
    · exact wpAny_isNot_other rfl (fun z => e (Value.bool.inj z)) ⟨.bl true, H, I, rfl, by simpa [e] using q⟩
  | int i =>
    obtain ⟨t, rfl⟩ := (show ∃ t, v = Value.int i t from rx)
    exact wpAny_isNot_other rfl (fun z => nomatch z) ⟨.bl true, H, I, rfl, by simpa using q⟩
  | non =>
    cases (show v = Value.none from rx)
    exact wpAny_isNot_other rfl (fun z => nomatch z) ⟨.bl true, H, I, rfl, by simpa using q⟩
  | _ => exact nomatch hx
end G

set_option Elab.async false
set_option linter.all false
set_option maxRecDepth 100000
set_option maxHeartbeats 1000000
namespace G
open PySem L2 Evl
/-! ### a room on the heap, as its callers know it: r stands for n keepers as S says, with footprint F -/
abbrev RoomP := Hp → Hp → Addr → Nat → Rf.Room Str → (Addr → Prop) → Prop
def roomNames : List Str := ["stand", "write", "hand", "settle", "rest", "term_of", "row_of", "leading", "settled_of"]
structure RoomOk (C : Addr) (RA : RoomP) : Prop where
  fr : ∀ {B H B1 H1 : Hp} {r : Addr} {n : Nat} {S : Rf.Room Str} {F F' : Addr → Prop}, RA B H r n S F → GrF F' B H B1 H1 → (∀ a, F a → ¬ F' a) → RA B1 H1 r n S F
  fp : ∀ {B H : Hp} {r : Addr} {n : Nat} {S : Rf.Room Str} {F : Addr → Prop}, RA B H r n S F → ∀ a, F a → B a = none ∧ H a ≠ none
  ins : ∀ {B H : Hp} {r : Addr} {n : Nat} {S : Rf.Room Str} {F : Addr → Prop}, RA B H r n S F → ∃ dx fs, H r = some (.ins C dx fs) ∧ ∀ m ∈ roomNames, fs.lookup m = none
/-- rows of texts, not too long; what is handed on next stands in the row -/
structure Fit (n : Nat) (S : Rf.Room Str) : Prop where
  ok : ∀ v, v < n → okRow (S v).row ∧ (S v).row.length ≤ 10000 ∧ (S v).settled ≤ (S v).row.length
  next : ∀ v, v < n → (S v).leads = true → ∀ o, o < n → o ≠ v → (S v).next o ≤ (S v).row.length
section
variable {C : Addr} {RA : RoomP} {B H B1 H1 : Hp} {r : Addr} {n : Nat} {S : Rf.Room Str} {F : Addr → Prop}
theorem RoomOk.gr (O : RoomOk C RA) (h : RA B H r n S F) (g : Gr B H B1 H1) : RA B1 H1 r n S F := O.fr h (g.fr (F := fun _ => False)) fun _ _ z => z
/-- what stood ahead of it, and is none of its own, is none of its new footprint -/
theorem RoomOk.off (O : RoomOk C RA) (h : RA B H r n S F) {F1 : Addr → Prop} (hF : ∀ a, F1 a → F a ∨ H a = none) {a : Addr} (ha : H a ≠ none) (hn : ¬ F a) : ¬ F1 a := fun z => (hF a z).elim hn ha
def tellV : Rf.Tell → V
  | .no => .non
  | .b x => .bl x
  | .i x => .int (x : Int)
/-- what the change of a room says -/
def After (RA : RoomP) (B H : Hp) (r : Addr) (n : Nat) (F : Addr → Prop) (S' : Rf.Room Str) (Q : Hp → Prop) : Prop :=
  ∀ B1 H1 F1, GrF F B H B1 H1 → (∀ a, F1 a → F a ∨ H a = none) → RA B1 H1 r n S' F1 → Q H1
end
section
variable (K : PySem.W.Frag) (RA : RoomP)
def spStand : Sp := fun vs H Q _ => ∃ B r n S F, ∃ (k : Nat) (os : List Nat) (vl : V), vs = [.ref r, .int (k : Int), vl] ∧ Ex B H ∧ RA B H r n S F ∧ Fit n S ∧ n ≤ 9 ∧ k < n ∧ (∀ o ∈ os, o < n) ∧ os.length ≤ 100 ∧ Dq K B (.list (os.map fun o : Nat => .int (o : Int))) vl ∧
  After RA B H r n F (Rf.standR n S k os).1 (Q (.bl (Rf.standR n S k os).2))
def spWrite (CN : Addr) : Sp := fun vs H Q E => ∃ B r n S F, ∃ (k : Nat) (w : Str), vs = [.ref r, .int (k : Int), .str w] ∧ Ex B H ∧ RA B H r n S F ∧ Fit n S ∧ n ≤ 9 ∧ k < n ∧ PyData.strOk w = true ∧
  ((S k).leads = true → After RA B H r n F (Rf.writeR S k w) (Q (.int ((S k).row.length : Int)))) ∧ ((S k).leads = false → After RA B H r n F S (E (.ref CN) none))
def spHand (CN : Addr) : Sp := fun vs H Q E => ∃ B r n S F, ∃ (k o m : Nat), vs = [.ref r, .int (k : Int), .int (o : Int), .int (m : Int)] ∧ Ex B H ∧ RA B H r n S F ∧ Fit n S ∧ n ≤ 9 ∧ k < n ∧ o < n ∧ o ≠ k ∧
  ((S k).leads = true → After RA B H r n F (Rf.handR S k o m).1 (Q (.bl (Rf.handR S k o m).2))) ∧ ((S k).leads = false → After RA B H r n F S (E (.ref CN) none))
def spSettle (CN : Addr) : Sp := fun vs H Q E => ∃ B r n S F, ∃ (k : Nat), vs = [.ref r, .int (k : Int)] ∧ Ex B H ∧ RA B H r n S F ∧ Fit n S ∧ n ≤ 9 ∧ k < n ∧
  ((S k).leads = true → After RA B H r n F (Rf.settleR n S k) (Q (.int ((Rf.settleR n S k k).settled : Int)))) ∧ ((S k).leads = false → After RA B H r n F S (E (.ref CN) none))
def spRest : Sp := fun vs H Q _ => ∃ B r n S F, ∃ (k : Nat), vs = [.ref r, .int (k : Int)] ∧ Ex B H ∧ RA B H r n S F ∧ Fit n S ∧ n ≤ 9 ∧ k < n ∧ After RA B H r n F (Rf.restR S k) (Q .non)
/-- what is only told -/
def spTell (f : Rf.Kp Str → PyData) : Sp := fun vs H Q _ => ∃ B r n S F, ∃ (k : Nat), vs = [.ref r, .int (k : Int)] ∧ Ex B H ∧ RA B H r n S F ∧ Fit n S ∧ n ≤ 9 ∧ k < n ∧ ∀ v B1 H1, Gr B H B1 H1 → Dq K B1 (f (S k)) v → Q v H1
/-- a new list -/
def spGive (f : Rf.Kp Str → List Ent) : Sp := fun vs H Q _ => ∃ B r n S F, ∃ (k : Nat), vs = [.ref r, .int (k : Int)] ∧ Ex B H ∧ RA B H r n S F ∧ Fit n S ∧ n ≤ 9 ∧ k < n ∧
  ∀ p xs B1 H1, Gr B H B1 H1 → H p = none → B1 p = none → H1 p = some (.lst xs) → DqAll K B1 ((f (S k)).map entD) xs → Q (.ref p) H1
/-- one deed -/
def spDo : Sp := fun vs H Q _ => ∃ B r n S F, ∃ (d : Rf.Deed Str) (vd : V), vs = [.ref r, vd] ∧ Ex B H ∧ RA B H r n S F ∧ Fit n S ∧ n ≤ 9 ∧ deedGood n d ∧ Dq K B (deedD d) vd ∧ After RA B H r n F (Rf.doR n S d).1 (Q (tellV (Rf.doR n S d).2))
end
section
variable {K : PySem.W.Frag} {RA : RoomP} {C : Addr} {σ : L2.St} {B H B1 H1 : Hp} {ta tb te : TE} {r : Addr} {n k : Nat} {S : Rf.Room Str} {F : Addr → Prop} {m : Str} {E : XK}
theorem evd_tell {f : Rf.Kp Str → PyData} (O : RoomOk C RA) (hm : m ∈ roomNames) (h : EvV ta σ B H (.ref r)) (hk : EvD K tb σ B H (.int (k : Int))) (R : RA B H r n S F) (ft : Fit n S) (n9 : n ≤ 9) (kn : k < n) :
    EvD K (tMeth C m (spTell K RA f) [] E ta (tCons tb tNil)) σ B H (f (S k)) := fun B1 H1 g Q q => by
  obtain ⟨dx, fs, hp, hl⟩ := O.ins (O.gr R g)
  refine m_meth (P := fun B2 vs => DqAll K B2 [.int (k : Int)] vs) g.bh (EvV.mono g h) hp (hl _ hm) (ea_cons (hk.mono g) ea_nil) fun vs B2 H2 g2 hv => ?_
  obtain ⟨w0, vs, rfl, e0, hv⟩ := dqa_cons.mp hv
  cases dqa_nil.mp hv
  cases dq_int.mp e0
  exact ⟨B2, r, n, S, F, k, rfl, g2.bh, O.gr (O.gr R g) g2, ft, n9, kn, fun v B3 H3 g3 p => q v B3 H3 (g2.trans g3) p⟩
theorem evm_give {f : Rf.Kp Str → List Ent} (O : RoomOk C RA) (hm : m ∈ roomNames) (h : EvV ta σ B H (.ref r)) (hk : EvD K tb σ B H (.int (k : Int))) (R : RA B H r n S F) (ft : Fit n S) (n9 : n ≤ 9) (kn : k < n) :
    EvM K (tMeth C m (spGive K RA f) [] E ta (tCons tb tNil)) σ B H ((f (S k)).map entD) := fun B1 H1 g Q q => by
  obtain ⟨dx, fs, hp, hl⟩ := O.ins (O.gr R g)
  refine m_meth (P := fun B2 vs => DqAll K B2 [.int (k : Int)] vs) g.bh (EvV.mono g h) hp (hl _ hm) (ea_cons (hk.mono g) ea_nil) fun vs B2 H2 g2 hv => ?_
  obtain ⟨w0, vs, rfl, e0, hv⟩ := dqa_cons.mp hv
  cases dqa_nil.mp hv
  cases dq_int.mp e0
  exact ⟨B2, r, n, S, F, k, rfl, g2.bh, O.gr (O.gr R g) g2, ft, n9, kn, fun p xs B3 H3 g3 h1 h2 h3 h4 => q p xs B3 H3 (g2.trans g3) (ex_none g2.hh h1) h2 h3 h4⟩
/-- a new list, kept as it is -/
theorem EvM.evd {ds : List PyData} (h : EvM K te σ B H ds) : EvD K te σ B H (.list ds) := fun B1 H1 g Q q =>
  h B1 H1 g Q fun p xs B2 H2 g2 h1 h2 h3 h4 => q _ _ H2 (g2.froz h1 h2 h3) (dq_list.mpr ⟨p, xs, rfl, upd_same, h4.mono (Ex.new h2)⟩)
theorem evd_isP {x : V} {b neg : Bool} (h : EvV ta σ B H x) (hx : isPl x = true) (hb : EvD K tb σ B H (.bool b)) : EvD K (tOp (rIsP neg) ta tb) σ B H (.bool (xor neg (decide (x = .bl b)))) := fun B1 H1 g Q q =>
  h B1 H1 g _ fun y B2 H2 g2 e => hb B2 H2 (g.trans g2) _ fun z B3 H3 g3 p => by
    subst e
    exact ⟨hx, b, dq_bool.mp p, q _ B3 H3 (g2.trans g3) (dq_bool.mpr rfl)⟩
end
/-! ### rows of texts, how long -/
def Wk (n : Nat) (S : Rf.Room Str) (c : Nat) : Prop := ∀ v, v < n → okRow (S v).row ∧ (S v).row.length ≤ c
theorem wk0 (n : Nat) : Wk n Rf.room0 0 := fun v _ => ⟨fun e he => (nomatch he), Nat.le_refl _⟩
theorem Wk.mono {n c c' : Nat} {S : Rf.Room Str} (h : Wk n S c) (k : c ≤ c') : Wk n S c' := fun v hv => ⟨(h v hv).1, Nat.le_trans (h v hv).2 k⟩
theorem fit_of {n c : Nat} {G : Rf.Gh Str} {S : Rf.Room Str} (h : Rf.Inv n G S) (w : Wk n S c) (hc : c ≤ 10000) : Fit n S :=
  ⟨fun v hv => ⟨(w v hv).1, Nat.le_trans (w v hv).2 hc, (h.k v hv).k6.2⟩, fun v hv hl o ho hne => ((h.k v hv).k7 hl o ho hne).2⟩
theorem wk_do {n c : Nat} {G : Rf.Gh Str} {S : Rf.Room Str} (h : Rf.Inv n G S) {d : Rf.Deed Str} (hd : deedGood n d) (w : Wk n S c) : Wk n (Rf.doR n S d).1 (c + 1) := fun v hv => by
  rcases Rf.row_do h hd.1 hv with ⟨u, b, hu, e⟩ | ⟨x, e1, e⟩
  · rw [e]
    refine ⟨(w u hu).1.take b, ?_⟩
    rw [List.length_take]
    have := (w u hu).2
    omega
  · rw [e]
    refine ⟨(w v hv).1.append fun y hy => ?_, ?_⟩
    · rw [List.mem_singleton.mp hy]
      exact hd.2.1 v x e1
    · rw [List.length_append, List.length_singleton]
      have := (w v hv).2
      omega
/-- a room is made -/
def spNew (C : Addr) (RA : RoomP) : Sp := fun vs H Q _ => ∃ (B : Hp) (p dx : Addr) (n : Nat), vs = [.ref p, .int (n : Int)] ∧ Ex B H ∧ B p = none ∧ H p = some (.ins C dx []) ∧ 1 ≤ n ∧ n ≤ 9 ∧
  ∀ B1 H1 F1, GrF (fun a => a = p) B H B1 H1 → (∀ a, F1 a → a = p ∨ H a = none) → RA B1 H1 p n Rf.room0 F1 → Q .non H1
section
variable {K : PySem.W.Frag} {RA : RoomP} {C : Addr} {σ : L2.St} {B H B1 H1 : Hp} {ta tb te : TE} {D : Ends} {tu tz tw : TS} {r : Addr} {n k : Nat} {S : Rf.Room Str} {F : Addr → Prop} {m : Str} {E : XK} {u : TT} {r2 : R2}
theorem q_ifOrX (h : ta σ H fun x H1 => tb σ H1 fun y H2 => r2 x y H2 fun z H3 => ∃ k, z = .bl k ∧ (if k = true then tw { D with nx := tz D } σ H3 else tSeq (tIfS u tw tNext) tz D σ H3)) : tSeq (tIfS (tOr (tTest (tOp r2 ta tb)) u) tw tNext) tz D σ H := h
theorem s_retAndX (h : ta σ H fun x H1 => tb σ H1 fun y H2 => r2 x y H2 fun z H3 => ∃ c, z = .bl c ∧ if c = true then te σ H3 D.rt else D.rt (.bl false) H3) : tRet (tAndV (tOp r2 ta tb) te) D σ H := h
theorem q_ifOpX (h : ta σ H fun x H1 => tb σ H1 fun y H2 => r2 x y H2 fun z H3 => ∃ k, z = .bl k ∧ (if k = true then tw { D with nx := tz D } σ H3 else tz D σ H3)) : tSeq (tIfS (tTest (tOp r2 ta tb)) tw tNext) tz D σ H := h
/-- a new room, its footprint new -/
theorem m_new (O : RoomOk C RA) (g0 : Ex B H) (hb : EvD K tb σ B H (.int (n : Int))) (n1 : 1 ≤ n) (n9 : n ≤ 9) {Q : VK}
    (k : ∀ p B1 H1 F1, Gr B H B1 H1 → (∀ a, F1 a → H a = none) → RA B1 H1 p n Rf.room0 F1 → Q (.ref p) H1) : tMake C (spNew C RA) [] E (tCons tb tNil) σ H Q := by
  refine m_make (P := fun B1 vs => DqAll K B1 [.int (n : Int)] vs) g0 (ea_cons hb ea_nil) fun vs B2 H2 p dx g2 hv np ndx ne => ?_
  obtain ⟨w0, vs, rfl, e0, hv⟩ := dqa_cons.mp hv
  cases dqa_nil.mp hv
  cases dq_int.mp e0
  have X := made_gr (o := .ins C dx []) (o' := .own p) g2.bh np ndx
  refine ⟨B2, p, dx, n, rfl, X.bh, ex_none g2.bh np, upd_same, n1, n9, fun B3 H3 F1 g3 hF R => ⟨rfl, ?_⟩⟩
  have G3 : Gr B2 H2 B3 H3 := (X.fr.trans g3).new fun a z => by rw [z]; exact np
  refine k p B3 H3 F1 (g2.trans G3) (fun a z => ?_) R
  rcases hF a z with rfl | hn
  · exact ex_none g2.hh np
  · exact ex_none (g2.trans X).hh hn
end
section
variable {K : PySem.W.Frag} {RA : RoomP} {C CN : Addr} {σ : L2.St} {B H B1 H1 : Hp} {ta tb tc td : TE} {r : Addr} {n k o m : Nat} {S : Rf.Room Str} {F : Addr → Prop} {E : XK} {Q : VK} {os : List Nat} {w : Str}
theorem After.gr {S' : Rf.Room Str} {Q : Hp → Prop} (h : After RA B H r n F S' Q) (g : Gr B H B1 H1) : After RA B1 H1 r n F S' Q := fun B2 H2 F1 g2 hF R => h B2 H2 F1 (g.fr.trans g2) (fun a z => (hF a z).imp id (ex_none g.hh)) R
theorem m_stand (O : RoomOk C RA) (g0 : Ex B H) (h : EvV ta σ B H (.ref r)) (hk : EvD K tb σ B H (.int (k : Int))) (hos : EvD K tc σ B H (.list (os.map fun o : Nat => .int (o : Int)))) (R : RA B H r n S F) (ft : Fit n S) (n9 : n ≤ 9) (kn : k < n) (ho : ∀ o ∈ os, o < n)
    (q : After RA B H r n F (Rf.standR n S k os).1 (Q (.bl (Rf.standR n S k os).2))) (hol : os.length ≤ 100 := by first | decide | assumption | (rw [List.length_range]; omega)) : tMeth C "stand" (spStand K RA) [] E ta (tCons tb (tCons tc tNil)) σ H Q := by
  obtain ⟨dx, fs, hp, hl⟩ := O.ins R
  refine m_meth (P := fun B2 vs => DqAll K B2 [.int (k : Int), .list (os.map fun o : Nat => .int (o : Int))] vs) g0 h hp (hl _ (by decide +kernel)) (ea_cons hk (ea_cons hos ea_nil)) fun vs B2 H2 g2 hv => ?_
  obtain ⟨w0, vs, rfl, e0, hv⟩ := dqa_cons.mp hv
  obtain ⟨w1, vs, rfl, e1, hv⟩ := dqa_cons.mp hv
  cases dqa_nil.mp hv
  cases dq_int.mp e0
  exact ⟨B2, r, n, S, F, k, os, w1, rfl, g2.bh, O.gr R g2, ft, n9, kn, ho, hol, e1, q.gr g2⟩
theorem m_write (O : RoomOk C RA) (g0 : Ex B H) (h : EvV ta σ B H (.ref r)) (hk : EvD K tb σ B H (.int (k : Int))) (hw : EvD K tc σ B H (.str w)) (R : RA B H r n S F) (ft : Fit n S) (n9 : n ≤ 9) (kn : k < n) (ow : PyData.strOk w = true) (hl : (S k).leads = true)
    (q : After RA B H r n F (Rf.writeR S k w) (Q (.int ((S k).row.length : Int)))) : tMeth C "write" (spWrite RA CN) [] E ta (tCons tb (tCons tc tNil)) σ H Q := by
  obtain ⟨dx, fs, hp, hll⟩ := O.ins R
  refine m_meth (P := fun B2 vs => DqAll K B2 [.int (k : Int), .str w] vs) g0 h hp (hll _ (by decide +kernel)) (ea_cons hk (ea_cons hw ea_nil)) fun vs B2 H2 g2 hv => ?_
  obtain ⟨w0, vs, rfl, e0, hv⟩ := dqa_cons.mp hv
  obtain ⟨w1, vs, rfl, e1, hv⟩ := dqa_cons.mp hv
  cases dqa_nil.mp hv
  cases dq_int.mp e0
  cases dq_str.mp e1
  exact ⟨B2, r, n, S, F, k, w, rfl, g2.bh, O.gr R g2, ft, n9, kn, ow, fun _ => q.gr g2, fun z => by rw [hl] at z; cases z⟩
theorem m_hand (O : RoomOk C RA) (g0 : Ex B H) (h : EvV ta σ B H (.ref r)) (hk : EvD K tb σ B H (.int (k : Int))) (hc : EvD K tc σ B H (.int (o : Int))) (hd : EvD K td σ B H (.int (m : Int))) (R : RA B H r n S F) (ft : Fit n S) (n9 : n ≤ 9) (kn : k < n) (on : o < n) (ne : o ≠ k) (hl : (S k).leads = true)
    (q : After RA B H r n F (Rf.handR S k o m).1 (Q (.bl (Rf.handR S k o m).2))) : tMeth C "hand" (spHand RA CN) [] E ta (tCons tb (tCons tc (tCons td tNil))) σ H Q := by
  obtain ⟨dx, fs, hp, hll⟩ := O.ins R
  refine m_meth (P := fun B2 vs => DqAll K B2 [.int (k : Int), .int (o : Int), .int (m : Int)] vs) g0 h hp (hll _ (by decide +kernel)) (ea_cons hk (ea_cons hc (ea_cons hd ea_nil))) fun vs B2 H2 g2 hv => ?_
  obtain ⟨w0, vs, rfl, e0, hv⟩ := dqa_cons.mp hv
  obtain ⟨w1, vs, rfl, e1, hv⟩ := dqa_cons.mp hv
  obtain ⟨w2, vs, rfl, e2, hv⟩ := dqa_cons.mp hv
  cases dqa_nil.mp hv
  cases dq_int.mp e0
  cases dq_int.mp e1
  cases dq_int.mp e2
  exact ⟨B2, r, n, S, F, k, o, m, rfl, g2.bh, O.gr R g2, ft, n9, kn, on, ne, fun _ => q.gr g2, fun z => by rw [hl] at z; cases z⟩
theorem m_settle (O : RoomOk C RA) (g0 : Ex B H) (h : EvV ta σ B H (.ref r)) (hk : EvD K tb σ B H (.int (k : Int))) (R : RA B H r n S F) (ft : Fit n S) (n9 : n ≤ 9) (kn : k < n) (hl : (S k).leads = true)
    (q : After RA B H r n F (Rf.settleR n S k) (Q (.int ((Rf.settleR n S k k).settled : Int)))) : tMeth C "settle" (spSettle RA CN) [] E ta (tCons tb tNil) σ H Q := by
  obtain ⟨dx, fs, hp, hll⟩ := O.ins R
  refine m_meth (P := fun B2 vs => DqAll K B2 [.int (k : Int)] vs) g0 h hp (hll _ (by decide +kernel)) (ea_cons hk ea_nil) fun vs B2 H2 g2 hv => ?_
  obtain ⟨w0, vs, rfl, e0, hv⟩ := dqa_cons.mp hv
  cases dqa_nil.mp hv
  cases dq_int.mp e0
  exact ⟨B2, r, n, S, F, k, rfl, g2.bh, O.gr R g2, ft, n9, kn, fun _ => q.gr g2, fun z => by rw [hl] at z; cases z⟩
end
theorem rne_int {i j : Int} {H : Hp} {Q : VK} (h : Q (.bl (!decide (i = j))) H) : rNe (.int i) (.int j) H Q := ⟨rfl, by rw [dec_int, Bool.beq_eq_decide_eq]; exact h⟩
theorem tC_ne {i j : Int} {σ : L2.St} {H : Hp} {Q : VK} (h : Q (.bl (!decide (i = j))) H) : tC (.int j) σ H (fun y H2 => rNe (.int i) y H2 Q) := rne_int h
theorem req_int {i j : Int} {H : Hp} {Q : VK} (h : Q (.bl (decide (i = j))) H) : rEq (.int i) (.int j) H Q := ⟨rfl, by rw [dec_int, Bool.beq_eq_decide_eq]; exact h⟩
theorem tC_eq {i j : Int} {σ : L2.St} {H : Hp} {Q : VK} (h : Q (.bl (decide (i = j))) H) : tC (.int j) σ H (fun y H2 => rEq (.int i) y H2 Q) := req_int h
section
variable {K : PySem.W.Frag} {RA : RoomP} {C CN : Addr} {σ : L2.St} {B H B1 H1 : Hp} {ta tb tc td te : TE} {D : Ends} {tu tz tw : TS} {t u : TT} {r : Addr} {n k : Nat} {S : Rf.Room Str} {F : Addr → Prop} {E : XK} {Q : VK} {d : Rf.Deed Str} {b : Bool}
theorem m_do (O : RoomOk C RA) (g0 : Ex B H) (h : EvV ta σ B H (.ref r)) (hd : EvD K tb σ B H (deedD d)) (R : RA B H r n S F) (ft : Fit n S) (n9 : n ≤ 9) (gd : deedGood n d)
    (q : After RA B H r n F (Rf.doR n S d).1 (Q (tellV (Rf.doR n S d).2))) : tCall (spDo K RA) [] E (tCons ta (tCons tb tNil)) σ H Q := by
  refine (ea_consV (P := fun B1 vs => ∃ w0 ws, vs = w0 :: ws ∧ Dq K B1 (deedD d) w0 ∧ ws = []) h (ea_consD hd ea_nil0)) B H (Gr.refl g0) _ fun ws B2 H2 g2 hw => ?_
  obtain ⟨_, rfl, w0, _, rfl, e0, rfl⟩ := hw
  exact ⟨B2, r, n, S, F, d, w0, rfl, g2.bh, O.gr R g2, ft, n9, gd, e0, q.gr g2⟩
theorem q_ifAndX (g0 : Ex B H) (ht : EvT K t σ B H b) (h1 : b = true → ∀ B1 H1, Gr B H B1 H1 → tSeq (tIfS u tw tNext) tz D σ H1) (h2 : b = false → ∀ B1 H1, Gr B H B1 H1 → tz D σ H1) : tSeq (tIfS (tAnd t u) tw tNext) tz D σ H := ht B H (Gr.refl g0) _ fun B1 H1 g => by
  cases b with
  | true => exact h1 rfl B1 H1 g
  | false => exact h2 rfl B1 H1 g
end
/-- lists of one's own beside a room -/
structure LAt1 (K : PySem.W.Frag) (B H : Hp) (l : Addr) (ds : List PyData) : Prop where
  b : B l = none
  h : ∃ xs, H l = some (.lst xs) ∧ DqAll K B ds xs
theorem LAt1.same {K : PySem.W.Frag} {B H B1 H1 : Hp} {l : Addr} {ds : List PyData} {F : Addr → Prop} (h : LAt1 K B H l ds) (g : GrF F B H B1 H1) (n : ¬ F l) : LAt1 K B1 H1 l ds := by
  obtain ⟨xs, e, d⟩ := h.h
  exact ⟨g.out h.b (some_ne e), xs, g.hh _ _ e n, d.mono g.bb⟩
theorem LAt1.gr {K : PySem.W.Frag} {B H B1 H1 : Hp} {l : Addr} {ds : List PyData} (h : LAt1 K B H l ds) (g : Gr B H B1 H1) : LAt1 K B1 H1 l ds := h.same (F := fun _ => False) g.fr fun z => z
structure DAt1 (B H : Hp) (l : Addr) (kvs : List (Key × V)) : Prop where
  b : B l = none
  h : H l = some (.dK kvs)
theorem DAt1.same {B H B1 H1 : Hp} {l : Addr} {kvs : List (Key × V)} {F : Addr → Prop} (h : DAt1 B H l kvs) (g : GrF F B H B1 H1) (n : ¬ F l) : DAt1 B1 H1 l kvs := ⟨g.out h.b (some_ne h.h), g.hh _ _ h.h n⟩
theorem DAt1.gr {B H B1 H1 : Hp} {l : Addr} {kvs : List (Key × V)} (h : DAt1 B H l kvs) (g : Gr B H B1 H1) : DAt1 B1 H1 l kvs := h.same (F := fun _ => False) g.fr fun z => z
theorem map_range_get {α : Type} (f : Nat → α) {n k : Nat} (h : k < n) : ((List.range n).map f)[k]? = some (f k) := by
  rw [List.getElem?_map, List.getElem?_range h]
  rfl
theorem map_range_set {α : Type} (f g : Nat → α) {n k : Nat} (x : α) (h : ∀ v, v < n → g v = if v = k then x else f v) : ((List.range n).map f).set k x = (List.range n).map g := by
  apply List.ext_getElem?
  intro v
  by_cases hv : v < n
  · rw [List.getElem?_set, map_range_get g hv, h v hv, map_range_get f hv]
    by_cases e : k = v
    · subst e
      rw [if_pos rfl, if_pos rfl, List.length_map, List.length_range, if_pos hv]
    · rw [if_neg e, if_neg (fun z => e z.symm)]
  · rw [List.getElem?_eq_none (by rw [List.length_set, List.length_map, List.length_range]; omega), List.getElem?_eq_none (by rw [List.length_map, List.length_range]; omega)]
theorem who_lt {n : Nat} {d : Rf.Deed Str} (h : deedGood n d) : whoOf d < n := by
  cases d with
  | stand k os => exact h.1.1
  | rest k => exact h.1
  | write k w => exact h.1
  | hand k o m => exact h.1.1
  | settle k => exact h.1
theorem isPl_tell (x : Rf.Tell) : isPl (tellV x) = true := by cases x <;> rfl
section
variable {K : PySem.W.Frag} {σ : L2.St} {B H : Hp} {D : Ends} {tu : TS} {n c : Nat}
/-- for x in deeds(..) -/
theorem s_forL {tl : TE} {g : TG} (g0 : Ex B H) (h : EvL K tl σ B H n c)
    (k : ∀ dl B1 H1, Gr B H B1 H1 → deedsGood n c dl → ∃ Pv : Nat → L2.St → Hp → Hp → Prop, Pv 0 σ B1 H1 ∧ (∀ i σ' B2 H2, Pv i σ' B2 H2 → Ex B1 B2 ∧ Ex B2 H2) ∧
      (∀ i d v σ' B2 H2, dl[i]? = some d → Dq K B2 (deedD d) v → Pv i σ' B2 H2 → g v σ' H2 fun σ2 H3 => tu { D with nx := fun σ3 H4 => ∃ B4, Pv (i + 1) σ3 B4 H4, ct := fun σ3 H4 => ∃ B4, Pv (i + 1) σ3 B4 H4, bk := D.nx } σ2 H3) ∧
      (∀ σ' B2 H2, Pv dl.length σ' B2 H2 → D.nx σ' H2)) : tFor (iList K tl) g tu D σ H :=
  h B H (Gr.refl g0) _ fun v B1 H1 g1 ⟨dl, gd, p⟩ => by
    obtain ⟨a, xs, rfl, q1, q2⟩ := dq_list.mp p
    obtain ⟨Pv, p0, pe, ps, pd⟩ := k dl B1 H1 g1 gd
    refine ⟨a, rfl, ⟨xs, sq_of (g1.bh _ _ q1)⟩, for_list (fun i σ' H' => ∃ B', Pv i σ' B' H') ⟨B1, p0⟩ (fun i σ' H' hi ⟨B', w⟩ => sq_of ((pe _ _ _ _ w).2 _ _ ((pe _ _ _ _ w).1 _ _ q1))) ?_ ?_⟩
    · rintro i x σ' H' hx ⟨B', w⟩
      obtain ⟨d, e1, e2⟩ := q2.get' hx
      rw [List.getElem?_map] at e1
      obtain ⟨d', e3, rfl⟩ := Option.map_eq_some_iff.mp e1
      exact ps i d' x σ' B' H' e3 (e2.mono (pe _ _ _ _ w).1) w
    · rintro σ' H' ⟨B', w⟩
      rw [q2.len, List.length_map] at w
      exact pd σ' B' H' w
end
end G

set_option Elab.async false
set_option linter.all false
set_option maxRecDepth 100000
set_option maxHeartbeats 1000000
namespace G
open PySem L2 Evl
section
variable {K : PySem.W.Frag}
/-! ### a keeper on the heap -/
def kf (t : Int) (l : Addr) (ld : Bool) (s : Int) : List (Str × V) := [("term", .int t), ("row", .ref l), ("leads", .bl ld), ("settled", .int s)]
structure KpAt (K : PySem.W.Frag) (C : Addr) (B H : Hp) (p l : Addr) (t : Int) (es : List Ent) (ld : Bool) (s : Int) : Prop where
  bp : B p = none
  bl : B l = none
  ex : ∃ dx, H p = some (.ins C dx (kf t l ld s))
  row : ∃ xs, H l = some (.lst xs) ∧ DqAll K B (es.map entD) xs
theorem KpAt.same {C p l : Addr} {B H B1 H1 : Hp} {t : Int} {es : List Ent} {ld : Bool} {s : Int} {F : Addr → Prop} (h : KpAt K C B H p l t es ld s) (g : GrF F B H B1 H1) (n1 : ¬ F p) (n2 : ¬ F l) : KpAt K C B1 H1 p l t es ld s := by
  obtain ⟨dx, e⟩ := h.ex
  obtain ⟨xs, e1, e2⟩ := h.row
  exact ⟨g.out h.bp (some_ne e), g.out h.bl (some_ne e1), ⟨dx, g.hh _ _ e n1⟩, xs, g.hh _ _ e1 n2, e2.mono g.bb⟩
theorem KpAt.gr {C p l : Addr} {B H B1 H1 : Hp} {t : Int} {es : List Ent} {ld : Bool} {s : Int} (h : KpAt K C B H p l t es ld s) (g : Gr B H B1 H1) : KpAt K C B1 H1 p l t es ld s := h.same (F := fun _ => False) g.fr (fun z => z) (fun z => z)
theorem KpAt.ne {C p l : Addr} {B H : Hp} {t : Int} {es : List Ent} {ld : Bool} {s : Int} (h : KpAt K C B H p l t es ld s) {a : Addr} {xs : List V} (ha : H a = some (.lst xs)) : a ≠ p := fun z => by
  obtain ⟨dx, e⟩ := h.ex
  rw [z, e] at ha
  cases ha
theorem KpAt.put {C p l : Addr} {B H : Hp} {t : Int} {es : List Ent} {ld : Bool} {s : Int} (h : KpAt K C B H p l t es ld s) {dx : Addr} {t' : Int} {ld' : Bool} {s' : Int} : KpAt K C B (upd H p (.ins C dx (kf t' l ld' s'))) p l t' es ld' s' := by
  obtain ⟨xs, e1, e2⟩ := h.row
  exact ⟨h.bp, h.bl, ⟨dx, upd_same⟩, xs, by rw [upd_ne (h.ne e1)]; exact e1, e2⟩
end
end G

set_option Elab.async false
set_option linter.all false
set_option maxRecDepth 100000
set_option maxHeartbeats 1000000
namespace G
open PySem L2 Evl PyProof.Rows
/-! ### ranges as values, and what is in them -/
def rRng1 : List V → Hp → VK → Prop := fun vs H Q => ∃ i, vs = [V.int i] ∧ ∀ p, H p = none → Q (.ref p) (upd H p (.rng 0 i))
theorem cr_range1 {X : Cx} : CallR X (.type "range") rRng1 := by
  intro pins s σ H vs us Q I r h
  obtain ⟨i, rfl, q⟩ := h
  obtain ⟨u1, rfl, ri⟩ := vals1 r
  obtain ⟨t, rfl⟩ := ri
  refine call_range_1 ⟨.ref s.heap.objs.size, upd H s.heap.objs.size (.rng 0 i), I.laid (t' := s.toks + 1 + 1) (fun b o e => Heap.get?_push_of_some _ e) (Nat.le_refl _) ?_, rfl, q _ (I.hok.fresh (Nat.le_refl _))⟩
  exact ⟨s.toks, t, s.toks + 1, Heap.get?_push_size _ rfl⟩
def rInRng (neg : Bool) : R2 := fun x y H Q => ∃ i a lo hi, x = V.int i ∧ y = V.ref a ∧ H a = some (.rng lo hi) ∧ Q (.bl (xor neg (decide (lo ≤ i ∧ i < hi)))) H
theorem op_notin_rng {X : Cx} : OpR X (compareOp .NotIn) (rInRng true) := by
  intro pins s σ H x y v u Q I rx ry h
  obtain ⟨i, a, lo, hi, rfl, rfl, ha, q⟩ := h
  obtain ⟨k, rfl⟩ := rx
  obtain rfl : u = Value.ref a := ry
  obtain ⟨t1, t2, t3, ho⟩ := I.hok a _ ha
  show wpAny _ _ (do return Value.bool (!(← contains (Value.ref a) (Value.int i k)))) _ _ s
  refine wpAny_bind (wpAny_contains_slot (T := "range") ⟨_, ho, rfl⟩ F.slot_range_contains (call_meets F.slot_range_contains ⟨_, ho, rfl⟩ F.entry_range_contains (F.args_range_contains_2 _ _) (L2.q_contains a lo hi i t1 t2 t3 k)
    ⟨ho, wpAny_truthy_bool (wpAny_pure ⟨.bl _, H, I, rfl, ?_⟩)⟩))
  rw [L2.place1]
  simpa using q
section
variable {K : PySem.W.Frag} {σ : L2.St} {B H B1 H1 : Hp} {ta tb te tv to ti : TE} {D : Ends} {tu tz tw : TS} {n : Nat} {i j m : Int} {d : PyData} {ds es : List PyData} {b : Bool}
/-- k not in range(n) -/
theorem et_notinR (ha : EvD K ta σ B H (.int i)) (hb : EvD K tb σ B H (.int m)) : EvT K (tTest (tOp (rInRng true) ta (tCB rRng1 (tCons tb tNil)))) σ B H (!decide (0 ≤ i ∧ i < m)) := fun B1 H1 g Q q =>
  ha B1 H1 g _ fun x B2 H2 g2 p => (ea_cons (hb.mono (g.trans g2)) ea_nil) B2 H2 (Gr.refl g2.bh) _ fun vs B3 H3 g3 hv => by
    obtain ⟨v, vs', rfl, p1, p2⟩ := dqa_cons.mp hv
    cases dqa_nil.mp p2
    cases dq_int.mp p1
    cases dq_int.mp p
    exact ⟨m, rfl, fun r hr => ⟨i, r, 0, m, rfl, rfl, upd_same, _, rfl, by
      have e : (true ^^ decide (0 ≤ i ∧ i < m)) = !decide (0 ≤ i ∧ i < m) := by simp
      rw [e]
      exact q _ _ ((g2.trans g3).trans (Gr.newM g3.bh hr))⟩⟩
/-! ### what gives a new list, stored in an attribute, in a list -/
theorem q_fldX {C : Addr} {f : Str} (h : tv σ H fun v H1 => ta σ H1 fun x H2 => ∃ a C dx fs, x = .ref a ∧ H2 a = some (.ins C dx fs) ∧ Cls K C ∧ NoAttr K C f ∧ fs.length < 1000 ∧ tz D σ (upd H2 a (.ins C dx (putF f v fs)))) : tSeq (sFld K ta tv f) tz D σ H := h
theorem s_fldX {C : Addr} {f : Str} (h : tv σ H fun v H1 => ta σ H1 fun x H2 => ∃ a C dx fs, x = .ref a ∧ H2 a = some (.ins C dx fs) ∧ Cls K C ∧ NoAttr K C f ∧ fs.length < 1000 ∧ D.nx σ (upd H2 a (.ins C dx (putF f v fs)))) : sFld K ta tv f D σ H := h
/-- xs[i] = a new list -/
theorem s_setLM {l : Addr} {xs : List V} {k : Nat} (g0 : Ex B H) (hv : EvM K te σ B H ds) (ho : EvV to σ B H (.ref l)) (hl : H l = some (.lst xs)) (hi : EvD K ti σ B H (.int i)) (hj : ixN xs.length i = some k)
    (q : ∀ p ys B1 H1, Gr B H B1 H1 → H p = none → B1 p = none → H1 p = some (.lst ys) → DqAll K B1 ds ys → D.nx σ (upd H1 l (.lst (xs.set k (.ref p))))) : tAsg te (gSub to ti rSetL) D σ H :=
  hv B H (Gr.refl g0) _ fun p ys B1 H1 g1 h1 h2 h3 h4 => ho B1 H1 g1 _ fun x B2 H2 g2 e => hi B2 H2 (g1.trans g2) _ fun y B3 H3 g3 pi => by
    have g23 := g2.trans g3
    have g13 := g1.trans g23
    exact ⟨l, xs, i, k, e, dq_int.mp pi, g13.hh _ _ hl, hj, q p ys B3 H3 g13 h1 (g23.out h2 h3) (g23.hh _ _ h3) (h4.mono g23.bb)⟩
theorem q_setLM {l : Addr} {xs : List V} {k : Nat} (g0 : Ex B H) (hv : EvM K te σ B H ds) (ho : EvV to σ B H (.ref l)) (hl : H l = some (.lst xs)) (hi : EvD K ti σ B H (.int i)) (hj : ixN xs.length i = some k)
    (q : ∀ p ys B1 H1, Gr B H B1 H1 → H p = none → B1 p = none → H1 p = some (.lst ys) → DqAll K B1 ds ys → tz D σ (upd H1 l (.lst (xs.set k (.ref p))))) : tSeq (tAsg te (gSub to ti rSetL)) tz D σ H := s_setLM (D := { D with nx := tz D }) g0 hv ho hl hi hj q
/-- a comprehension over a range, told by a word of what is made so far -/
theorem m_lcR {ta : TA} {j : Nat} {vs : List Nat} {Q : VK} (g0 : Ex B H) (h : EvA ta σ B H fun B1 vs => DqAll K B1 [.int m] vs) (hm : 0 ≤ m ∧ m ≤ 40000) (hw : ∀ x, wipe ((wipe σ vs).set j (some x)) vs = wipe σ vs)
    (k : ∀ B1 H1 Dl, Gr B H B1 H1 → H1 Dl = none → B1 Dl = none → ∃ Pv : Nat → List V → Hp → Hp → Prop, Pv 0 [] B1 (upd H1 Dl (.lst [])) ∧
      (∀ (i : Nat) acc B2 H2, (i : Int) < m → acc.length = i → Pv i acc B2 H2 → H2 Dl = some (.lst acc) → ∀ Q' : VK, (∀ v B3 H3, H3 Dl = some (.lst acc) → Pv (i + 1) (acc ++ [v]) B3 (upd H3 Dl (.lst (acc ++ [v]))) → Q' v H3) → te ((wipe σ vs).set j (some (.int (i : Int)))) H2 Q') ∧
      (∀ acc B2 H2, acc.length = m.toNat → Pv m.toNat acc B2 H2 → H2 Dl = some (.lst acc) → Q (.ref Dl) H2)) : tLc (iRng1 ta) (gName j) tYes te vs σ H Q :=
  h B H (Gr.refl g0) _ fun vs' B1 H1 g1 p => by
    obtain ⟨v, vs2, rfl, e1, e2⟩ := dqa_cons.mp p
    cases dqa_nil.mp e2
    cases dq_int.mp e1
    refine ⟨m, rfl, by omega, by omega, fun Dl hD => ?_⟩
    obtain ⟨Pv, p0, ps, pd⟩ := k B1 H1 Dl g1 hD (ex_none g1.bh hD)
    refine lc_range (lo := 0) (n := m.toNat) (fun i H' => ∃ B' acc, acc.length = i ∧ H' Dl = some (.lst acc) ∧ Pv i acc B' H') ⟨B1, [], rfl, upd_same, p0⟩ ?_ ?_
    · rintro i H' hi ⟨B', acc, b0, b1, b2⟩
      refine ⟨hw _, ?_⟩
      have e0 : (0 : Int) + (i : Int) = (i : Int) := Int.zero_add _
      unfold tYes
      dsimp only
      rw [if_pos rfl, e0]
      exact ps i acc B' H' (by omega) b0 b2 b1 _ fun v B3 H3 c1 c2 => ⟨acc, c1, sz_lt (by omega), B3, acc ++ [v], by rw [List.length_append, b0]; rfl, upd_same, c2⟩
    · rintro H' ⟨B', acc, b0, b1, b2⟩
      exact pd acc B' H' b0 b2 b1
/-- a comprehension over a list of data, its items told by their values -/
theorem m_lcL {tl : TE} {j : Nat} {vs : List Nat} {Q : VK} (f : Nat → V) (g0 : Ex B H) (h : EvD K tl σ B H (.list ds)) (hz : ds.length ≤ 40000) (hw : ∀ x, wipe ((wipe σ vs).set j (some x)) vs = wipe σ vs)
    (he : ∀ (i : Nat) d v B1 H1, Gr B H B1 H1 → ds[i]? = some d → Dq K B1 d v → EvV te ((wipe σ vs).set j (some v)) B1 H1 (f i))
    (q : ∀ p B1 H1, Gr B H B1 H1 → H p = none → B1 p = none → H1 p = some (.lst ((List.range ds.length).map f)) → Q (.ref p) H1) : tLc (iList K tl) (gName j) tYes te vs σ H Q :=
  h B H (Gr.refl g0) _ fun v B1 H1 g1 p => by
    obtain ⟨a, xs, rfl, q1, q2⟩ := dq_list.mp p
    refine ⟨a, rfl, ⟨xs, sq_of (g1.bh _ _ q1)⟩, fun Dl hD => ?_⟩
    refine lc_list (xs := xs) (fun i H' => ∃ B', Gr B1 H1 B' H' ∧ B' Dl = none ∧ H' Dl = some (.lst ((List.range i).map f))) ⟨B1, Gr.newM g1.bh hD, ex_none g1.bh hD, upd_same⟩ (fun i H' hi ⟨B', gg, _⟩ => sq_of (gg.hh _ _ (g1.bh _ _ q1))) ?_ ?_
    · rintro i x H' hx ⟨B', gg, b1, b2⟩
      refine ⟨hw _, ?_⟩
      unfold tYes
      dsimp only
      rw [if_pos rfl]
      obtain ⟨d, hd, hdx⟩ := q2.get' hx
      have hi : i < ds.length := (List.getElem?_eq_some_iff.mp hd).1
      refine he i d x B' H' (g1.trans gg) hd (hdx.mono gg.bb) B' H' gg.le _ fun v B2 H2 g2 e => ?_
      subst e
      refine ⟨_, g2.hh _ _ b2, sz_lt (by rw [List.length_map, List.length_range]; omega), B2, (gg.trans g2).mut hD (g2.out b1 b2), g2.out b1 b2, ?_⟩
      rw [upd_same, List.range_succ, List.map_append]
      rfl
    · rintro H' ⟨B', gg, b1, b2⟩
      rw [q2.len] at b2
      exact q Dl B' H' (g1.trans gg) (ex_none g1.hh hD) b1 b2
/-- a loop over a list that may change, but stands still -/
theorem q_forM {tl : TE} {g : TG} {l : Addr} {xs : List V} (g0 : Ex B H) (h : EvV tl σ B H (.ref l)) (hl : H l = some (.lst xs))
    (k : ∀ B1 H1, Gr B H B1 H1 → ∃ Pv : Nat → L2.St → Hp → Hp → Prop, Pv 0 σ B1 H1 ∧ (∀ i σ' B2 H2, Pv i σ' B2 H2 → H2 l = some (.lst xs)) ∧
      (∀ i v σ' B2 H2, xs[i]? = some v → Pv i σ' B2 H2 → g v σ' H2 fun σ2 H3 => tu { D with nx := fun σ3 H4 => ∃ B4, Pv (i + 1) σ3 B4 H4, ct := fun σ3 H4 => ∃ B4, Pv (i + 1) σ3 B4 H4, bk := tz D } σ2 H3) ∧
      (∀ σ' B2 H2, Pv xs.length σ' B2 H2 → tz D σ' H2)) : tSeq (tFor (iList K tl) g tu) tz D σ H :=
  h B H (Gr.refl g0) _ fun v B1 H1 g1 e => by
    obtain ⟨Pv, p0, pe, ps, pd⟩ := k B1 H1 g1
    refine ⟨l, e, ⟨xs, sq_of (g1.hh _ _ hl)⟩, for_list (fun i σ' H' => ∃ B', Pv i σ' B' H') ⟨B1, p0⟩ (fun i σ' H' hi ⟨B', w⟩ => sq_of (pe _ _ _ _ w)) ?_ ?_⟩
    · rintro i x σ' H' hx ⟨B', w⟩
      exact ps i x σ' B' H' hx w
    · rintro σ' H' ⟨B', w⟩
      exact pd σ' B' H' w
/-- x += e, ints -/
theorem s_augI {z : Nat} (g0 : Ex B H) (hx : σ[z]? = some (some (.int i))) (h : EvD K te σ B H (.int j)) (k : ∀ B1 H1, Gr B H B1 H1 → D.nx (σ.set z (some (.int (i + j)))) H1) : tAug z te (ipI fun i j => i + j) D σ H :=
  ⟨_, hx, h B H (Gr.refl g0) _ fun y B1 H1 g1 p => ⟨i, j, rfl, dq_int.mp p, k B1 H1 g1⟩⟩
end
end G

set_option Elab.async false
set_option linter.all false
set_option maxRecDepth 100000
set_option maxHeartbeats 1000000
namespace G
open PySem L2 Evl
/-! ### a room on the heap: where its things lie, what they are -/
inductive Lab where
  | r
  | lk
  | lp
  | lh
  | p (v : Nat)
  | l (v : Nat)
  | P (v : Nat)
  | Q (v : Nat)
deriving DecidableEq
def Lab.ok (n : Nat) : Lab → Prop
  | .p v => v < n
  | .l v => v < n
  | .P v => v < n
  | .Q v => v < n
  | _ => True
abbrev Ad := Lab → Addr
def rmf (ad : Ad) : List (Str × V) := [("keepers", .ref (ad .lk)), ("places", .ref (ad .lp)), ("held", .ref (ad .lh))]
def refsV (n : Nat) (f : Nat → Addr) : List V := (List.range n).map fun v => .ref (f v)
def intsV (n : Nat) (f : Nat → Nat) : List V := (List.range n).map fun v => .int (f v : Int)
section
variable (K : PySem.W.Frag) (CR CK : Addr)
def Good (B : Hp) (n : Nat) (S : Rf.Room Str) (M : Lab → Prop) (ad : Ad) : Lab → HO → Prop
  | .r, o => ∃ dx, o = .ins CR dx (rmf ad)
  | .lk, o => o = .lst (refsV n fun v => ad (.p v))
  | .lp, o => o = .lst (refsV n fun v => ad (.P v))
  | .lh, o => o = .lst (refsV n fun v => ad (.Q v))
  | .p v, o => ∃ dx, o = .ins CK dx (kf (S v).term (ad (.l v)) (S v).leads ((S v).settled : Int))
  | .l v, o => ∃ xs, o = .lst xs ∧ DqAll K B ((S v).row.map entD) xs
  | .P v, o => ∃ xs, o = .lst xs ∧ (M (.P v) → xs = intsV n (S v).next)
  | .Q v, o => ∃ xs, o = .lst xs ∧ (M (.Q v) → xs = intsV n (S v).held)
structure RAt (B H : Hp) (n : Nat) (S : Rf.Room Str) (M : Lab → Prop) (ad : Ad) : Prop where
  inj : ∀ x y, x.ok n → y.ok n → ad x = ad y → x = y
  b : ∀ x, x.ok n → B (ad x) = none
  g : ∀ x, x.ok n → ∃ o, H (ad x) = some o ∧ Good K CR CK B n S M ad x o
end
def Mfull (S : Rf.Room Str) : Lab → Prop
  | .P v => (S v).leads = true
  | .Q v => (S v).leads = true
  | _ => True
section
variable {K : PySem.W.Frag} {CR CK : Addr} {B H B1 H1 : Hp} {n : Nat} {S S' : Rf.Room Str} {M M' : Lab → Prop} {ad : Ad} {F F' : Addr → Prop} {x x0 : Lab} {o : HO} {v k : Nat}
theorem Good.mono (e : Ex B B1) (h : Good K CR CK B n S M ad x o) : Good K CR CK B1 n S M ad x o := by
  cases x with
  | l v =>
    obtain ⟨xs, e1, e2⟩ := h
    exact ⟨xs, e1, e2.mono e⟩
  | _ => exact h
theorem RAt.to (h : RAt K CR CK B H n S M ad) (g : GrF F' B H B1 H1) (X : Lab → Prop) (hF : ∀ x, x.ok n → F' (ad x) → X x)
    (hk : ∀ x, x.ok n → ¬ X x → ∀ o, Good K CR CK B1 n S M ad x o → Good K CR CK B1 n S' M' ad x o) (hx : ∀ x, x.ok n → X x → ∃ o, H1 (ad x) = some o ∧ Good K CR CK B1 n S' M' ad x o) : RAt K CR CK B1 H1 n S' M' ad where
  inj := h.inj
  b x hx := by
    obtain ⟨o, e, _⟩ := h.g x hx
    exact g.out (h.b x hx) (some_ne e)
  g x ok := by
    by_cases c : X x
    · exact hx x ok c
    · obtain ⟨o, e, G⟩ := h.g x ok
      exact ⟨o, g.hh _ _ e fun z => c (hF x ok z), hk x ok c o (G.mono g.bb)⟩
theorem RAt.same (h : RAt K CR CK B H n S M ad) (g : GrF F' B H B1 H1) (hF : ∀ x, x.ok n → ¬ F' (ad x)) : RAt K CR CK B1 H1 n S M ad :=
  h.to g (fun _ => False) hF (fun x ok _ o G => G) fun x _ z => z.elim
theorem RAt.gr (h : RAt K CR CK B H n S M ad) (g : Gr B H B1 H1) : RAt K CR CK B1 H1 n S M ad := h.same (F' := fun _ => False) g.fr fun _ _ z => z
theorem RAt.weak (h : RAt K CR CK B H n S M ad) (w : ∀ x, M' x → M x) : RAt K CR CK B H n S M' ad :=
  ⟨h.inj, h.b, fun x ok => by
    obtain ⟨o, e, G⟩ := h.g x ok
    refine ⟨o, e, ?_⟩
    cases x with
    | P v =>
      obtain ⟨xs, e1, e2⟩ := G
      exact ⟨xs, e1, fun z => e2 (w _ z)⟩
    | Q v =>
      obtain ⟨xs, e1, e2⟩ := G
      exact ⟨xs, e1, fun z => e2 (w _ z)⟩
    | _ => exact G⟩
/-- one thing lies elsewhere from now on -/
def reL (ad : Ad) (x0 : Lab) (a : Addr) : Ad := fun x => if x = x0 then a else ad x
theorem reL_same {a : Addr} : reL ad x0 a x0 = a := if_pos rfl
theorem reL_ne {a : Addr} (h : x ≠ x0) : reL ad x0 a x = ad x := if_neg h
theorem RAt.re (h : RAt K CR CK B H n S M ad) (g : GrF F' B H B1 H1) {nw : Addr} (hnw : H nw = none) (bnw : B1 nw = none) (X : Lab → Prop) (hF : ∀ x, x.ok n → F' (ad x) → X x)
    (hk : ∀ x, x.ok n → x ≠ x0 → ¬ X x → ∀ o, Good K CR CK B1 n S M ad x o → Good K CR CK B1 n S' M' (reL ad x0 nw) x o)
    (hx : ∀ x, x.ok n → x = x0 ∨ X x → ∃ o, H1 (reL ad x0 nw x) = some o ∧ Good K CR CK B1 n S' M' (reL ad x0 nw) x o) : RAt K CR CK B1 H1 n S' M' (reL ad x0 nw) where
  inj x y ox oy e := by
    have no : ∀ z, Lab.ok n z → ad z ≠ nw := fun z oz q => by
      obtain ⟨o, e, _⟩ := h.g z oz
      rw [q, hnw] at e
      cases e
    by_cases hx : x = x0
    · by_cases hy : y = x0
      · rw [hx, hy]
      · rw [hx, reL_same, reL_ne hy] at e
        exact absurd e.symm (no y oy)
    · by_cases hy : y = x0
      · rw [hy, reL_same, reL_ne hx] at e
        exact absurd e (no x ox)
      · rw [reL_ne hx, reL_ne hy] at e
        exact h.inj x y ox oy e
  b x ok := by
    by_cases hx : x = x0
    · rw [hx, reL_same]; exact bnw
    · rw [reL_ne hx]
      obtain ⟨o, e, _⟩ := h.g x ok
      exact g.out (h.b x ok) (some_ne e)
  g x ok := by
    by_cases c : x = x0 ∨ X x
    · exact hx x ok c
    · have c1 : x ≠ x0 := fun z => c (.inl z)
      have c2 : ¬ X x := fun z => c (.inr z)
      obtain ⟨o, e, G⟩ := h.g x ok
      refine ⟨o, ?_, hk x ok c1 c2 o (G.mono g.bb)⟩
      rw [reL_ne c1]
      exact g.hh _ _ e fun z => c2 (hF x ok z)
theorem RAt.ne (h : RAt K CR CK B H n S M ad) {x y : Lab} (ox : x.ok n) (oy : y.ok n) (ne : x ≠ y) : ad x ≠ ad y := fun z => ne (h.inj x y ox oy z)
theorem RAt.there (h : RAt K CR CK B H n S M ad) (ox : x.ok n) : H (ad x) ≠ none := by
  obtain ⟨o, e, _⟩ := h.g x ox
  exact some_ne e
/-! its parts -/
theorem RAt.room (h : RAt K CR CK B H n S M ad) : ∃ dx, H (ad .r) = some (.ins CR dx (rmf ad)) := by
  obtain ⟨o, e, dx, rfl⟩ := h.g .r trivial
  exact ⟨dx, e⟩
theorem RAt.keepers (h : RAt K CR CK B H n S M ad) : H (ad .lk) = some (.lst (refsV n fun v => ad (.p v))) := by
  obtain ⟨o, e, rfl⟩ := h.g .lk trivial
  exact e
theorem RAt.places (h : RAt K CR CK B H n S M ad) : H (ad .lp) = some (.lst (refsV n fun v => ad (.P v))) := by
  obtain ⟨o, e, rfl⟩ := h.g .lp trivial
  exact e
theorem RAt.helds (h : RAt K CR CK B H n S M ad) : H (ad .lh) = some (.lst (refsV n fun v => ad (.Q v))) := by
  obtain ⟨o, e, rfl⟩ := h.g .lh trivial
  exact e
theorem RAt.next (h : RAt K CR CK B H n S M ad) (hv : v < n) (m : M (.P v)) : H (ad (.P v)) = some (.lst (intsV n (S v).next)) := by
  obtain ⟨o, e, xs, rfl, q⟩ := h.g (.P v) hv
  rw [q m] at e
  exact e
theorem RAt.held (h : RAt K CR CK B H n S M ad) (hv : v < n) (m : M (.Q v)) : H (ad (.Q v)) = some (.lst (intsV n (S v).held)) := by
  obtain ⟨o, e, xs, rfl, q⟩ := h.g (.Q v) hv
  rw [q m] at e
  exact e
theorem RAt.row (h : RAt K CR CK B H n S M ad) (hv : v < n) : ∃ xs, H (ad (.l v)) = some (.lst xs) ∧ DqAll K B ((S v).row.map entD) xs := by
  obtain ⟨o, e, xs, rfl, q⟩ := h.g (.l v) hv
  exact ⟨xs, e, q⟩
theorem RAt.kp (h : RAt K CR CK B H n S M ad) (hv : v < n) : KpAt K CK B H (ad (.p v)) (ad (.l v)) (S v).term (S v).row (S v).leads ((S v).settled : Int) := by
  obtain ⟨o, e, dx, rfl⟩ := h.g (.p v) hv
  exact ⟨h.b (.p v) hv, h.b (.l v) hv, ⟨dx, e⟩, h.row hv⟩
/-- one keeper is changed, not its row -/
theorem RAt.setKp (h : RAt K CR CK B H n S M ad) (hv : v < n) (g : GrF (fun a => a = ad (.p v)) B H B1 H1) {y : Rf.Kp Str} (k : KpAt K CK B1 H1 (ad (.p v)) (ad (.l v)) y.term y.row y.leads (y.settled : Int))
    (hP : M' (.P v) → M (.P v) ∧ y.next = (S v).next) (hQ : M' (.Q v) → M (.Q v) ∧ y.held = (S v).held) (hO : ∀ w, w ≠ v → (M' (.P w) → M (.P w)) ∧ (M' (.Q w) → M (.Q w))) : RAt K CR CK B1 H1 n (Rf.put S v y) M' ad := by
  refine h.to g (fun x => x = .p v ∨ x = .l v) (fun x ok z => .inl (h.inj _ _ ok hv z)) (fun x ok c o G => ?_) fun x ok c => ?_
  · cases x with
    | p w =>
      have hw : w ≠ v := fun z => c (.inl (by rw [z]))
      obtain ⟨dx, e⟩ := G
      exact ⟨dx, by rw [Rf.put_ne hw]; exact e⟩
    | l w =>
      have hw : w ≠ v := fun z => c (.inr (by rw [z]))
      obtain ⟨xs, e, q⟩ := G
      exact ⟨xs, e, by rw [Rf.put_ne hw]; exact q⟩
    | P w =>
      obtain ⟨xs, e, q⟩ := G
      refine ⟨xs, e, fun z => ?_⟩
      by_cases hw : w = v
      · subst hw
        rw [Rf.put_same, (hP z).2]
        exact q (hP z).1
      · rw [Rf.put_ne hw]
        exact q ((hO w hw).1 z)
    | Q w =>
      obtain ⟨xs, e, q⟩ := G
      refine ⟨xs, e, fun z => ?_⟩
      by_cases hw : w = v
      · subst hw
        rw [Rf.put_same, (hQ z).2]
        exact q (hQ z).1
      · rw [Rf.put_ne hw]
        exact q ((hO w hw).2 z)
    | _ => exact G
  · rcases c with rfl | rfl
    · obtain ⟨dx, e⟩ := k.ex
      exact ⟨_, e, dx, by rw [Rf.put_same]⟩
    · obtain ⟨xs, e, q⟩ := k.row
      exact ⟨_, e, xs, rfl, by rw [Rf.put_same]; exact q⟩
theorem RAt.setKpF (h : RAt K CR CK B H n S (Mfull S) ad) (hv : v < n) (g : GrF (fun a => a = ad (.p v)) B H B1 H1) {y : Rf.Kp Str} (k : KpAt K CK B1 H1 (ad (.p v)) (ad (.l v)) y.term y.row y.leads (y.settled : Int))
    (hy : y.leads = true → (S v).leads = true ∧ y.next = (S v).next ∧ y.held = (S v).held) : RAt K CR CK B1 H1 n (Rf.put S v y) (Mfull (Rf.put S v y)) ad := by
  refine h.setKp hv g k (fun z => ?_) (fun z => ?_) fun w hw => ⟨fun z => ?_, fun z => ?_⟩
  · have z : (Rf.put S v y v).leads = true := z
    rw [Rf.put_same] at z
    exact ⟨(hy z).1, (hy z).2.1⟩
  · have z : (Rf.put S v y v).leads = true := z
    rw [Rf.put_same] at z
    exact ⟨(hy z).1, (hy z).2.2⟩
  · have z : (Rf.put S v y w).leads = true := z
    rw [Rf.put_ne hw] at z
    exact z
  · have z : (Rf.put S v y w).leads = true := z
    rw [Rf.put_ne hw] at z
    exact z
theorem atI_refs {f : Nat → Addr} (hk : k < n) : atI (refsV n f) (k : Int) = some (.ref (f k)) := atI_nat (map_range_get (fun v => V.ref (f v)) hk)
theorem len_refs {f : Nat → Addr} : (refsV n f).length = n := by unfold refsV; rw [List.length_map, List.length_range]
theorem len_ints {f : Nat → Nat} : (intsV n f).length = n := by unfold intsV; rw [List.length_map, List.length_range]
theorem refs_set {f g : Nat → Addr} {a : Addr} (h : ∀ v, v < n → g v = if v = k then a else f v) : (refsV n f).set k (.ref a) = refsV n g :=
  map_range_set (fun v => V.ref (f v)) (fun v => V.ref (g v)) (.ref a) fun v hv => by
    show V.ref (g v) = _
    rw [h v hv]
    split <;> rfl
theorem ints_set {f g : Nat → Nat} {a : Nat} (h : ∀ v, v < n → g v = if v = k then a else f v) : (intsV n f).set k (.int (a : Int)) = intsV n g :=
  map_range_set (fun v => V.int (f v : Int)) (fun v => V.int (g v : Int)) (.int (a : Int)) fun v hv => by
    show V.int (g v : Int) = _
    rw [h v hv]
    split <;> rfl
theorem intsV_dq {f : Nat → Nat} : DqAll K B ((List.range n).map fun v => .int (f v : Int)) (intsV n f) := dqa_ints (fun v => (f v : Int)) (List.range n)
theorem refs_congr {f g : Nat → Addr} (h : ∀ v, v < n → g v = f v) : refsV n f = refsV n g := List.map_congr_left fun v hv => by rw [h v (List.mem_range.mp hv)]
end
/-! ### as its callers know it -/
def RA (K : PySem.W.Frag) (CR CK : Addr) : RoomP := fun B H r n S F => ∃ ad, RAt K CR CK B H n S (Mfull S) ad ∧ r = ad .r ∧ ∀ a, F a ↔ ∃ x, Lab.ok n x ∧ a = ad x
section
variable {K : PySem.W.Frag} {CR CK : Addr} {B H B1 H1 : Hp} {r : Addr} {n : Nat} {S S' : Rf.Room Str} {ad ad' : Ad} {F F' : Addr → Prop}
theorem roomOk : RoomOk CR (RA K CR CK) where
  fr := fun {B H B1 H1 r n S F F'} ⟨ad, h, hr, hF⟩ g hd => ⟨ad, h.same g fun x ok z => hd _ ((hF _).mpr ⟨x, ok, rfl⟩) z, hr, hF⟩
  fp := fun {B H r n S F} ⟨ad, h, hr, hF⟩ a ha => by
    obtain ⟨x, ok, rfl⟩ := (hF a).mp ha
    exact ⟨h.b x ok, h.there ok⟩
  ins := fun {B H r n S F} ⟨ad, h, hr, hF⟩ => by
    obtain ⟨dx, e⟩ := h.room
    refine ⟨dx, _, by rw [hr]; exact e, fun m hm => ?_⟩
    unfold roomNames at hm
    simp only [List.mem_cons, List.not_mem_nil, or_false] at hm
    rcases hm with rfl | rfl | rfl | rfl | rfl | rfl | rfl | rfl | rfl <;> rfl
theorem After.use {Q : Hp → Prop} (q : After (RA K CR CK) B H r n F S' Q) (hr : r = ad .r) (hF : ∀ a, F a ↔ ∃ x, Lab.ok n x ∧ a = ad x) (g : GrF F' B H B1 H1) (h2 : ∀ a, F' a → F a) (h : RAt K CR CK B1 H1 n S' (Mfull S') ad')
    (hr' : ad' .r = ad .r) (hn : ∀ x, x.ok n → ad' x = ad x ∨ H (ad' x) = none) : Q H1 := by
  refine q B1 H1 (fun a => ∃ x, Lab.ok n x ∧ a = ad' x) (g.mono h2) (fun a ⟨x, ok, e⟩ => ?_) ⟨ad', h, by rw [hr, hr'], fun a => Iff.rfl⟩
  rcases hn x ok with z | z
  · exact .inl ((hF a).mpr ⟨x, ok, by rw [e, z]⟩)
  · exact .inr (by rw [e]; exact z)
theorem After.use0 {Q : Hp → Prop} (q : After (RA K CR CK) B H r n F S' Q) (hr : r = ad .r) (hF : ∀ a, F a ↔ ∃ x, Lab.ok n x ∧ a = ad x) (g : GrF F' B H B1 H1) (h2 : ∀ a, F' a → F a) (h : RAt K CR CK B1 H1 n S' (Mfull S') ad) : Q H1 :=
  q.use hr hF g h2 h rfl fun _ _ => .inl rfl
end
/-! ### steps of its methods -/
def spKeep (K : PySem.W.Frag) (CR CK CN : Addr) : Sp := fun vs H Q E => ∃ (B : Hp) (n : Nat) (S : Rf.Room Str) (M : Lab → Prop) (ad : Ad) (i : Int), vs = [.ref (ad .r), .int i] ∧ Ex B H ∧ RAt K CR CK B H n S M ad ∧
  (∀ k : Nat, i = (k : Int) → k < n → ∀ B1 H1, Gr B H B1 H1 → Q (.ref (ad (.p k))) H1) ∧ ((i < 0 ∨ (n : Int) ≤ i) → ∀ B1 H1, Gr B H B1 H1 → E (.ref CN) none H1)
section
variable {K : PySem.W.Frag} {CR CK CN : Addr} {σ : L2.St} {B H B1 H1 : Hp} {ta tb te : TE} {D : Ends} {tu tz tw : TS} {n k z : Nat} {S S' : Rf.Room Str} {M M' : Lab → Prop} {ad : Ad} {E : XK} {x : V}
theorem s_asgV (g0 : Ex B H) (h : EvV te σ B H x) (q : ∀ B1 H1, Gr B H B1 H1 → D.nx (σ.set z (some x)) H1) : tAsg te (gName z) D σ H := h B H (Gr.refl g0) _ fun v B1 H1 g e => by
  subst e
  exact q B1 H1 g
theorem q_asgV (g0 : Ex B H) (h : EvV te σ B H x) (q : ∀ B1 H1, Gr B H B1 H1 → tz D (σ.set z (some x)) H1) : tSeq (tAsg te (gName z)) tz D σ H := s_asgV (D := { D with nx := tz D }) g0 h q
theorem s_retV (g0 : Ex B H) (h : EvV te σ B H x) (q : ∀ B1 H1, Gr B H B1 H1 → D.rt x H1) : tRet te D σ H := h B H (Gr.refl g0) _ fun v B1 H1 g e => by
  subst e
  exact q B1 H1 g
theorem ev_keep (R : RAt K CR CK B H n S M ad) (kn : k < n) (h : EvV ta σ B H (.ref (ad .r))) (hk : EvD K tb σ B H (.int (k : Int))) : EvV (tMeth CR "keeper" (spKeep K CR CK CN) [] E ta (tCons tb tNil)) σ B H (.ref (ad (.p k))) := fun B1 H1 g Q q => by
  obtain ⟨dx, hr⟩ := (R.gr g).room
  refine m_meth (P := fun B2 vs => DqAll K B2 [.int (k : Int)] vs) g.bh (EvV.mono g h) hr rfl (ea_cons (hk.mono g) ea_nil) fun vs B2 H2 g2 hv => ?_
  obtain ⟨w0, vs, rfl, e0, hv⟩ := dqa_cons.mp hv
  cases dqa_nil.mp hv
  cases dq_int.mp e0
  exact ⟨B2, n, S, M, ad, (k : Int), rfl, g2.bh, (R.gr g).gr g2, fun k' e hk' B3 H3 g3 => by
    obtain rfl : k = k' := by omega
    exact q _ B3 H3 (g2.trans g3) rfl, fun w => by omega⟩
theorem dqa_ints_eq {f : Nat → Int} : ∀ {l : List Nat} {ys : List V}, DqAll K B (l.map fun v => .int (f v)) ys → ys = l.map fun v => V.int (f v)
  | [], _, h => dqa_nil.mp h
  | i :: l, _, h => by
    obtain ⟨v, vs, rfl, h1, h2⟩ := dqa_cons.mp h
    rw [dq_int.mp h1, dqa_ints_eq h2]
    rfl
theorem rep_ints (n : Nat) (d : PyData) : (List.replicate n [d]).flatten = (List.range n).map fun _ => d := by
  induction n with
  | zero => rfl
  | succ n ih => rw [List.replicate_succ', List.flatten_append, ih, List.range_succ, List.map_append]; rfl
theorem RAt.setP (h : RAt K CR CK B H n S M ad) (kn : k < n) (g : Gr B H B1 H1) {p : Addr} {ys : List V} (h1 : H p = none) (h2 : B1 p = none) (h3 : H1 p = some (.lst ys)) (e : M' (.P k) → ys = intsV n (S k).next) (hM : ∀ x, x ≠ .P k → M' x → M x) :
    RAt K CR CK B1 (upd H1 (ad .lp) (.lst ((refsV n fun v => ad (.P v)).set k (.ref p)))) n S M' (reL ad (.P k) p) := by
  have G1 : GrF (fun a => a = ad .lp) B H B1 (upd H1 (ad .lp) (.lst ((refsV n fun v => ad (.P v)).set k (.ref p)))) := g.fr.upd rfl (g.out (h.b .lp trivial) h.places)
  have np : ∀ x, Lab.ok n x → p ≠ ad x := fun x ok z => h.there ok (by rw [← z]; exact h1)
  refine h.re G1 h1 h2 (fun x => x = .lp) (fun x ok z => h.inj _ _ ok trivial z) (fun x ok c1 c2 o G => ?_) fun x ok c => ?_
  · cases x with
    | r => exact G
    | lk => exact G
    | lp => exact absurd rfl c2
    | lh => exact G
    | p v => exact G
    | l v => exact G
    | P v =>
      obtain ⟨xs, e1, e2⟩ := G
      exact ⟨xs, e1, fun z => e2 (hM _ c1 z)⟩
    | Q v =>
      obtain ⟨xs, e1, e2⟩ := G
      exact ⟨xs, e1, fun z => e2 (hM _ c1 z)⟩
  · rcases c with rfl | rfl
    · refine ⟨.lst ys, ?_, ys, rfl, e⟩
      rw [reL_same, upd_ne (np .lp trivial)]
      exact h3
    · refine ⟨_, upd_same, ?_⟩
      show HO.lst _ = HO.lst _
      rw [refs_set (g := fun v => reL ad (.P k) p (.P v)) fun v hv => ?_]
      by_cases e : v = k
      · subst e
        rw [if_pos rfl]
        exact reL_same
      · rw [if_neg e]
        exact reL_ne fun z => e (Lab.P.inj z)
theorem RAt.setQ (h : RAt K CR CK B H n S M ad) (kn : k < n) (g : Gr B H B1 H1) {p : Addr} {ys : List V} (h1 : H p = none) (h2 : B1 p = none) (h3 : H1 p = some (.lst ys)) (e : M' (.Q k) → ys = intsV n (S k).held) (hM : ∀ x, x ≠ .Q k → M' x → M x) :
    RAt K CR CK B1 (upd H1 (ad .lh) (.lst ((refsV n fun v => ad (.Q v)).set k (.ref p)))) n S M' (reL ad (.Q k) p) := by
  have G1 : GrF (fun a => a = ad .lh) B H B1 (upd H1 (ad .lh) (.lst ((refsV n fun v => ad (.Q v)).set k (.ref p)))) := g.fr.upd rfl (g.out (h.b .lh trivial) h.helds)
  have np : ∀ x, Lab.ok n x → p ≠ ad x := fun x ok z => h.there ok (by rw [← z]; exact h1)
  refine h.re G1 h1 h2 (fun x => x = .lh) (fun x ok z => h.inj _ _ ok trivial z) (fun x ok c1 c2 o G => ?_) fun x ok c => ?_
  · cases x with
    | r => exact G
    | lk => exact G
    | lp => exact G
    | lh => exact absurd rfl c2
    | p v => exact G
    | l v => exact G
    | P v =>
      obtain ⟨xs, e1, e2⟩ := G
      exact ⟨xs, e1, fun z => e2 (hM _ c1 z)⟩
    | Q v =>
      obtain ⟨xs, e1, e2⟩ := G
      exact ⟨xs, e1, fun z => e2 (hM _ c1 z)⟩
  · rcases c with rfl | rfl
    · refine ⟨.lst ys, ?_, ys, rfl, e⟩
      rw [reL_same, upd_ne (np .lh trivial)]
      exact h3
    · refine ⟨_, upd_same, ?_⟩
      show HO.lst _ = HO.lst _
      rw [refs_set (g := fun v => reL ad (.Q k) p (.Q v)) fun v hv => ?_]
      by_cases e : v = k
      · subst e
        rw [if_pos rfl]
        exact reL_same
      · rw [if_neg e]
        exact reL_ne fun z => e (Lab.Q.inj z)
/-- a keeper's row lies elsewhere, its own account is told anew -/
theorem RAt.setRow (h : RAt K CR CK B H n S M ad) (kn : k < n) (g : Gr B H B1 H1) {p : Addr} {ys : List V} {row : List Ent} (h1 : H p = none) (h2 : B1 p = none) (h3 : H1 p = some (.lst ys)) (e : DqAll K B1 (row.map entD) ys) {dx : Addr} (hd : H (ad (.p k)) = some (.ins CK dx (kf (S k).term (ad (.l k)) (S k).leads ((S k).settled : Int)))) :
    RAt K CR CK B1 (upd H1 (ad (.p k)) (.ins CK dx (kf (S k).term p (S k).leads ((S k).settled : Int)))) n (Rf.put S k { S k with row := row }) M (reL ad (.l k) p) := by
  have G1 : GrF (fun a => a = ad (.p k)) B H B1 (upd H1 (ad (.p k)) (.ins CK dx (kf (S k).term p (S k).leads ((S k).settled : Int)))) := g.fr.upd rfl (g.out (h.b (.p k) kn) hd)
  have np : ∀ x, Lab.ok n x → p ≠ ad x := fun x ok z => h.there ok (by rw [← z]; exact h1)
  refine h.re G1 h1 h2 (fun x => x = .p k) (fun x ok z => h.inj _ _ ok kn z) (fun x ok c1 c2 o G => ?_) fun x ok c => ?_
  · cases x with
    | r => exact G
    | lk => exact G
    | lp => exact G
    | lh => exact G
    | p v =>
      have hv : v ≠ k := fun z => c2 (by rw [z])
      obtain ⟨dx, e⟩ := G
      refine ⟨dx, ?_⟩
      rw [Rf.put_ne hv, reL_ne fun z => hv (Lab.l.inj z)]
      exact e
    | l v =>
      have hv : v ≠ k := fun z => c1 (by rw [z])
      obtain ⟨xs, e1, e2⟩ := G
      exact ⟨xs, e1, by rw [Rf.put_ne hv]; exact e2⟩
    | P v =>
      obtain ⟨xs, e1, e2⟩ := G
      refine ⟨xs, e1, fun z => ?_⟩
      by_cases hv : v = k
      · subst hv
        rw [Rf.put_same]
        exact e2 z
      · rw [Rf.put_ne hv]
        exact e2 z
    | Q v =>
      obtain ⟨xs, e1, e2⟩ := G
      refine ⟨xs, e1, fun z => ?_⟩
      by_cases hv : v = k
      · subst hv
        rw [Rf.put_same]
        exact e2 z
      · rw [Rf.put_ne hv]
        exact e2 z
  · rcases c with rfl | rfl
    · refine ⟨.lst ys, ?_, ys, rfl, by rw [Rf.put_same]; exact e⟩
      rw [reL_same, upd_ne (np (.p k) kn)]
      exact h3
    · refine ⟨_, upd_same, dx, ?_⟩
      rw [Rf.put_same, reL_same]
/-- at the end of a keeper's row something comes -/
theorem RAt.addRow (h : RAt K CR CK B H n S M ad) (kn : k < n) (g : Gr B H B1 H1) {xs : List V} {v : V} {e : Ent} (hx : H (ad (.l k)) = some (.lst xs)) (dv : Dq K B1 (entD e) v) :
    RAt K CR CK B1 (upd H1 (ad (.l k)) (.lst (xs ++ [v]))) n (Rf.put S k { S k with row := (S k).row ++ [e] }) M ad := by
  obtain ⟨xs', hx', dx⟩ := h.row kn
  rw [hx] at hx'
  cases hx'
  have G1 : GrF (fun a => a = ad (.l k)) B H B1 (upd H1 (ad (.l k)) (.lst (xs ++ [v]))) := g.fr.upd rfl (g.out (h.b (.l k) kn) hx)
  refine h.to G1 (fun x => x = .l k) (fun x ok z => h.inj _ _ ok kn z) (fun x ok c o G => ?_) fun x ok c => ?_
  · cases x with
    | r => exact G
    | lk => exact G
    | lp => exact G
    | lh => exact G
    | p v =>
      obtain ⟨dx, e⟩ := G
      refine ⟨dx, ?_⟩
      by_cases hv : v = k
      · subst hv
        rw [Rf.put_same]
        exact e
      · rw [Rf.put_ne hv]
        exact e
    | l v =>
      have hv : v ≠ k := fun z => c (by rw [z])
      obtain ⟨xs, e1, e2⟩ := G
      exact ⟨xs, e1, by rw [Rf.put_ne hv]; exact e2⟩
    | P v =>
      obtain ⟨xs, e1, e2⟩ := G
      refine ⟨xs, e1, fun z => ?_⟩
      by_cases hv : v = k
      · subst hv
        rw [Rf.put_same]
        exact e2 z
      · rw [Rf.put_ne hv]
        exact e2 z
    | Q v =>
      obtain ⟨xs, e1, e2⟩ := G
      refine ⟨xs, e1, fun z => ?_⟩
      by_cases hv : v = k
      · subst hv
        rw [Rf.put_same]
        exact e2 z
      · rw [Rf.put_ne hv]
        exact e2 z
  · subst c
    refine ⟨_, upd_same, _, rfl, ?_⟩
    rw [Rf.put_same, List.map_append]
    exact (dx.mono g.bb).append (DqAll.one dv)
/-- what is handed on next, in place -/
theorem RAt.putNext (h : RAt K CR CK B H n S M ad) (kn : k < n) (g : Gr B H B1 H1) {f : Nat → Nat} {o a : Nat} (m : M (.P k)) (hf : ∀ v, v < n → f v = if v = o then a else (S k).next v) :
    RAt K CR CK B1 (upd H1 (ad (.P k)) (.lst ((intsV n (S k).next).set o (.int (a : Int))))) n (Rf.put S k { S k with next := f }) M ad := by
  have G1 : GrF (fun x => x = ad (.P k)) B H B1 (upd H1 (ad (.P k)) (.lst ((intsV n (S k).next).set o (.int (a : Int))))) := g.fr.upd rfl (g.out (h.b (.P k) kn) (h.next kn m))
  refine h.to G1 (fun x => x = .P k) (fun x ok z => h.inj _ _ ok kn z) (fun x ok c o G => ?_) fun x ok c => ?_
  · cases x with
    | r => exact G
    | lk => exact G
    | lp => exact G
    | lh => exact G
    | p v =>
      obtain ⟨dx, e⟩ := G
      refine ⟨dx, ?_⟩
      by_cases hv : v = k
      · subst hv
        rw [Rf.put_same]
        exact e
      · rw [Rf.put_ne hv]
        exact e
    | l v =>
      obtain ⟨xs, e1, e2⟩ := G
      refine ⟨xs, e1, ?_⟩
      by_cases hv : v = k
      · subst hv
        rw [Rf.put_same]
        exact e2
      · rw [Rf.put_ne hv]
        exact e2
    | P v =>
      have hv : v ≠ k := fun z => c (by rw [z])
      obtain ⟨xs, e1, e2⟩ := G
      exact ⟨xs, e1, by rw [Rf.put_ne hv]; exact e2⟩
    | Q v =>
      obtain ⟨xs, e1, e2⟩ := G
      refine ⟨xs, e1, fun z => ?_⟩
      by_cases hv : v = k
      · subst hv
        rw [Rf.put_same]
        exact e2 z
      · rw [Rf.put_ne hv]
        exact e2 z
  · subst c
    refine ⟨_, upd_same, _, rfl, fun _ => ?_⟩
    rw [Rf.put_same]
    exact ints_set hf
theorem RAt.putHeld (h : RAt K CR CK B H n S M ad) (kn : k < n) (g : Gr B H B1 H1) {f : Nat → Nat} {o a : Nat} (m : M (.Q k)) (hf : ∀ v, v < n → f v = if v = o then a else (S k).held v) :
    RAt K CR CK B1 (upd H1 (ad (.Q k)) (.lst ((intsV n (S k).held).set o (.int (a : Int))))) n (Rf.put S k { S k with held := f }) M ad := by
  have G1 : GrF (fun x => x = ad (.Q k)) B H B1 (upd H1 (ad (.Q k)) (.lst ((intsV n (S k).held).set o (.int (a : Int))))) := g.fr.upd rfl (g.out (h.b (.Q k) kn) (h.held kn m))
  refine h.to G1 (fun x => x = .Q k) (fun x ok z => h.inj _ _ ok kn z) (fun x ok c o G => ?_) fun x ok c => ?_
  · cases x with
    | r => exact G
    | lk => exact G
    | lp => exact G
    | lh => exact G
    | p v =>
      obtain ⟨dx, e⟩ := G
      refine ⟨dx, ?_⟩
      by_cases hv : v = k
      · subst hv
        rw [Rf.put_same]
        exact e
      · rw [Rf.put_ne hv]
        exact e
    | l v =>
      obtain ⟨xs, e1, e2⟩ := G
      refine ⟨xs, e1, ?_⟩
      by_cases hv : v = k
      · subst hv
        rw [Rf.put_same]
        exact e2
      · rw [Rf.put_ne hv]
        exact e2
    | P v =>
      obtain ⟨xs, e1, e2⟩ := G
      refine ⟨xs, e1, fun z => ?_⟩
      by_cases hv : v = k
      · subst hv
        rw [Rf.put_same]
        exact e2 z
      · rw [Rf.put_ne hv]
        exact e2 z
    | Q v =>
      have hv : v ≠ k := fun z => c (by rw [z])
      obtain ⟨xs, e1, e2⟩ := G
      exact ⟨xs, e1, by rw [Rf.put_ne hv]; exact e2⟩
  · subst c
    refine ⟨_, upd_same, _, rfl, fun _ => ?_⟩
    rw [Rf.put_same]
    exact ints_set hf
end
/-! ### a room is made -/
section
variable {K : PySem.W.Frag} {CR CK : Addr} {σ : L2.St} {B H : Hp} {n : Nat}
/-- one more -/
def exF (f : Nat → Addr) (i : Nat) (l : Addr) : Nat → Addr := fun v => if v = i then l else f v
theorem exF_same {f : Nat → Addr} {i : Nat} {l : Addr} : exF f i l i = l := if_pos rfl
theorem exF_ne {f : Nat → Addr} {i v : Nat} {l : Addr} (h : v ≠ i) : exF f i l v = f v := if_neg h
theorem exF_refs {f : Nat → Addr} {i : Nat} {l : Addr} : refsV i f ++ [.ref l] = refsV (i + 1) (exF f i l) := by
  unfold refsV
  rw [List.range_succ, List.map_append]
  congr 1
  · exact List.map_congr_left fun v hv => by rw [exF_ne (by have := List.mem_range.mp hv; omega)]
  · rw [List.map_singleton, exF_same]
theorem exF_inj {f : Nat → Addr} {i : Nat} {l : Addr} (fi : ∀ v w, v < i → w < i → f v = f w → v = w) (nf : ∀ v, v < i → f v ≠ l) : ∀ v w, v < i + 1 → w < i + 1 → exF f i l v = exF f i l w → v = w := fun v w hv hw e => by
  by_cases e1 : v = i
  · by_cases e2 : w = i
    · rw [e1, e2]
    · rw [e1, exF_same, exF_ne e2] at e
      exact absurd e.symm (nf w (by omega))
  · by_cases e2 : w = i
    · rw [e2, exF_same, exF_ne e1] at e
      exact absurd e (nf v (by omega))
    · rw [exF_ne e1, exF_ne e2] at e
      exact fi v w (by omega) (by omega) e
theorem m_lists {ta : TA} {j : Nat} {vs : List Nat} {Q : VK} {m : Int} (g0 : Ex B H) (h : EvA ta σ B H fun B1 vs => DqAll K B1 [.int m] vs) (hm : m = (n : Int)) (hn : n ≤ 9) (hw : ∀ x, wipe ((wipe σ vs).set j (some x)) vs = wipe σ vs)
    (q : ∀ p f B1 H1, Gr B H B1 H1 → H p = none → B1 p = none → H1 p = some (.lst (refsV n f)) → (∀ v, v < n → H1 (f v) = some (.lst []) ∧ B1 (f v) = none ∧ H (f v) = none ∧ f v ≠ p) → (∀ v w, v < n → w < n → f v = f w → v = w) → Q (.ref p) H1) :
    tLc (iRng1 ta) (gName j) tYes (tLst tNil) vs σ H Q := by
  subst hm
  refine m_lcR g0 h (by omega) hw fun B1 H1 Dl g1 hD bD => ⟨fun i acc B' H' => Gr B1 H1 B' H' ∧ B' Dl = none ∧ ∃ f : Nat → Addr, acc = refsV i f ∧ (∀ v, v < i → H' (f v) = some (.lst []) ∧ B' (f v) = none ∧ H1 (f v) = none ∧ f v ≠ Dl) ∧ ∀ v w, v < i → w < i → f v = f w → v = w,
    ⟨Gr.newM g1.bh hD, bD, fun _ => 0, rfl, (fun v hv => absurd hv (Nat.not_lt_zero _)), fun v w hv => absurd hv (Nat.not_lt_zero _)⟩, ?_, ?_⟩
  · rintro i acc B2 H2 hi ha ⟨gg, b2, f, rfl, hf, fi⟩ hDl Q' q'
    refine ⟨Nat.zero_le _, fun l hl => ?_⟩
    have nD : Dl ≠ l := fun z => by rw [z, hl] at hDl; cases hDl
    have gn := Gr.newM (o := .lst []) gg.bh hl
    have nf : ∀ v, v < i → f v ≠ l := fun v hv z => by
      have := (hf v hv).1
      rw [z, hl] at this
      cases this
    refine q' _ B2 _ (by rw [upd_ne nD]; exact hDl) ⟨(gg.trans gn).mut hD (gn.out b2 hDl), gn.out b2 hDl, exF f i l, exF_refs, ?_, exF_inj fi nf⟩
    intro v hv
    by_cases e : v = i
    · rw [e, exF_same]
      exact ⟨by rw [upd_ne fun z => nD z.symm, upd_same], ex_none gg.bh hl, ex_none gg.hh hl, fun z => nD z.symm⟩
    · rw [exF_ne e]
      have hv' : v < i := by omega
      obtain ⟨c1, c2, c3, c4⟩ := hf v hv'
      exact ⟨by rw [upd_ne c4, upd_ne (nf v hv')]; exact c1, c2, c3, c4⟩
  · rintro acc B2 H2 ha ⟨gg, b2, f, rfl, hf, fi⟩ hDl
    rw [Int.toNat_natCast] at *
    exact q Dl f B2 H2 (g1.trans gg) (ex_none g1.hh hD) b2 hDl (fun v hv => by
      obtain ⟨c1, c2, c3, c4⟩ := hf v hv
      exact ⟨c1, c2, ex_none g1.hh c3, c4⟩) fi
def mkAd (r lk lp lh : Addr) (fp fl fP fQ : Nat → Addr) : Ad
  | .r => r
  | .lk => lk
  | .lp => lp
  | .lh => lh
  | .p v => fp v
  | .l v => fl v
  | .P v => fP v
  | .Q v => fQ v
def Lab.st : Lab → Nat
  | .r => 0
  | .lk => 1
  | .p _ => 1
  | .l _ => 1
  | .lp => 2
  | .P _ => 2
  | .lh => 3
  | .Q _ => 3
theorem RAt.make {B H H0 H1 H2 : Hp} {r lk lp lh dx : Addr} {fp fl fP fQ : Nat → Addr} (m1 : ∀ a, H0 a ≠ none → H1 a ≠ none) (m2 : ∀ a, H1 a ≠ none → H2 a ≠ none)
    (r0 : H0 r ≠ none) (k0 : H0 lk = none) (k1 : H1 lk ≠ none) (p0 : ∀ v, v < n → H0 (fp v) = none ∧ H1 (fp v) ≠ none) (l0 : ∀ v, v < n → H0 (fl v) = none ∧ H1 (fl v) ≠ none ∧ fl v ≠ lk)
    (lp0 : H1 lp = none) (lp1 : H2 lp ≠ none) (P0 : ∀ v, v < n → H1 (fP v) = none ∧ H2 (fP v) ≠ none ∧ fP v ≠ lp) (lh0 : H2 lh = none) (Q0 : ∀ v, v < n → H2 (fQ v) = none ∧ fQ v ≠ lh)
    (ip : ∀ v w, v < n → w < n → fp v = fp w → v = w) (il : ∀ v w, v < n → w < n → fl v = fl w → v = w) (iP : ∀ v w, v < n → w < n → fP v = fP w → v = w) (iQ : ∀ v w, v < n → w < n → fQ v = fQ w → v = w)
    (br : B r = none) (bk : B lk = none) (bp : B lp = none) (bh : B lh = none) (bP : ∀ v, v < n → B (fP v) = none) (bQ : ∀ v, v < n → B (fQ v) = none)
    (hr : H r = some (.ins CR dx [("keepers", .ref lk), ("places", .ref lp), ("held", .ref lh)])) (hk : H lk = some (.lst (refsV n fp))) (hp : H lp = some (.lst (refsV n fP))) (hh : H lh = some (.lst (refsV n fQ)))
    (kp : ∀ v, v < n → KpAt K CK B H (fp v) (fl v) 0 [] false 0) (hP : ∀ v, v < n → H (fP v) = some (.lst [])) (hQ : ∀ v, v < n → H (fQ v) = some (.lst [])) :
    RAt K CR CK B H n Rf.room0 (Mfull Rf.room0) (mkAd r lk lp lh fp fl fP fQ) ∧ ∀ x, Lab.ok n x → mkAd r lk lp lh fp fl fP fQ x = r ∨ H0 (mkAd r lk lp lh fp fl fP fQ x) = none := by
  have n1 : ∀ a, H1 a = none → H0 a = none := fun a h => by
    cases e : H0 a with
    | none => rfl
    | some o => exact absurd h (m1 a (some_ne e))
  have n2 : ∀ a, H2 a = none → H1 a = none := fun a h => by
    cases e : H1 a with
    | none => rfl
    | some o => exact absurd h (m2 a (some_ne e))
  have st1 : ∀ x, Lab.ok n x → (x.st = 0 → H0 (mkAd r lk lp lh fp fl fP fQ x) ≠ none) ∧ (1 ≤ x.st → H0 (mkAd r lk lp lh fp fl fP fQ x) = none) ∧ (x.st ≤ 1 → H1 (mkAd r lk lp lh fp fl fP fQ x) ≠ none) ∧ (2 ≤ x.st → H1 (mkAd r lk lp lh fp fl fP fQ x) = none) ∧ (x.st ≤ 2 → H2 (mkAd r lk lp lh fp fl fP fQ x) ≠ none) ∧ (3 ≤ x.st → H2 (mkAd r lk lp lh fp fl fP fQ x) = none) := fun x ok => by
    cases x with
    | r => exact ⟨fun _ => r0, fun z => absurd z (by decide), fun _ => m1 _ r0, fun z => absurd z (by decide), fun _ => m2 _ (m1 _ r0), fun z => absurd z (by decide)⟩
    | lk => exact ⟨fun z => absurd z (by decide), fun _ => k0, fun _ => k1, fun z => absurd z (by decide), fun _ => m2 _ k1, fun z => absurd z (by decide)⟩
    | p v => exact ⟨fun z => absurd z (by show ¬ 1 = 0; decide), fun _ => (p0 v ok).1, fun _ => (p0 v ok).2, fun z => absurd z (by show ¬ 2 ≤ 1; decide), fun _ => m2 _ (p0 v ok).2, fun z => absurd z (by show ¬ 3 ≤ 1; decide)⟩
    | l v => exact ⟨fun z => absurd z (by show ¬ 1 = 0; decide), fun _ => (l0 v ok).1, fun _ => (l0 v ok).2.1, fun z => absurd z (by show ¬ 2 ≤ 1; decide), fun _ => m2 _ (l0 v ok).2.1, fun z => absurd z (by show ¬ 3 ≤ 1; decide)⟩
    | lp => exact ⟨fun z => absurd z (by decide), fun _ => n1 _ lp0, fun z => absurd z (by decide), fun _ => lp0, fun _ => lp1, fun z => absurd z (by decide)⟩
    | P v => exact ⟨fun z => absurd z (by show ¬ 2 = 0; decide), fun _ => n1 _ (P0 v ok).1, fun z => absurd z (by show ¬ 2 ≤ 1; decide), fun _ => (P0 v ok).1, fun _ => (P0 v ok).2.1, fun z => absurd z (by show ¬ 3 ≤ 2; decide)⟩
    | lh => exact ⟨fun z => absurd z (by decide), fun _ => n1 _ (n2 _ lh0), fun z => absurd z (by decide), fun _ => n2 _ lh0, fun z => absurd z (by decide), fun _ => lh0⟩
    | Q v => exact ⟨fun z => absurd z (by show ¬ 3 = 0; decide), fun _ => n1 _ (n2 _ (Q0 v ok).1), fun z => absurd z (by show ¬ 3 ≤ 1; decide), fun _ => n2 _ (Q0 v ok).1, fun z => absurd z (by show ¬ 3 ≤ 2; decide), fun _ => (Q0 v ok).1⟩
  have st2 : ∀ x y, Lab.ok n x → Lab.ok n y → mkAd r lk lp lh fp fl fP fQ x = mkAd r lk lp lh fp fl fP fQ y → x.st = y.st := fun x y ox oy e => by
    obtain ⟨a1, a2, a3, a4, a5, a6⟩ := st1 x ox
    obtain ⟨b1, b2, b3, b4, b5, b6⟩ := st1 y oy
    rw [← e] at b1 b2 b3 b4 b5 b6
    have c1 : x.st = 0 → y.st = 0 := fun z => Decidable.byContradiction fun w => a1 z (b2 (by omega))
    have c2 : y.st = 0 → x.st = 0 := fun z => Decidable.byContradiction fun w => b1 z (a2 (by omega))
    have c3 : x.st ≤ 1 → y.st ≤ 1 := fun z => Decidable.byContradiction fun w => a3 z (b4 (by omega))
    have c4 : y.st ≤ 1 → x.st ≤ 1 := fun z => Decidable.byContradiction fun w => b3 z (a4 (by omega))
    have c5 : x.st ≤ 2 → y.st ≤ 2 := fun z => Decidable.byContradiction fun w => a5 z (b6 (by omega))
    have c6 : y.st ≤ 2 → x.st ≤ 2 := fun z => Decidable.byContradiction fun w => b5 z (a6 (by omega))
    have u1 : x.st ≤ 3 := by cases x <;> exact Nat.le_of_ble_eq_true rfl
    have u2 : y.st ≤ 3 := by cases y <;> exact Nat.le_of_ble_eq_true rfl
    omega
  have pl : ∀ v w, v < n → w < n → fp v ≠ fl w := fun v w hv hw z => by
    obtain ⟨_, e⟩ := (kp v hv).ex
    obtain ⟨_, e2, _⟩ := (kp w hw).row
    rw [z, e2] at e
    cases e
  have pk : ∀ v, v < n → fp v ≠ lk := fun v hv z => by
    obtain ⟨_, e⟩ := (kp v hv).ex
    rw [z, hk] at e
    cases e
  refine ⟨⟨fun x y ox oy e => ?_, fun x ok => ?_, fun x ok => ?_⟩, fun x ok => ?_⟩
  · have es := st2 x y ox oy e
    cases x with
    | r => cases y with
      | r => rfl
      | _ => exact nomatch es
    | lk => cases y with
      | lk => rfl
      | p v => exact absurd e.symm (pk v oy)
      | l v => exact absurd e.symm (l0 v oy).2.2
      | _ => exact nomatch es
    | p v => cases y with
      | lk => exact absurd e (pk v ox)
      | p w => exact congrArg _ (ip v w ox oy e)
      | l w => exact absurd e (pl v w ox oy)
      | _ => exact nomatch es
    | l v => cases y with
      | lk => exact absurd e (l0 v ox).2.2
      | p w => exact absurd e.symm (pl w v oy ox)
      | l w => exact congrArg _ (il v w ox oy e)
      | _ => exact nomatch es
    | lp => cases y with
      | lp => rfl
      | P v => exact absurd e.symm (P0 v oy).2.2
      | _ => exact nomatch es
    | P v => cases y with
      | lp => exact absurd e (P0 v ox).2.2
      | P w => exact congrArg _ (iP v w ox oy e)
      | _ => exact nomatch es
    | lh => cases y with
      | lh => rfl
      | Q v => exact absurd e.symm (Q0 v oy).2
      | _ => exact nomatch es
    | Q v => cases y with
      | lh => exact absurd e (Q0 v ox).2
      | Q w => exact congrArg _ (iQ v w ox oy e)
      | _ => exact nomatch es
  · cases x with
    | r => exact br
    | lk => exact bk
    | lp => exact bp
    | lh => exact bh
    | p v => exact (kp v ok).bp
    | l v => exact (kp v ok).bl
    | P v => exact bP v ok
    | Q v => exact bQ v ok
  · cases x with
    | r => exact ⟨_, hr, dx, rfl⟩
    | lk => exact ⟨_, hk, rfl⟩
    | lp => exact ⟨_, hp, rfl⟩
    | lh => exact ⟨_, hh, rfl⟩
    | p v =>
      obtain ⟨d, e⟩ := (kp v ok).ex
      exact ⟨_, e, d, rfl⟩
    | l v =>
      obtain ⟨xs, e, q⟩ := (kp v ok).row
      exact ⟨_, e, xs, rfl, q⟩
    | P v => exact ⟨_, hP v ok, _, rfl, fun z => nomatch z⟩
    | Q v => exact ⟨_, hQ v ok, _, rfl, fun z => nomatch z⟩
  · by_cases e : x.st = 0
    · cases x with
      | r => exact .inl rfl
      | _ => exact nomatch e
    · exact .inr ((st1 x ok).2.1 (by omega))
end
/-! ### rows told over a base that kept some lists for a while -/
def thaw (B : Hp) (ls : List Addr) : Hp := fun a => if a ∈ ls then none else B a
section
variable {K : PySem.W.Frag} {B H B1 H1 : Hp} {ls : List Addr} {es : List Ent} {xs : List V} {e : Ent} {v : V}
theorem thaw_ent (hl : ∀ l ∈ ls, ∃ ys, B l = some (.lst ys)) (h : Dq K B (entD e) v) : Dq K (thaw B ls) (entD e) v := by
  obtain ⟨a, xs, rfl, h1, h2⟩ := dq_tuple.mp h
  refine dq_tuple.mpr ⟨a, xs, rfl, ?_, ?_⟩
  · unfold thaw
    rw [if_neg fun z => by
      obtain ⟨ys, q⟩ := hl a z
      rw [h1] at q
      cases q]
    exact h1
  · obtain ⟨v, vs, rfl, d1, h2⟩ := dqa_cons.mp h2
    obtain ⟨v2, vs, rfl, d2, h2⟩ := dqa_cons.mp h2
    cases dqa_nil.mp h2
    cases dq_int.mp d1
    cases dq_str.mp d2
    exact dqa_cons.mpr ⟨_, _, rfl, dq_int.mpr rfl, dqa_cons.mpr ⟨_, _, rfl, dq_str.mpr rfl, dqa_nil.mpr rfl⟩⟩
theorem thaw_ents (hl : ∀ l ∈ ls, ∃ ys, B l = some (.lst ys)) : ∀ {es : List Ent} {xs : List V}, DqAll K B (es.map entD) xs → DqAll K (thaw B ls) (es.map entD) xs
  | [], _, h => by rw [dqa_nil.mp h]; exact dqa_nil.mpr rfl
  | e :: es, _, h => by
    obtain ⟨v, vs, rfl, h1, h2⟩ := dqa_cons.mp h
    exact dqa_cons.mpr ⟨v, vs, rfl, thaw_ent hl h1, thaw_ents hl h2⟩
theorem thaw_gr (hb : ∀ l ∈ ls, B l = none) (g : Gr (kept B H ls) H B1 H1) : Gr B H (thaw B1 ls) H1 :=
  ⟨fun a o e => by
    have n : a ∉ ls := fun z => by rw [hb a z] at e; cases e
    unfold thaw
    rw [if_neg n]
    exact g.bb a o (by unfold kept; rw [if_neg n]; exact e), fun a o e => by
    unfold thaw at e
    split at e
    · cases e
    · exact g.bh a o e, g.hh, fun a e1 e2 => by
    unfold thaw at e2
    split at e2
    · exact absurd rfl e2
    · rename_i n
      exact g.nw a (by unfold kept; rw [if_neg n]; exact e1) e2⟩
theorem thaw_none {a : Addr} (h : B a = none) : thaw B ls a = none := by
  unfold thaw
  split
  · rfl
  · exact h
end
/-- xs[a:a+b] -/
theorem cut_both {xs : List PyData} {a b : Int} (ha : 0 ≤ a) (hb : 0 ≤ b) : cutD xs (some a) (some (a + b)) = (xs.drop a.toNat).take b.toNat := by
  unfold cutD
  have e1 : HT.sIx xs.length 0 (some a) = min a.toNat xs.length := by
    show (if a < 0 then (a + (xs.length : Int)).toNat else min a.toNat xs.length) = _
    rw [if_neg (by omega)]
  have e2 : HT.sIx xs.length xs.length (some (a + b)) = min (a + b).toNat xs.length := by
    show (if a + b < 0 then (a + b + (xs.length : Int)).toNat else min (a + b).toNat xs.length) = _
    rw [if_neg (by omega)]
  rw [e1, e2]
  by_cases hl : a.toNat ≤ xs.length
  · rw [Nat.min_eq_left hl]
    by_cases hl2 : (a + b).toNat ≤ xs.length
    · rw [Nat.min_eq_left hl2, show (a + b).toNat - a.toNat = b.toNat by omega]
    · rw [Nat.min_eq_right (by omega), List.take_of_length_le (by rw [List.length_drop]; omega), List.take_of_length_le (by rw [List.length_drop]; omega)]
  · have e3 : min a.toNat xs.length = xs.length := by omega
    rw [e3, List.drop_length, List.drop_of_length_le (by omega), List.take_nil, List.take_nil]
theorem LAt1.put {K : PySem.W.Frag} {B H B1 H1 : Hp} {l : Addr} {ds : List PyData} (h : LAt1 K B H l ds) {xs : List V} (hx : H1 l = some (.lst xs)) (dx : DqAll K B1 ds xs) (b1 : B1 l = none) {k : Nat} {d : PyData} {v : V} (dv : Dq K B1 d v) {es : List PyData} (e : ds.set k d = es) : LAt1 K B1 (upd H1 l (.lst (xs.set k v))) l es :=
  ⟨b1, _, upd_same, by rw [← e]; exact DqAll.set k dx dv⟩
end G

set_option Elab.async false
set_option linter.all false
set_option maxRecDepth 100000
set_option maxHeartbeats 2000000
/-! a clause `except (A, B, ..) as e` -/
namespace L2N
open PySem PySem.Spec PyProof.Rows L2
/-- a tuple's items, names of classes -/
inductive NamesL (X : Cx) : List Expr → List Value → Prop
  | nil : NamesL X [] []
  | cons {x : Str} {c : Value} {p : Pos} {es : List Expr} {cs : List Value} (hc : Names X x c) (r : NamesL X es cs) : NamesL X (.Name x p :: es) (c :: cs)
theorem names_spliced {X : Cx} {a : Addr} {q : List (Addr × Obj)} {es : List Expr} {cs : List Value} (h : NamesL X es cs) {σ : St} {H : Hp} {s : Shared} (I : Inv (X.suite a q) [] σ H s) {pos : Pos} {Q : List Value → Shared → Prop} {E : Value → Shared → Prop} (hq : Q cs s) :
    wpAny (model X.prog X.w) (X.A.mark (some (.ref a))) (spliced (backTo pos (starEach es X.env))) Q E s := by
  induction h generalizing Q with
  | nil => exact Calls.spliced_nil hq
  | @cons x c p es cs hc r ih =>
    show wpAny _ _ (spliced ((false, eval (.Name x p) X.env) :: backTo pos (starEach es X.env))) _ _ _
    refine Calls.spliced_cons ?_
    obtain ⟨hg, hdbg, hm | ⟨hm, hv, hnn⟩⟩ := hc
    · exact ld_glob (X := X.suite a q) I hg hm (ih hq) hdbg
    · exact ld_blt (X := X.suite a q) I hg hm hv (ih hq) hnn hdbg
/-- what the clause wishes of an exception of the body -/
def wAsT (K : PySem.W.Frag) (cs : List Value) (i : Nat) (ts : Addr → Value → Option Addr → TS) (Wout : WX) (D : Ends) : WX := fun cls d σ H =>
  ∃ b, PySem.W.exmAny K cls cs = some b ∧ (b = true → ∀ a, H a = none → ts a cls d { nx := fun σ' H' => D.nx (σ'.set i none) H', rt := D.rt, bk := fun σ' H' => D.bk (σ'.set i none) H', ct := fun σ' H' => D.ct (σ'.set i none) H' } (σ.set i (some (.ref a))) H) ∧
    (b = false → Wout cls d σ H)
/-- how a tuple of so many is looked through -/
def LooksT (cs : List Value) : Prop := ∀ {M : Model} {K : PySem.W.Frag} {cls : Value} {tp e : Addr} {b : Bool} {h : Heap}, K.In h → PySem.W.Looks M h (typeOf (.ref e)) cls → h.get? tp = some { cls := .type "tuple", data := .seq cs.toArray } → PySem.W.exmAny K cls cs = some b → PySem.W.Looks M h (excMatches (.ref e) (.ref tp)) b
theorem looksT2 {c1 c2 : Value} : LooksT [c1, c2] := fun X LT hp hx => PySem.W.exm_tup2 X LT hp hx
theorem looksT3 {c1 c2 c3 : Value} : LooksT [c1, c2, c3] := fun X LT hp hx => PySem.W.exm_tup3 X LT hp hx
/-- a new object beside an error in flight -/
theorem flying_push {B h : Heap} {l : List Env} {a : Addr} {Z : Obj → Prop} (o : Obj) (f : HandSPX.FlyingZ B l a Z h) : HandSPX.FlyingZ B l a Z (h.push o) := by
  have old {b u} (e : h.get? b = some u) : (h.push o).get? b = some u := Heap.get?_push_of_some o e
  rcases f with ⟨ground, apart, frames, x, vs, T, y, ts, ex, zx, dx, v1, t1, t2, eT, dT, t3⟩
  exact ⟨fun b u e => old (ground b u e), apart, frames.of_keeps fun b u e _ => ⟨u, old e, rfl⟩, x, vs, T, y, ts, old ex, zx, dx, v1, t1, t2, old eT, dT, t3⟩
/-- an error that came out of a try's body, caught: what is known of it, and of the state without it -/
structure Caught (X : Cx) (pins : List (Addr × Obj)) (σ : L2.St) (H : Hp) (B : Heap) (sI s : Shared) (a : Addr) (cls : Value) (d : Option Addr) : Prop where
  inv : Inv X pins σ H sI
  ground : ∀ b o, sI.heap.get? b = some o → b ∉ frs X.stack → B.get? b = some o
  free : H a = none
  os : s.os = sI.os
  bare : AllBare s.gens
section
variable {X : Cx} {pins : List (Addr × Obj)} {σ : L2.St} {H : Hp} {B : Heap} {sI s : Shared} {a : Addr} {cls : Value} {d : Option Addr}
/-- with a heap in which it flies, the state is one of ours -/
theorem Caught.landed (c : Caught X pins σ H B sI s a cls d) {h : Heap} (f : HandSPX.FlyingZ B X.stack a (Zn cls d) h) (up : sI.heap.UpToSlots h) : Inv X pins σ H { s with heap := h } := c.inv.landed c.ground f.1 up c.os c.bare
/-- .. and the suite's -/
theorem Caught.suite (c : Caught X pins σ H B sI s a cls d) (hs : X.stack = X.env :: X.outer) (hf : X.env.frame = some X.env.locals) {h : Heap} (f : HandSPX.FlyingZ B X.stack a (Zn cls d) h) (up : sI.heap.UpToSlots h) :
    ∃ oe, h.get? a = some oe ∧ Zn cls d oe ∧ (∃ vs, oe.data = .fields vs) ∧ Inv (X.suite a ((a, oe) :: (X.pn ++ pins))) [] σ H { s with heap := h } := by
  obtain ⟨oe, vs, at_, z, rec⟩ := f.there
  have apart : a ∉ frs X.stack := fun hm => by
    obtain ⟨_, o, e, notRec⟩ := f.2.2.1.mem hm
    cases at_.symm.trans e
    exact notRec _ rec
  rw [hs] at apart
  have own : a ≠ X.env.locals := fun e => apart (List.mem_filterMap.mpr ⟨X.env, .head _, e ▸ hf⟩)
  have others : a ∉ X.fs := fun hm => by
    obtain ⟨env, m, e⟩ := List.mem_filterMap.mp hm
    exact apart (List.mem_filterMap.mpr ⟨env, .tail _ m, e⟩)
  exact ⟨oe, at_, z, ⟨vs, rec⟩, (c.landed f up).suite at_ rec c.free own others⟩
/-- no clause took it: it goes on -/
theorem Caught.on (c : Caught X pins σ H B sI s a cls d) (hf : X.env.frame = some X.env.locals) {W : WX} (tk : Takes X W) (w : W cls d σ H) {h : Heap} (f : HandSPX.FlyingZ B X.stack a (Zn cls d) h) (up : sI.heap.UpToSlots h) {Q : Flow → Shared → Prop} :
    wpAny (model X.prog X.w) X.A (handleBy (.ref a) X.env []) Q X.xe { s with heap := h } := by
  apply wpAny_handleBy_nil
  have leaves : wpAny (model X.prog X.w) X.A (setFlight (.ref a) X.env.frame) (fun _ s4 => wpAny (model X.prog X.w) X.A (throw (.ref a) : Sem Flow) Q X.xe s4) X.xe { s with heap := h } := by
    rw [hf]
    refine HandSPX.setFlight_upZ f fun h4 held up4 => wpAny_throw ?_
    exact tk _ _ ⟨a, B, sI, pins, σ, H, cls, d, rfl, c.inv, c.ground, up.trans up4, .inr (.inr held), c.free, c.os, c.bare, w⟩
  obtain ⟨_, _, _, x, vs, T, _, _, ex, _, dx, v1, _⟩ := f
  unfold PySem.passOn
  apply wpAny_bind
  apply wpAny_field ex dx v1
  have isRef : ¬ (Value.ref T == Value.none) = true := by simp
  rw [if_neg isRef]
  first
    | exact wpAny_bind leaves
    | exact wpAny_bind (wpAny_pure (wpAny_bind leaves))
variable {n : Str} {es : List Expr} {cs : List Value} {i : Nat} {body suite : List Stmt} {b₀ : Stmt} {x1 : Nat} {tpos pos pos' : Pos} {tb : WX → TS} {ts : Addr → Value → Option Addr → TS} {Wout : WX} {D : Ends}
abbrev tupClause (n : Str) (es : List Expr) (x1 : Nat) (tpos pos' : Pos) (b₀ : Stmt) (suite : List Stmt) : ExceptHandler := .ExceptHandler (some (.Tuple es x1 tpos)) (some n) (b₀ :: suite) pos'
theorem Caught.clause (c : Caught X pins σ H B sI s a cls d) (hs : X.stack = X.env :: X.outer) (hf : X.env.frame = some X.env.locals) (hN : X.N.Nodup) (hi : X.N[i]? = some n) (hln : X.env.kindOf n = some .local) (hc : NamesL X es cs) (hT : LooksT cs) (hlen : cs.length ≤ sizeLine) (tk : Takes X Wout)
    (hsu : ∀ (a : Addr) (oe : Obj) (cls : Value) (d : Option Addr) (pn : List (Addr × Obj)), Zn cls d oe → (∃ vs, oe.data = .fields vs) → PSs (X.suite a ((a, oe) :: pn)) (b₀ :: suite) (ts a cls d))
    (wish : wAsT X.K cs i ts Wout D cls d σ H) {h : Heap} (f : HandSPX.FlyingZ B X.stack a (Zn cls d) h) (up : sI.heap.UpToSlots h) :
    wpAny (model X.prog X.w) X.A (handleBy (.ref a) X.env [tupClause n es x1 tpos pos' b₀ suite]) (SP X pins D) X.xe { s with heap := h } := by
  obtain ⟨b, match_, taken, left⟩ := wish
  obtain ⟨oe, at_, z, rec, S⟩ := c.suite hs hf f up
  refine wpAny_handleBy_cons (codeAny_handlers_test (wpAny_Tuple_spliced (names_spliced hc S ⟨hlen, ?_⟩))) (fun e => nomatch e)
  -- the tuple, new
  have f' := flying_push { cls := .type "tuple", data := .seq cs.toArray } f
  have old {b u} (e : h.get? b = some u) := Heap.get?_push_of_some { cls := .type "tuple", data := .seq cs.toArray } e
  have up' := up.trans (Heap.UpToSlots.of_keeps fun b u e => old e)
  refine (hT ((c.landed f up).kIn.keeps fun b u e => old e) (cls := cls) (fun A Q E s k q => wpAny_typeOf_ref (k _ _ (old at_)) (by rw [z.1]; exact q)) (Heap.get?_push_size _ rfl) match_).here ?_
  match b, taken, left with
  | false, _, left => exact c.on hf tk (left rfl) f' up'
  | true, taken, _ =>
    refine codeAny_handlers_suite_as (HandSPX.lands_againZ f' fun h4 f4 up4 => ?_)
    obtain ⟨oe4, _, z4, rec4, S4⟩ := c.suite hs hf f4 (up'.trans up4)
    refine store_ok (X := X.suite a ((a, oe4) :: (X.pn ++ pins))) (v := .ref a) S4 hN hi (.inl hln) rfl (fun s5 S5 => ?_) (.inr hln)
    have runs := (hsu a oe4 cls d (X.pn ++ pins) z4 rec4).run [] s5 _ H _ S5 (taken rfl a c.free)
    refine wpAny_mono runs (fun fl s6 out => ?_) fun _ _ never => never.elim
    have ok := c.inv.ok
    match fl, out with
    | .next, ⟨_, _, S6, q6⟩ => exact gone_ok (S6.unsuite ok) hN hi hln fun s7 J => ⟨_, _, J, q6⟩
    | .brk, ⟨_, _, S6, q6⟩ => exact gone_ok (S6.unsuite ok) hN hi hln fun s7 J => ⟨_, _, J, q6⟩
    | .cont, ⟨_, _, S6, q6⟩ => exact gone_ok (S6.unsuite ok) hN hi hln fun s7 J => ⟨_, _, J, q6⟩
    | .ret _, ⟨_, _, _, S6, r6, q6⟩ => exact gone_ok (S6.unsuite ok) hN hi hln fun s7 J => ⟨_, _, _, J, r6, q6⟩
/-- what is done with an error of the body -/
abbrev handed (X : Cx) (clauses : List ExceptHandler) (R : Flow → Shared → Prop) : Value → Shared → Prop := fun u s => wpAny (model X.prog X.w) X.A (noteFrame u X.env) (fun _ t => wpAny (model X.prog X.w) X.A (setFlight u none) (fun _ t => wpAny (model X.prog X.w) X.A (handleBy u X.env clauses) R X.xe t) X.xe t) X.xe s
theorem ps_try_tup (hs : X.stack = X.env :: X.outer) (hf : X.env.frame = some X.env.locals) (hN : X.N.Nodup) (hi : X.N[i]? = some n) (hln : X.env.kindOf n = some .local) (hc : NamesL X es cs) (hT : LooksT cs) (hlen : cs.length ≤ sizeLine) (tk : Takes X Wout)
    (hb : ∀ (W : WX) (pn : List (Addr × Obj)) (xe : Value → Shared → Prop), Takes (X.tr pn xe) W → PassesOwn (model X.prog X.w) X.A X.env xe → PSs (X.tr pn xe) body (tb W))
    (hsu : ∀ (a : Addr) (oe : Obj) (cls : Value) (d : Option Addr) (pn : List (Addr × Obj)), Zn cls d oe → (∃ vs, oe.data = .fields vs) → PSs (X.suite a ((a, oe) :: pn)) (b₀ :: suite) (ts a cls d)) :
    PS X (.Try body [tupClause n es x1 tpos pos' b₀ suite] [] [] pos) (fun D σ H => tb (wAsT X.K cs i ts Wout D) D σ H) where
  run pins s σ H D I h := by
    apply wpAny_Try_except
    have inner := (hb (wAsT X.K cs i ts Wout D) (X.pn ++ pins) (handed X [tupClause n es x1 tpos pos' b₀ suite] (SP X pins D)) ?takes PassesOwn.looking).run [] s σ H D (I.toTry _) h
    case takes =>
      rintro u s' ⟨a, B, sI, _, σ', H', cls, d, rfl, J, nb, up, sky, na, os, bare, wish⟩
      have c : Caught X pins σ' H' B sI s' a cls d := ⟨J.ofTry I.ok, nb, na, os, bare⟩
      have frames : X.A.frames = some (X.env :: X.outer) := I.ok.frames.trans (congrArg some hs)
      refine Sky.land Zn.steady frames hf (B := B) (by rw [← hs]; exact sky) fun h2 f2 up2 => ?_
      exact c.clause (D := D) hs hf hN hi hln hc hT hlen tk hsu wish (by rw [hs]; exact f2) (up.trans up2)
    refine wpAny_mono inner (fun fl s1 out => ?_) fun _ _ z => z
    match fl, out with
    | .next, ⟨_, _, J, q⟩ => exact wpAny_execs_nil ⟨_, _, J.ofTry I.ok, q⟩
    | .brk, ⟨_, _, J, q⟩ => exact ⟨_, _, J.ofTry I.ok, q⟩
    | .cont, ⟨_, _, J, q⟩ => exact ⟨_, _, J.ofTry I.ok, q⟩
    | .ret _, ⟨_, _, _, J, r, q⟩ => exact ⟨_, _, _, J.ofTry I.ok, r, q⟩
end
end L2N

set_option Elab.async false
set_option linter.all false
set_option maxRecDepth 100000
set_option maxHeartbeats 2000000
/-! a def run where an error is handled, that asks of this very error -/
namespace G
open PySem PySem.Spec PyProof.Rows L2 L2H
/-- what it asks of the error, by its class -/
abbrev SpC := Value → Option Addr → Hp → VK → Prop
def spOf (sc : SpC) : Addr × Obj → Sp := fun p vs H Q _ => vs = [.ref p.1] ∧ ∃ cls d, Zc cls d p.2 ∧ (∃ fs, p.2.data = .fields fs) ∧ sc cls d H Q
def tCallP (sc : SpC) (a : Addr) (cls : Value) (d : Option Addr) (t : TA) : TE := fun σ H Q => t σ H fun vs H1 => vs = [.ref a] ∧ sc cls d H1 Q
/-- all that a call finds around it, the handled error p among it -/
structure Around1 (P : Program) (w : World) (K : PySem.W.Frag) (mg : Str → Option Value) (base : Heap) (k : Nat) (A : Around) (outer : List Env) (s : Shared) (H : Hp) (p : Addr × Obj) : Prop where
  room : RoomH k A
  hot : Hot1 A p
  pin : PinOk outer H s p
  env : Env0 P w K mg base A outer s H
/-- a def's promise that may speak of the handled error -/
structure FnHp (P : Program) (w : World) (K : PySem.W.Frag) (mg : Str → Option Value) (base : Heap) (CX : CXT) (k : Nat) (f : Addr) (fd : FuncData) (ps : List Str) (sp : Addr × Obj → Sp) : Prop where
  args : ∀ {p vs H Q E}, sp p vs H Q E → vs.length = ps.length
  goes : ∀ {A outer s H p} (_ : Around1 P w K mg base k A outer s H p) {given us vs Q E}, BindsTo s fd given (ps.zip us) → Vals vs us → sp p vs H Q E → codeAny (model P w) A (.call (.ref f) given) (CR CX outer P w H s Q E) s
section
variable {CX : CXT} {P : Program} {w : World} {K : PySem.W.Frag} {mg : Str → Option Value} {base : Heap} {k : Nat} {f : Addr} {sp : Addr × Obj → Sp}
/-- how a body's end is the call's -/
theorem ends_call {N : List Str} {qual : Str} {scope : Scope} {cdv : Value} {A : Around} {outer : List Env} {s s' : Shared} {H : Hp} {Q : VK} {E : XK} {p : Addr × Obj} {fl : Flow}
    (h : SP (cxH CX P w K mg base N qual scope f cdv A outer s H E p) [] { nx := fun _ H' => Q .non H', rt := Q } fl s') : CR CX outer P w H s Q E (match fl with | .ret u => .ok (.ret u) | _ => .ok (.ret .none)) s' := by
  match fl, h with
  | .ret _, ⟨v, _, H', J, rel, q⟩ => exact ⟨v, H', J.os, J.bare, J.base, J.hok, rel, q⟩
  | .next, ⟨_, H', J, q⟩ => exact ⟨.non, H', J.os, J.bare, J.base, J.hok, rfl, q⟩
  | .brk, ⟨_, _, _, q⟩ => exact q.elim
  | .cont, ⟨_, _, _, q⟩ => exact q.elim
end
end G
namespace G
open PySem PySem.Spec PyProof.Rows L2 L2H
section
variable {CX : CXT} {P : Program} {w : World} {K : PySem.W.Frag} {mg : Str → Option Value} {base : Heap} {k : Nat} {f : Addr} {sp : Addr × Obj → Sp}
theorem FnHp.of {name qual : Str} {params : Arguments} {body : List Stmt} {scope : Scope} {dV kV doc pm cdv ct oc : Value} {an od : Option Addr} {osl : Array (Option Value)} {N ps : List Str}
    (found : K.lookup f = some ⟨oc, od, .func (PySem.W.fnOf name qual params body scope dV kV doc pm an cdv ct), osl⟩) (code : PySem.W.codeIn K cdv qual = true) (S : FnScope N ps scope) (args : ∀ {p vs H Q E}, sp p vs H Q E → vs.length = ps.length)
    (runs : ∀ (A : Around) (outer : List Env) (s : Shared) (H : Hp) (vs : List V) (Q : VK) (E : XK) (p : Addr × Obj), Hot1 A p → RoomH k (A.deeper (envOfC qual scope s.heap.objs.size f cdv)) → sp p vs H Q E →
      ∃ t, PSs (cxH CX P w K mg base N qual scope f cdv A outer s H E p) body t ∧ t { nx := fun _ H' => Q .non H', rt := Q } (L2.start N vs) H) :
    FnHp P w K mg base CX (k + 1) f (PySem.W.fnOf name qual params body scope dV kV doc pm an cdv ct) ps sp where
  args := args
  goes {A outer s H p} here {given us vs Q E} bound rel want := by
    have grown : ∀ b o, base.get? b = some o → s.heap.get? b = some o := fun b o e => (here.env.bs b o e).1
    have known := here.env.mod.kin.keeps grown
    have places : ∀ y ∈ ps.zip us, scope.names.lookup y.1 = some .local ∨ scope.names.lookup y.1 = some .cell ∧ ((cellsFrom (s.heap.objs.size + 1) scope.names []).lookup y.1).isSome = true := by
      intro y hy
      exact (S.par y.1 (List.of_mem_zip (show (y.1, y.2) ∈ ps.zip us from hy)).1).imp id fun c => ⟨c, PySem.W.cellsFrom_some _ _ _ (.inl c)⟩
    apply codeAny_call_function here.room.depth (known _ _ found) rfl S.co S.gen rfl (PySem.W.codeRec_of known code)
    apply bound
    apply wpAny_newFunctionEnv_cells S.kind places
    rintro _ rfl s1 entered
    refine ⟨(here.env.mod.nolimit.keeps grown).keeps entered.toInCall.keep, codeAny_func ?_⟩
    have ⟨t, reads, good⟩ := runs A outer s H vs Q E p here.hot (here.room.deeper _) want
    refine wpAny_mono (reads.run [] s1 _ H _ (inv_startH S here.pin here.env (args want) rel entered) good) (fun fl s' done => ?_) (fun _ _ out => out)
    have := ends_call done
    cases fl <;> first | exact this | exact (show False by obtain ⟨_, _, _, q⟩ := done; exact q).elim
end
end G
namespace G
open PySem PySem.Spec PyProof.Rows L2 L2H
/-- the context bears p as the handled error -/
structure HotP (X : Cx) (p : Addr × Obj) : Prop where
  hot : Hot1 X.A p
  mem : p ∈ X.pn
section
variable {X : Cx} {CX : CXT} {k : Nat} {f : Addr} {fd : FuncData} {ps : List Str} {E : L2.St → XK} {x : Str} {q pos : Pos} {e : Expr} {es : List Expr} {t : TA} {p : Addr × Obj}
/-- a pin is out of a call's reach -/
theorem pin_ok {pins : List (Addr × Obj)} {σ : L2.St} {H : Hp} {s : Shared} (I : Inv X pins σ H s) (h : p ∈ X.pn) : PinOk X.stack H s p := by
  have ⟨there, free, notOwn, notFr, notCell⟩ := I.pin p (List.mem_append_left _ h)
  refine ⟨there, free, fun hm => ?_, notCell⟩
  rcases List.mem_cons.mp (I.stkSub _ hm) with z | z
  · exact notOwn z
  · exact notFr z
/-- name(e), e the handled error -/
theorem pe_callHp {sc : SpC} {a : Addr} {oe : Obj} {cls : Value} {d : Option Addr} (F : FnHp X.prog X.w X.K X.mg X.base CX k f fd ps (spOf sc)) (hr : RoomH k X.A) (hc : HotP X (a, oe)) (hz : Zc cls d oe) (hf : ∃ fs, oe.data = .fields fs) (hg : Gl X x) (hm : X.mg x = some (.ref f)) (hk : PySem.W.keepIn X.K (.ref f) = true) (hb : Binds X.K fd ps []) (hx : ∀ σ, PassesAt CX X σ (E σ))
    (ha : PA X (e :: es) t) (hdb : (x == ("__debug__" : Str)) = false := by decide) (he : starEach (e :: es) X.env = (false, eval e X.env) :: starEach es X.env := by rfl) (hpl : (backTo pos (starEach es X.env)).any (·.1) = false := by rfl) :
    PE X (.Call (.Name x q) (e :: es) [] pos) (tCallP sc a cls d t) where
  run pins s σ H Q I h := by
    apply wpAny_Call_Name_kw
    refine ld_glob I hg hm ?_ hdb
    have given := ha.run pos pins s σ H _ I h
    refine PySem.W.callWith_K (h₀ := X.base) I.ok.mod.kin hk (wpAny_mono given (fun us s1 => ?_) fun _ _ z => z) he hpl
    rintro ⟨_, H1, J, rel, rfl, good⟩
    refine ⟨J.kIn, ?_⟩
    have want : spOf sc (a, oe) [.ref a] H1 Q (E σ) := ⟨rfl, cls, d, hz, hf, good⟩
    have many : us.length = (ps ++ []).length := by rw [← rel.length, F.args want, List.append_nil]
    have bound := hb s1 us J.kIn (by simpa using many)
    rw [List.append_nil] at bound
    have around : Around1 X.prog X.w X.K X.mg X.base k X.A X.stack s1 H1 (a, oe) := ⟨hr, hc.hot, pin_ok J hc.mem, J.env0⟩
    refine wpAny_call (codeAny_mono (F.goes around (given := ⟨us, []⟩) bound rel want) fun res s' z => ?_)
    match res, z with
    | .ok (.ret _), z => exact J.after z
    | .error _, z => exact hx σ pins H1 s1 _ s' J z
/-- isinstance(e, c), e the handled error -/
theorem call_isP {cls : Value} {d : Option Addr} (hp : p ∈ X.pn) (hz : Zc cls d p.2) (hf : ∃ vs, p.2.data = .fields vs) : CallR X (.builtin "isinstance") (rIsX X.K p.1 cls d) := by
  rintro pins s σ H _ us Q I rel ⟨D, rfl, rfl, C, c, cv, b, rfl, same, asked, good⟩
  match us, rel with
  | _, .cons r0 (.cons r1 .nil) =>
    obtain rfl := same _ r1
    obtain rfl := (show _ = Value.ref p.1 from r0)
    obtain ⟨fs, isRec⟩ := hf
    have inst : PySem.W.InstAt s.heap p.1 p.2 D none := by
      have there := (pin_ok I hp).get
      revert there hz isRec
      rcases p with ⟨a, ⟨oc, od, dt, sl⟩⟩
      rintro ⟨z1, z2⟩ z3 there
      cases z1
      cases z2
      cases z3
      exact ⟨there, rfl, rfl, trivial⟩
    have looks := PySem.W.handS_kitx_exc (x := p.1) (ox := p.2) C.hg C.hk C.hs C.hd C.ha C.hn C.ht C.hm
    exact PySem.W.kia_one looks I.kIn inst asked (fun z => nomatch z) fun tk => ⟨.bl b, H, I.kept (t' := tk) fun _ _ z => z, rfl, good⟩
end
structure CalleeP (P : Program) (w : World) (K : PySem.W.Frag) (mg : Str → Option Value) (base : Heap) (CX : CXT) (k : Nat) (x : Str) (ps : List Str) (sp : SpC) (f : Addr) (fd : FuncData) : Prop where
  G : FnHp P w K mg base CX k f fd ps (spOf sp)
  kp : PySem.W.keepIn K (.ref f) = true
  b : Binds K fd ps []
  g : mg x = some (.ref f)
theorem DefAt.okP {P : Program} {w : World} {K : PySem.W.Frag} {mg : Str → Option Value} {base : Heap} {x : Str} {st : Stmt} {ps N : List Str} {f : Addr} {fd : FuncData} {k : Nat} {CX : CXT} {sp : SpC} (D : DefAt K mg x st ps f fd) (S : FnScope N ps (defScope st)) (len : 1 = ps.length)
    (hbody : ∀ (cdv : Value) (A : Around) (outer : List Env) (s : Shared) (H : Hp) (Q : VK) (E : XK) (p : Addr × Obj) (cls : Value) (d : Option Addr), L2H.Hot1 A p → Zc cls d p.2 → (∃ fs, p.2.data = .fields fs) → L2H.RoomH k (A.deeper (PyProof.Rows.envOfC x (defScope st) s.heap.objs.size f cdv)) → sp cls d H Q →
      ∃ t, PSs (L2H.cxH CX P w K mg base N x (defScope st) f cdv A outer s H E p) (defBody st) t ∧ t { nx := fun _ H' => Q .non H', rt := Q } (start N [.ref p.1]) H) : CalleeP P w K mg base CX (k + 1) x ps sp f fd where
  G := by
    have ⟨_, _, _, _, _, _, cdv, _, _, same, found, code⟩ := D.F.ex
    subst same
    refine FnHp.of found code S (fun {p vs H Q E} h => h.1 ▸ len) ?_
    rintro A outer s H _ Q E p hot room ⟨rfl, cls, d, hz, hf, want⟩
    exact hbody cdv A outer s H Q E p cls d hot hz hf room want
  kp := D.F.kp
  b := D.b
  g := D.g
end G

set_option Elab.async false
set_option linter.all false
set_option maxRecDepth 100000
set_option maxHeartbeats 2000000
/-! a list comprehension that an error may leave -/
namespace L2N
open PySem PySem.Spec PyProof.Rows L2
/-- a comprehension's end: what an error asks names the block's own activation -/
def compPostX (M : Model) (A : Around) (E : Value → Shared → Prop) (use : Option (Value → Sem Unit)) (Q : Value → Shared → Prop) (acc : Value) (cenv : Env) (r : Result) (s' : Shared) : Prop :=
  match r with
  | .ok f => compPost M A E use Q acc cenv.locals (.ok f) s'
  | .error x => ∃ m, s'.heap.Ns cenv.locals m ∧ ∀ h', Heap.SameBut cenv.locals s'.heap h' → wpAny M A (passOn "comprehension.variables-let-go" x cenv : Sem Value) (fun _ _ => False) E { s' with heap := h' }
theorem comp_rule {M : Model} {A : Around} {E : Value → Shared → Prop} {s : Shared} {env : Env} {e : Expr} {scope : Scope} {pos : Pos} {newAcc first : Sem Value} {g : Comprehension} {gs : List Comprehension} {cl : List (Str × Addr)} {use : Option (Value → Sem Unit)} {Q : Value → Shared → Prop}
    (one : clausesOf e = g :: gs) (plain : ∀ x, foldedSetIterable g.iter env x = pure x) (closure : closureFor scope env = pure cl) (isFn : scope.kind = .function) (locals : ∀ x ∈ scope.names, x.2 = .local → scope.names.lookup x.1 = some .local)
    (h : wpAny M A first (fun x s₁ => wpAny M A (pyIter x) (fun it s₂ => wpAny M A newAcc (fun acc s₃ => wpAny M A (newFunctionEnv scope env.globals cl [] env.qual none .none (some env))
      (fun cenv s₄ => codeAny M A (.compStart e 0 it acc { cenv with scope := relabel scope env }) (compPostX M A E use Q acc { cenv with scope := relabel scope env }) s₄) E s₃) E s₂) E s₁) E s) :
    wpAny M A (comprehension e scope env pos newAcc false first use) Q E s := by
  have same : ∀ (x : Value) (t : Shared), E x t → E x t := fun _ _ z => z
  unfold comprehension
  rw [closure, one]
  refine wpAny_bind (wpAny_mono h (fun x s1 h1 => ?_) same)
  refine wpAny_bind (wpAny_standAt (wpAny_bind (wpAny_of_eq (plain x) (wpAny_bind (wpAny_holding (wpAny_mono h1 (fun it s2 h2 => ?_) same))))))
  refine wpAny_standIf (wpAny_bind (wpAny_mono h2 (fun acc s3 h3 => ?_) same))
  refine wpAny_bind (wpAny_pure (wpAny_bind (wpAny_mono h3 (fun cenv s4 h4 => ?_) same)))
  dsimp only
  have kinds {l : List (Str × NameKind)} (sub : ∀ x ∈ l, x ∈ scope.names) : ∀ x ∈ l, x.2 = .local → Env.kindOf { cenv with scope := relabel scope env } x.1 = some .local := fun x m loc => lookup_relabel_local (locals x (sub x m) loc)
  have own {q : Str × NameKind → Bool} : ∀ x ∈ (scope.names.filter q).reverse, x ∈ scope.names := fun x m => (List.mem_filter.mp (List.mem_reverse.mp m)).1
  refine wpAny_holding (wpAny_bind (wpAny_attempt (wpAny_holding (wpAny_run (codeAny_mono h4 fun res s' post => ?_)))))
  match res, use, post with
  | .error x, use, ⟨m, ns, on⟩ =>
    exact wpAny_bind (wpAny_holding (wpAny_comp_letGo (cenv := { cenv with scope := relabel scope env }) isFn _ s' m (kinds own) ns fun h' _ _ sb => wpAny_mono (on h' sb) (fun _ _ no => no.elim) same))
  | .ok _, none, ⟨m, ns, on⟩ => exact wpAny_bind (wpAny_holding (wpAny_comp_letGo (cenv := { cenv with scope := relabel scope env }) isFn _ s' m (kinds own) ns fun h' _ _ sb => wpAny_pure (on h' sb)))
  | .ok _, some u, post =>
    refine wpAny_bind (wpAny_rule (wpAny_bind (wpAny_holding (wpAny_mono post (fun _ s2 rest => ?_) same))))
    obtain ⟨m, ns, on⟩ := rest
    refine wpAny_bind (wpAny_comp_letGo (cenv := { cenv with scope := relabel scope env }) isFn _ s2 m (kinds fun x mem => ?_) ns fun h' _ _ sb => wpAny_pure (on h' sb))
    rcases List.mem_append.mp mem with z | z
    · exact own x (List.mem_of_mem_drop z)
    · exact own x (List.mem_of_mem_take z)
theorem funFrames_on {B h h' : Heap} : ∀ {l : List Env}, (∀ b ∈ frs l, h'.get? b = h.get? b) → h.FunFrames B l → h'.FunFrames B l
  | [], _, _ => trivial
  | env :: l, k, h => by
    obtain ⟨hk, ⟨L, o, hf, h1, ho, hd⟩, hr⟩ := h
    exact ⟨hk, ⟨L, o, hf, h1, (k L (List.mem_filterMap.mpr ⟨env, List.mem_cons_self, hf⟩)).trans ho, hd⟩, funFrames_on (fun b hb => by
      obtain ⟨e, he, q⟩ := List.mem_filterMap.mp hb
      exact k b (List.mem_filterMap.mpr ⟨e, List.mem_cons_of_mem _ he, q⟩)) hr⟩
section
variable {X : Cx}
/-- an error in flight, seen from our air: what a call's end is to be turned into (to be shown: of_callF) -/
def Flown (X : Cx) (E : XK) (pins : List (Addr × Obj)) (σ : St) (u : Value) (s' : Shared) : Prop :=
    ∃ (a : Addr) (B : Heap) (sI : Shared) (H' : Hp) (cls : Value) (d : Option Addr), u = .ref a ∧ Inv X pins σ H' sI ∧ (∀ b o, sI.heap.get? b = some o → b ∉ frs X.stack → B.get? b = some o) ∧ sI.heap.UpToSlots s'.heap ∧
      HandSPX.FlyingZ B X.stack a (Zn cls d) s'.heap ∧ H' a = none ∧ s'.os = sI.os ∧ AllBare s'.gens ∧ E cls d H'
theorem flown {pins : List (Addr × Obj)} {σ : St} {H : Hp} {s : Shared} {E : XK} (I : Inv X pins σ H s) {u : Value} {s' : Shared} (c : CX X.prog X.w X.stack H s E u s') : Flown X E pins σ u s' := by
  rcases c with ⟨a, B, H', cls, d, rfl, fl, tracked, un, free, os, bare, good⟩
  -- what the ground or a caller's frame holds, as it stands now
  obtain ⟨G, stays, gone⟩ := restrict s'.heap fun b => (B.get? b).isSome || decide (b ∈ frs X.stack)
  have held {b o} (e : G.get? b = some o) : ((B.get? b).isSome || decide (b ∈ frs X.stack)) = true := by
    apply Decidable.byContradiction
    intro no
    rw [gone b (Bool.eq_false_iff.mpr no)] at e
    cases e
  have now {b o} (e : G.get? b = some o) : s'.heap.get? b = some o := by rw [← stays b (held e), e]
  have below {b o} (e : B.get? b = some o) : G.get? b = some o := by rw [stays b (by rw [e]; rfl), fl.1 b o e]
  have frame {b} (m : b ∈ frs X.stack) : G.get? b = s'.heap.get? b := stays b (by rw [decide_eq_true m, Bool.or_true])
  refine ⟨a, B, { s with heap := G, gens := s'.gens, drawn := s'.drawn, toks := s'.toks }, H', cls, d, rfl, ?inv, ?ground, .of_keeps fun b o => now, fl, free, os, bare, good⟩
  case ground =>
    intro b o e apart
    rcases Bool.or_eq_true_iff.mp (held e) with z | z
    · have ⟨o', q⟩ := Option.isSome_iff_exists.mp z
      rw [q, ← below q, e]
    · exact absurd (of_decide_eq_true z) apart
  case inv =>
    refine I.call (ch := []) ⟨?_, ?_, fun b o e n _ => un.free b o e n, ?_, un.tups, un.frzs, un.tbls⟩ (tracked.kept fun b o => below) bare (fun _ z => nomatch z)
    · exact fun b o e n apart _ => below (un.keep b o e n apart)
    · exact fun b o e _ m _ => (un.slot b o e m).imp fun sl q => (frame m).trans q
    · intro b o e _
      by_cases m : b ∈ frs X.stack
      · exact (un.slot b o e m).elim fun sl q => ⟨_, (frame m).trans q⟩
      · exact (un.there b o e m).imp fun o' q => below q
/-- an error leaves the block -/
theorem blk_out {pins pins' : List (Addr × Obj)} {σ σ' : St} {H3 : Hp} {s3 s'' : Shared} {E : XK} {scope : Scope} {ce : Env} {fp : List Addr} {pn : List (Addr × Obj)} {xe : Value → Shared → Prop} {e : Value} {use : Option (Value → Sem Unit)} {Qf : Value → Shared → Prop} {acc : Value}
    (hs : X.stack = X.env :: X.outer) (hf : X.env.frame = some X.env.locals) (tk : Takes X (fun cls d _ H => E cls d H)) (I3 : Inv X pins σ H3 s3) (f3 : ∀ b ∈ fp, FpOk X pins H3 b ∧ b < s3.heap.objs.size) (cL : ce.locals = s3.heap.objs.size) (cF : ce.frame = X.env.frame)
    (c : Flown ((X.blk s3 H3 scope ce fp).tr pn xe) E pins' σ' e s'') :
    notedBy (model X.prog X.w) X.A ce (fun e s' => compPostX (model X.prog X.w) X.A X.xe use Qf acc ce (.error e) s') e s'' := by
  obtain ⟨a, B, sI, H2, cls, d, rfl, Is, nb, up, fl, na, os, ag, w⟩ := c
  have hfr : X.A.frames = some (X.env :: X.outer) := by rw [I3.ok.frames, hs]
  have nb : ∀ b o, sI.heap.get? b = some o → b ∉ frs X.stack → B.get? b = some o := nb
  have fl : HandSPX.FlyingZ B X.stack a (Zn cls d) s''.heap := fl
  have en : noteFrame (.ref a) ce = noteFrame (.ref a) X.env := by
    unfold noteFrame PySem.frameOf
    rw [cF]
  unfold notedBy
  rw [en]
  refine PXN.looks_onZ Zn.steady hfr hf (by rw [← hs]; exact fl) fun h2 hh up2 => ?_
  -- the block's own names
  generalize hC : s3.heap.objs.size = C at cL
  have nC : H2 C = none := by rw [← cL]; exact Is.free
  have fC : FpOk X pins H2 C := I3.fpOk (by rw [hC]; exact Nat.le_refl _) nC
  obtain ⟨m, hn, _⟩ := Is.loc
  have hn : sI.heap.Ns C m := by rw [← cL]; exact hn
  obtain ⟨oC, es, ep, hoC, hdC, hrC⟩ := hn
  have nfr : C ∉ frs X.stack := fun hm => (List.mem_cons.mp (I3.stkSub C hm)).elim fC.2.1 fC.2.2.1
  have hBC := nb C oC hoC nfr
  have h2C := hh.1 C oC hBC
  refine ⟨m, ⟨oC, es, ep, by rw [cL]; exact h2C, hdC, hrC⟩, fun h' sb => ?_⟩
  rw [cL] at sb
  -- X's own state
  have I7 : Inv X pins σ H2 sI := I3.call' (ch := fp) Is.os Is.base Is.hok Is.bare fun b hb => ⟨(f3 b hb).1.2.2.2.1, (f3 b hb).1.2.1, (f3 b hb).1.2.2.2.2.1, (f3 b hb).1.2.2.2.2.2⟩
  obtain ⟨G, g1, g2⟩ := restrict sI.heap fun b => decide (b ≠ C)
  obtain ⟨B', b1, b2⟩ := restrict B fun b => decide (b ≠ C)
  have g1 : ∀ b, b ≠ C → G.get? b = sI.heap.get? b := fun b h => g1 b (decide_eq_true h)
  have g2 : G.get? C = none := g2 C (decide_eq_false fun z => z rfl)
  have b1 : ∀ b, b ≠ C → B'.get? b = B.get? b := fun b h => b1 b (decide_eq_true h)
  have b2 : B'.get? C = none := b2 C (decide_eq_false fun z => z rfl)
  have I8 : Inv X pins σ H2 { sI with heap := G } := I7.turned (t' := sI.toks) (it := C) (fun b o hb e => (g1 b hb).trans e) nC fC.2.1 fC.2.2.2.1 fC.2.2.2.2.1 fC.2.2.2.2.2
  have bB : ∀ b o, B'.get? b = some o → b ≠ C ∧ B.get? b = some o := fun b o e => by
    by_cases z : b = C
    · rw [z, b2] at e; cases e
    · exact ⟨z, by rw [← b1 b z]; exact e⟩
  obtain ⟨k1, k2, k3, oe, vs, T, oT, ts, he, hz, hd, h1, t1, t2, t3, t4, t5⟩ := hh
  have aC : a ≠ C := fun z => by rw [z, h2C] at he; cases he; rw [hdC] at hd; cases hd
  have TC : T ≠ C := fun z => by rw [z, h2C] at t3; cases t3; rw [hdC] at t4; cases t4
  have st' : B'.StaysIn h' := fun b o e => by
    obtain ⟨z, e'⟩ := bB b o e
    exact (sb.2 b z).trans (k1 b o e')
  have ba' : B'.get? a = none := by rw [b1 a aC]; exact k2
  have ff' : h'.FunFrames B' (X.env :: X.outer) := by
    refine funFrames_on (h := h2) (fun b hb => sb.2 b fun z => nfr (by rw [hs, ← z]; exact hb)) (funFrames_none k3 fun b hb => ?_)
    rw [b1 b fun z => nfr (by rw [hs, ← z]; exact hb)]
    obtain ⟨h0, _⟩ := k3.mem hb
    exact h0
  have tr' : HandSPX.TracedZ h' B' a (Zn cls d) (rawInt X.env.locals) := ⟨oe, vs, T, oT, ts, (sb.2 a aC).trans he, hz, hd, h1, by rw [b1 T TC]; exact t1, t2, (sb.2 T TC).trans t3, t4, t5⟩
  have up' : G.UpToSlots h' := fun b o e hnf => by
    by_cases z : b = C
    · rw [z, g2] at e; cases e
    · rw [g1 b z] at e
      obtain ⟨sl, e2⟩ := (up.trans up2) b o e hnf
      exact ⟨sl, (sb.2 b z).trans e2⟩
  unfold PySem.passOn
  refine wpAny_bind (wpAny_field ((sb.2 a aC).trans he) hd h1 ?_)
  rw [if_neg (show ¬ ((Value.ref T == Value.none) = true) from by simp)]
  have fin : wpAny (model X.prog X.w) X.A (setFlight (.ref a) ce.frame) (fun _ s4 => wpAny (model X.prog X.w) X.A (throw (.ref a) : Sem Value) (fun _ _ => False) X.xe s4) X.xe { s'' with heap := h' } := by
    rw [cF, hf]
    refine HandSPX.setFlight_anyZ st' ff' tr' fun h4 x1 x2 x3 x4 => wpAny_throw (tk _ _ ?_)
    refine ⟨a, B', { sI with heap := G }, pins, σ, H2, cls, d, rfl, I8, fun b o e hb => ?_, up'.trans x4, .inr (.inr (by rw [hs]; exact ⟨x1, ba', x2, x3⟩)), na, os, ag, w⟩
    by_cases z : b = C
    · rw [z] at e
      have e : G.get? C = some o := e
      rw [g2] at e; cases e
    · rw [b1 b z]
      have e : G.get? b = some o := e
      rw [g1 b z] at e
      exact nb b o e hb
  first
    | exact wpAny_bind (wpAny_pure (wpAny_bind fin))
    | exact wpAny_bind fin
/-- what may leave the element's calls -/
abbrev BlkPass (X Xb : Cx) (E : XK) : Prop := ∀ (pins : List (Addr × Obj)) (σ : St) (H : Hp) (s : Shared) (e : Value) (s' : Shared), Inv Xb pins σ H s → CX X.prog X.w X.stack H s E e s' → Xb.xe e s'
section
variable {pins : List (Addr × Obj)} {σ σ' : St} {H3 H' : Hp} {s3 s' : Shared} {scope : Scope} {ce : Env} {fp : List Addr}
/-- out of the block, in the def's own context again -/
theorem blk_back (I3 : Inv X pins σ H3 s3) (walkers : ∀ b ∈ fp, FpOk X pins H3 b ∧ b < s3.heap.objs.size) (cL : ce.locals = s3.heap.objs.size) (J : Inv (X.blk s3 H3 scope ce fp) [] σ' H' s') :
    Inv X pins σ H' s' ∧ (∃ m, s'.heap.Ns ce.locals m) ∧ FpOk X pins H' ce.locals := by
  refine ⟨I3.call' (ch := fp) J.os J.base J.hok J.bare fun b m => ?_, J.loc.imp fun m h => h.1, ?_⟩
  · have ⟨_, own, _, new, cells, pinned⟩ := (walkers b m).1
    exact ⟨new, own, cells, pinned⟩
  · exact I3.fpOk (by rw [cL]; exact Nat.le_refl _) J.free
/-- the iterator's objects, seen from the block -/
theorem blk_walkers (J : Inv (X.blk s3 H3 scope ce fp) [] σ' H' s') (free : ∀ b ∈ fp, H' b = none) : ∀ b ∈ fp, FpOk (X.blk s3 H3 scope ce fp) [] H' b := by
  intro b m
  have ⟨notOwn, notCell⟩ := J.ok.exf b m
  exact ⟨free b m, notOwn, J.ok.exfs b m, .inl m, notCell, fun p none_ => by cases none_⟩
/-- a turn is over: the iterator stands for the next one -/
theorem blk_turn {K : PySem.W.Frag} {tg : Expr} {It1 : It} {it : Addr} {tn : Nat → Heap → Prop} {vs : List Nat} {i : Nat} {h7 : Heap} (T : Turn X.prog X.w K tg It1 fp it tn) (st : tn i h7) (e : wipe σ' vs = wipe σ vs)
    (J : Inv (X.blk s3 H3 scope ce fp) ([] ++ pinsAt fp h7) σ' H' s') : Inv (X.blk s3 H3 scope ce fp) [] (wipe σ vs) H' s' ∧ tn i s'.heap ∧ ∀ b ∈ fp, H' b = none := by
  have kept {b : Addr} {o : Obj} (m : b ∈ fp) (at_ : h7.get? b = some o) : s'.heap.get? b = some o ∧ H' b = none := by
    have ⟨x, y, _⟩ := J.pin (b, o) (List.mem_append.mpr (.inr (List.mem_append.mpr (.inr (mem_pinsAt m at_)))))
    exact ⟨x, y⟩
  refine ⟨?_, T.keep i h7 s'.heap st fun b m o at_ => (kept m at_).1, fun b m => ?_⟩
  · have len : (wipe σ vs).length = σ'.length := by rw [← e]; exact wipe_length σ' vs
    exact (Inv.unpinned (pins := []) J).weak len fun j v some_ => (wipe_some (e ▸ some_)).1
  · have ⟨o, at_, _⟩ := T.obj i h7 st b m
    exact (kept m at_).2
end
/-- the comprehension, its element's errors let out -/
theorem lc_out {pins : List (Addr × Obj)} {s : Shared} {σ : St} {H : Hp} {Q : VK} {E : XK} {elt tg iter : Expr} {ifs : List Expr} {scope : Scope} {own : List (Str × Nat)} {pos pos' : Pos} {wi : TI} {g : TG} {tt : TT} {te : TE} {use : Option (Value → Sem Unit)} {Qf : Value → Shared → Prop}
    (hst : X.stack = X.env :: X.outer) (hf : X.env.frame = some X.env.locals) (tk : Takes X (fun cls d _ H => E cls d H)) (hc : X.calm = true) (hN : X.N.Nodup) (I : Inv X pins σ H s) (hi : PI X tg iter wi) (ok : BlkOk X.N X.env.scope scope own)
    (hg : ∀ s H C cl fp, PG (X.blk s H scope (compEnvC scope cl C X.env) fp) tg g) (ht : ∀ s H C cl fp, PTs (X.blk s H scope (compEnvC scope cl C X.env) fp) ifs tt)
    (he : ∀ s H C cl fp pn xe, BlkPass X ((X.blk s H scope (compEnvC scope cl C X.env) fp).tr pn xe) E → PE ((X.blk s H scope (compEnvC scope cl C X.env) fp).tr pn xe) elt te) (hs : ∀ x, foldedSetIterable iter X.env x = pure x) (h : tLc wi g tt te (own.map (·.2)) σ H Q)
    (finish : ∀ D C s' m H', Inv X pins σ H' s' → Q (.ref D) H' → s'.heap.Ns C m → FpOk X pins H' C → compPost (model X.prog X.w) X.A X.xe use Qf (.ref D) C (.ok .next) s') :
    wpAny (model X.prog X.w) X.A (comprehension (.ListComp elt [⟨tg, iter, ifs, 0⟩] scope pos) scope X.env pos' (newList []) false (eval iter X.env) use) Qf X.xe s := by
  have closed : ∀ y ∈ scope.names, y.2 = .free → ∃ c, X.env.cells.lookup y.1 = some c := fun y m e => (ok.free y m e).elim (fun k => I.ok.has _ (.inl k)) fun k => I.ok.has _ (.inr k)
  refine comp_rule (use := use) rfl hs (closure_ok closed) ok.kind (fun y m e => by rw [ok.uniq y m, e]) (thn (hi.run pins s σ H _ I h) fun _ _ hx => thn hx fun _ s2 found => ?_)
  obtain ⟨it, fp, tn, It1, H2, rfl, I2, T, st, free, q⟩ := found
  refine wpAny_newObj_type (newEnv_comp ?_) (Nat.zero_le _)
  obtain ⟨W, ⟨m0, w0⟩, turn⟩ := q s2.heap.objs.size (I2.hok.fresh (Nat.le_refl _))
  have I3 : Inv X pins σ (upd H2 s2.heap.objs.size (.lst [])) { s2 with heap := s2.heap.push { cls := .type "list", data := .seq ([] : List Value).toArray } } := I2.laid (t' := s2.toks) (fun b o e => Heap.get?_push_of_some _ e) (Nat.le_refl _) ⟨Nat.zero_le _, [], 0, .nil, Heap.get?_push_size _ rfl⟩
  have st3 : tn 0 (s2.heap.push { cls := .type "list", data := .seq ([] : List Value).toArray }) := T.keep _ _ _ st fun b _ o e => Heap.get?_push_of_some _ e
  have walkers : ∀ b ∈ fp, FpOk X pins (upd H2 s2.heap.objs.size (.lst [])) b ∧ b < (s2.heap.push { cls := .type "list", data := .seq ([] : List Value).toArray }).objs.size := fun b m => by
    have ⟨o, at_, _⟩ := T.obj 0 _ st b m
    have lt := Heap.lt_size at_
    exact ⟨⟨(upd_ne (Nat.ne_of_lt lt)).trans (free b m).1, (free b m).2⟩, by rw [Heap.size_push]; exact Nat.lt_succ_of_lt lt⟩
  generalize s2.heap.objs.size = D at *
  generalize upd H2 D (.lst []) = H3 at *
  generalize e3 : ({ s2 with heap := s2.heap.push { cls := .type "list", data := .seq ([] : List Value).toArray } } : Shared) = s3 at *
  have h3 : s2.heap.push { cls := .type "list", data := .seq ([] : List Value).toArray } = s3.heap := by rw [← e3]
  rw [h3] at st3 walkers
  have I4 := block_start I3 ok hN walkers
  have pg := hg s3 H3 s3.heap.objs.size (cellsFrom (s3.heap.objs.size + 1) scope.names (cloFrom X.env.cells scope.names [])) fp
  have pt := ht s3 H3 s3.heap.objs.size (cellsFrom (s3.heap.objs.size + 1) scope.names (cloFrom X.env.cells scope.names [])) fp
  have pe := he s3 H3 s3.heap.objs.size (cellsFrom (s3.heap.objs.size + 1) scope.names (cloFrom X.env.cells scope.names [])) fp
  change codeAny _ _ (.compStart _ 0 (.ref it) (.ref D) (compEnvC scope (cellsFrom (s3.heap.objs.size + 1) scope.names (cloFrom X.env.cells scope.names [])) s3.heap.objs.size X.env)) (compPostX _ _ _ use Qf (.ref D) (compEnvC scope (cellsFrom (s3.heap.objs.size + 1) scope.names (cloFrom X.env.cells scope.names [])) s3.heap.objs.size X.env)) _
  generalize ec : compEnvC scope (cellsFrom (s3.heap.objs.size + 1) scope.names (cloFrom X.env.cells scope.names [])) s3.heap.objs.size X.env = ce at *
  have cL : ce.locals = s3.heap.objs.size := by rw [← ec]; rfl
  have cF : ce.frame = X.env.frame := by rw [← ec]; rfl
  have st4 := T.keep 0 _ (pushCells (s3.heap.push { cls := .type "dict", data := .dict #[] }) scope.names) st3 fun b _ o e => pushCells_keeps _ _ _ _ (Heap.get?_push_of_some _ e)
  suffices loop : codeAny (model X.prog X.w) X.A (.compLoop (.ListComp elt [⟨tg, iter, ifs, 0⟩] scope pos) 0 (.ref it) (.ref D) ce) (compPostX (model X.prog X.w) X.A X.xe use Qf (.ref D) ce) { s3 with heap := pushCells (s3.heap.push { cls := .type "dict", data := .dict #[] }) scope.names } from codeAny_compStart_list loop (T.self X.A 0 _ _ _ st4 loop)
  refine compLoop_any (fun m s' => ∃ i H', Inv (X.blk s3 H3 scope ce fp) [] (wipe σ (own.map (·.2))) H' s' ∧ tn i s'.heap ∧ (∀ b ∈ fp, H' b = none) ∧ W i m H') ?_ m0 ⟨0, H3, I4, st4, fun b m => (walkers b m).1.1, w0⟩
  rintro m s5 ⟨i, H5, I5, st5, free5, w5⟩
  have walk5 := blk_walkers I5 free5
  rcases turn i m H5 w5 with ⟨stop, over⟩ | ⟨go, Nx, onward, step⟩
  · refine thnF (T.done (X.blk s3 H3 scope ce fp) rfl rfl rfl hc i [] s5 _ H5 (fun _ _ => False) I5 walk5 st5 stop) ?_
    rintro _ s6 ⟨rfl, I6⟩
    have ⟨J, ⟨m6, ns⟩, out⟩ := blk_back I3 walkers cL I6
    exact finish D ce.locals s6 m6 H5 J over ns out
  · refine thnF (T.item (X.blk s3 H3 scope ce fp) rfl rfl rfl hc i [] s5 _ H5 (fun _ _ => False) I5 walk5 st5 go) ?_
    rintro _ s6 ⟨u, rfl, item⟩
    refine thnF item ?_
    rintro _ s7 ⟨x, H7, I7, r7, y7, st7, free7⟩
    have P7 := I7.pinned (blk_walkers I7 free7) (T.obj _ _ st7)
    refine thnF (pg.run _ s7 _ H7 x u _ P7 r7 (step x H7 y7)) ?_
    rintro _ s8 ⟨σ8, H8, I8, same8, q8⟩
    refine thnF (pt.run _ s8 σ8 H8 _ I8 q8) ?_
    rintro b s9 ⟨H9, I9, q9⟩
    have again {t : Shared} {Ht : Hp} (J : Inv (X.blk s3 H3 scope ce fp) ([] ++ pinsAt fp s7.heap) σ8 Ht t) (nx : Nx Ht) : ∃ k, k < m ∧ ∃ i H', Inv (X.blk s3 H3 scope ce fp) [] (wipe σ (own.map (·.2))) H' t ∧ tn i t.heap ∧ (∀ b ∈ fp, H' b = none) ∧ W i k H' := by
      have ⟨k, less, w⟩ := onward Ht nx
      have ⟨J1, J2, J3⟩ := blk_turn T st7 same8 J
      exact ⟨k, less, i + 1, Ht, J1, J2, J3, w⟩
    cases b with
    | false => exact again I9 (by simpa using q9)
    | true =>
      rw [if_pos rfl] at q9 ⊢
      have outs := pe ((X.blk s3 H3 scope ce fp).pn ++ ([] ++ pinsAt fp s7.heap)) (notedBy (model X.prog X.w) X.A ce fun e s' => compPostX (model X.prog X.w) X.A X.xe use Qf (.ref D) ce (.error e) s') fun _ _ _ _ _ _ Ib c => blk_out hst hf tk I3 walkers cL cF (flown (X := (X.blk s3 H3 scope ce fp).tr _ _) Ib c)
      refine wpAny_mono (outs.run [] s9 σ8 H9 _ (I9.toTry _) q9) ?_ fun _ _ z => z
      rintro z s10 ⟨y, H10, I10, r10, acc, hD, room, nx⟩
      exact thnF (app_ok (X := X.blk s3 H3 scope ce fp) (E := fun _ _ => False) (I10.ofTry I9.ok) hD room r10 fun s11 I11 => again I11 nx) fun _ _ z => z
/-- y = [..], its element's errors let out -/
theorem ps_setLcX {i : Nat} {y : Str} {py : Pos} {E : XK} {elt tg iter : Expr} {ifs : List Expr} {scope : Scope} {own : List (Str × Nat)} {pos spos : Pos} {wi : TI} {g : TG} {tt : TT} {te : TE} (hst : X.stack = X.env :: X.outer) (hf : X.env.frame = some X.env.locals) (tk : Takes X (fun cls d _ H => E cls d H))
    (hc : X.calm = true) (hN : X.N.Nodup) (hy : X.N[i]? = some y) (hyl : X.env.scope.names.lookup y = some .local) (hsw : swapsWith (.ListComp elt [⟨tg, iter, ifs, 0⟩] scope pos) (some (.Name y py)) spos.line X.env = pure true) (hi : PI X tg iter wi) (ok : BlkOk X.N X.env.scope scope own)
    (hg : ∀ s H C cl fp, PG (X.blk s H scope (compEnvC scope cl C X.env) fp) tg g) (ht : ∀ s H C cl fp, PTs (X.blk s H scope (compEnvC scope cl C X.env) fp) ifs tt)
    (he : ∀ s H C cl fp pn xe, BlkPass X ((X.blk s H scope (compEnvC scope cl C X.env) fp).tr pn xe) E → PE ((X.blk s H scope (compEnvC scope cl C X.env) fp).tr pn xe) elt te) (hs : ∀ x, foldedSetIterable iter X.env x = pure x := by intro _; rfl) :
    PS X (.Assign [.Name y py] (.ListComp elt [⟨tg, iter, ifs, 0⟩] scope pos) spos) (tAsg (tLc wi g tt te (own.map (·.2))) (gName i)) where
  run pins s σ H D I h := by
    rw [exec_Assign_Name_used _ _ _ _ hsw]
    apply wpAny_bind
    refine wpAny_standAt (wpAny_bind (wpAny_bind (thn (lc_out (use := some (assign (.Name y py) X.env)) (Q := fun x H1 => gName i x σ H1 D.nx) (Qf := fun _ t => SP X pins D .next t) hst hf tk hc hN I hi ok hg ht he hs h ?_) fun _ t over => wpAny_pure (wpAny_pure over))))
    intro L C t m Ht J good ns ⟨c0, c1, c2, c3, c4, c5⟩
    change wpAny _ _ (assign (.Name y py) X.env (.ref L)) _ _ _
    apply wpAny_assign_Name
    refine store_ok2 (v := V.ref L) J hN hy (.inl hyl) rfl (fun t2 J2 stored => ?_) (.inr hyl)
    obtain ⟨at_, only, place⟩ := stored
    have apart : C ≠ at_ := place.elim (fun e => e ▸ c1) fun e z => c4 y at_ e z.symm
    exact ⟨m, ns.sameBut only apart, fun h3 rest => ⟨_, Ht, J2.turned (t' := t2.toks) (fun b o ne e => (rest.2 b ne).trans e) c0 c1 c3 c4 c5, good⟩⟩
end
end L2N

set_option Elab.async false
set_option linter.all false
set_option maxRecDepth 100000
set_option maxHeartbeats 1000000
namespace G
open PySem L2 Evl
/-! ### what is refused -/
theorem pass_len {X : Cx} {W : WX} (n : Nat) (tk : L2N.Takes X W) (hn : X.N.length = n) : Passes (L2N.CX X.prog X.w) X (fun cls d H => ∀ σ : L2.St, σ.length = n → W cls d σ H) := fun _ σ _ _ e s' I c => tk e s' (L2N.XE.of_call I (fun cls d H' h => h σ (I.len.trans hn)) c)
def wrongN (n : Nat) (i : Int) : Prop := i < 0 ∨ (n : Int) ≤ i
/-- what the arguments behind the room are -/
abbrev ArgP := Hp → Nat → List V → Prop
/-- within the room -/
def spNo (K : PySem.W.Frag) (CR CK CE : Addr) (A : ArgP) : Sp := fun vs H _ E => ∃ (B : Hp) (n : Nat) (S : Rf.Room Str) (M : Lab → Prop) (ad : Ad) (ws : List V), vs = .ref (ad .r) :: ws ∧ Ex B H ∧ RAt K CR CK B H n S M ad ∧ A B n ws ∧ ∀ B1 H1, Gr B H B1 H1 → E (.ref CE) none H1
/-- as its callers know it -/
def spNoA (RA : RoomP) (CE : Addr) (A : ArgP) : Sp := fun vs H _ E => ∃ (B : Hp) (r : Addr) (n : Nat) (S : Rf.Room Str) (F : Addr → Prop) (ws : List V), vs = .ref r :: ws ∧ Ex B H ∧ RA B H r n S F ∧ A B n ws ∧ ∀ B1 H1, Gr B H B1 H1 → E (.ref CE) none H1
/-- one number, no keeper's; that and something; the two of a hand-over -/
def aOne : ArgP := fun _ n ws => ∃ i : Int, ws = [.int i] ∧ wrongN n i
def aTwo : ArgP := fun _ n ws => ∃ (i : Int) (v : V), ws = [.int i, v] ∧ wrongN n i
def badPair (n : Nat) (i j : Int) : Prop := wrongN n i ∨ (∃ k : Nat, i = (k : Int) ∧ k < n ∧ (wrongN n j ∨ j = i))
def aPair : ArgP := fun _ n ws => ∃ i j : Int, ws = [.int i, .int j] ∧ badPair n i j
def aHand : ArgP := fun _ n ws => ∃ i j m : Int, ws = [.int i, .int j, .int m] ∧ badPair n i j
def aStand (K : PySem.W.Frag) : ArgP := fun B n ws => ∃ (i : Int) (v : V), ws = [.int i, v] ∧ (wrongN n i ∨ ∃ (k : Nat) (os : List Int), i = (k : Int) ∧ k < n ∧ Dq K B (.list (os.map .int)) v ∧ os.length ≤ 100 ∧ ∃ o ∈ os, wrongN n o)
section
variable {K : PySem.W.Frag} {CR CK CE CN : Addr} {σ : L2.St} {B H B1 H1 : Hp} {ta tb te : TE} {D : Ends} {tu tz tw : TS} {n k : Nat} {S : Rf.Room Str} {M : Lab → Prop} {ad : Ad} {E : XK} {Q : VK} {i : Int} {m : Str} {A : ArgP} {t : TA} {P : Hp → List V → Prop}
theorem m_keepR (R : RAt K CR CK B H n S M ad) (g0 : Ex B H) (h : EvV ta σ B H (.ref (ad .r))) (hb : EvD K tb σ B H (.int i)) (hi : wrongN n i) (q : ∀ B1 H1, Gr B H B1 H1 → E (.ref CN) none H1) : tMeth CR "keeper" (spKeep K CR CK CN) [] E ta (tCons tb tNil) σ H Q := by
  obtain ⟨dx, hr⟩ := R.room
  refine m_meth (P := fun B2 vs => DqAll K B2 [.int i] vs) g0 h hr rfl (ea_cons hb ea_nil) fun vs B2 H2 g2 hv => ?_
  obtain ⟨w0, vs, rfl, e0, hv⟩ := dqa_cons.mp hv
  cases dqa_nil.mp hv
  cases dq_int.mp e0
  exact ⟨B2, n, S, M, ad, i, rfl, g2.bh, R.gr g2, fun k e hk => by unfold wrongN at hi; omega, fun _ B3 H3 g3 => q B3 H3 (g2.trans g3)⟩
theorem m_no (R : RAt K CR CK B H n S M ad) (g0 : Ex B H) (h : EvV ta σ B H (.ref (ad .r))) (ht : EvA t σ B H P) (hP : ∀ B1 vs, P B1 vs → A B1 n vs) (q : ∀ B1 H1, Gr B H B1 H1 → E (.ref CE) none H1) (hm : (rmf ad).lookup m = none := by rfl) : tMeth CR m (spNo K CR CK CE A) [] E ta t σ H Q := by
  obtain ⟨dx, hr⟩ := R.room
  refine m_meth (P := P) g0 h hr hm ht fun vs B2 H2 g2 hv => ?_
  exact ⟨B2, n, S, M, ad, vs, rfl, g2.bh, R.gr g2, hP _ _ hv, fun B3 H3 g3 => q B3 H3 (g2.trans g3)⟩
end
section
variable {K : PySem.W.Frag} {RA : RoomP} {C CE : Addr} {σ : L2.St} {B H B1 H1 : Hp} {ta tb te : TE} {n : Nat} {r : Addr} {S : Rf.Room Str} {F : Addr → Prop} {Q : VK} {m : Str} {A : ArgP} {t : TA} {P : Hp → List V → Prop}
theorem m_noA {E : XK} (O : RoomOk C RA) (R : RA B H r n S F) (hm : m ∈ roomNames) (g0 : Ex B H) (h : EvV ta σ B H (.ref r)) (ht : EvA t σ B H P) (hP : ∀ B1 vs, P B1 vs → A B1 n vs) (q : ∀ B1 H1, Gr B H B1 H1 → E (.ref CE) none H1) : tMeth C m (spNoA RA CE A) [] E ta t σ H Q := by
  obtain ⟨dx, fs, hp, hl⟩ := O.ins R
  exact m_meth (P := P) g0 h hp (hl _ hm) ht fun vs B2 H2 g2 hv => ⟨B2, r, n, S, F, vs, rfl, g2.bh, O.gr R g2, hP _ _ hv, fun B3 H3 g3 => q B3 H3 (g2.trans g3)⟩
theorem m_noE {E : L2.St → XK} (O : RoomOk C RA) (R : RA B H r n S F) (hm : m ∈ roomNames) (g0 : Ex B H) (h : EvV ta σ B H (.ref r)) (ht : EvA t σ B H P) (hP : ∀ B1 vs, P B1 vs → A B1 n vs) (q : ∀ B1 H1, Gr B H B1 H1 → E σ (.ref CE) none H1) : L2H.tMethH C m (spNoA RA CE A) E ta t σ H Q := by
  obtain ⟨dx, fs, hp, hl⟩ := O.ins R
  exact m_methE (P := P) g0 h hp (hl _ hm) ht fun vs B2 H2 g2 hv => ⟨B2, r, n, S, F, vs, rfl, g2.bh, O.gr R g2, hP _ _ hv, fun B3 H3 g3 => q B3 H3 (g2.trans g3)⟩
end
/-- a comprehension over a list of data, one item of which is refused -/
theorem m_lcNo {K : PySem.W.Frag} {σ : L2.St} {B H : Hp} {tl te : TE} {j w : Nat} {vs : List Nat} {Q : VK} {ds : List PyData} (f : Nat → V) (g0 : Ex B H) (h : EvD K tl σ B H (.list ds)) (hz : ds.length ≤ 40000) (hw : ∀ x, wipe ((wipe σ vs).set j (some x)) vs = wipe σ vs) (hwl : w < ds.length)
    (he : ∀ (i : Nat) d v B1 H1, Gr B H B1 H1 → i < w → ds[i]? = some d → Dq K B1 d v → EvV te ((wipe σ vs).set j (some v)) B1 H1 (f i))
    (hn : ∀ d v B1 H1, Gr B H B1 H1 → ds[w]? = some d → Dq K B1 d v → ∀ Q' : VK, te ((wipe σ vs).set j (some v)) H1 Q') : tLc (iList K tl) (gName j) tYes te vs σ H Q :=
  h B H (Gr.refl g0) _ fun v B1 H1 g1 p => by
    obtain ⟨a, xs, rfl, q1, q2⟩ := dq_list.mp p
    refine ⟨a, rfl, ⟨xs, sq_of (g1.bh _ _ q1)⟩, fun Dl hD => ?_⟩
    refine lc_list (xs := xs) (fun i H' => i ≤ w ∧ ∃ B', Gr B1 H1 B' H' ∧ B' Dl = none ∧ H' Dl = some (.lst ((List.range i).map f))) ⟨Nat.zero_le _, B1, Gr.newM g1.bh hD, ex_none g1.bh hD, upd_same⟩ (fun i H' hi ⟨_, B', gg, _⟩ => sq_of (gg.hh _ _ (g1.bh _ _ q1))) ?_ ?_
    · rintro i x H' hx ⟨hiw, B', gg, b1, b2⟩
      refine ⟨hw _, ?_⟩
      unfold tYes
      dsimp only
      rw [if_pos rfl]
      obtain ⟨d, hd, hdx⟩ := q2.get' hx
      have hi : i < ds.length := (List.getElem?_eq_some_iff.mp hd).1
      rcases Nat.lt_or_eq_of_le hiw with hlt | rfl
      · refine he i d x B' H' (g1.trans gg) hlt hd (hdx.mono gg.bb) B' H' gg.le _ fun v B2 H2 g2 e => ?_
        subst e
        have g12 := gg.trans g2
        have e2 := g2.hh _ _ b2
        have b3 := g2.out b1 b2
        refine ⟨_, e2, sz_of (by rw [List.length_map, List.length_range]; omega), hlt, B2, g12.mut hD b3, b3, ?_⟩
        rw [upd_same, List.range_succ, List.map_append, List.map_singleton]
      · exact hn d x B' H' (g1.trans gg) hd (hdx.mono gg.bb) _
    · rintro H' ⟨hiw, _⟩
      rw [q2.len] at hiw
      omega
end G


set_option Elab.async false
set_option linter.all false
set_option maxRecDepth 100000
set_option maxHeartbeats 1000000
namespace A14
open PySem L2 G
def topS (i : Nat) : Stmt := PySem.Challenge.pw_logreplica_k14_refused.main.body.getD i (.Pass ⟨0, 0, 0, 0⟩)
abbrev s_last_term : Stmt := topS 7
theorem sc_last_term : FnScope ["row"] ["row"] (defScope s_last_term) := ⟨rfl, rfl, rfl, by decide +kernel, rfl, by decide +kernel, by decide +kernel⟩
abbrev s_as_new : Stmt := topS 8
theorem sc_as_new : FnScope ["row", "other", "own", "others"] ["row", "other"] (defScope s_as_new) := ⟨rfl, rfl, rfl, by decide +kernel, rfl, by decide +kernel, by decide +kernel⟩
abbrev s_agrees : Stmt := topS 9
theorem sc_agrees : FnScope ["row", "at", "term"] ["row", "at", "term"] (defScope s_agrees) := ⟨rfl, rfl, rfl, by decide +kernel, rfl, by decide +kernel, by decide +kernel⟩
abbrev s_filled : Stmt := topS 10
theorem sc_filled : FnScope ["row", "at", "some", "k", "entry", "place"] ["row", "at", "some"] (defScope s_filled) := ⟨rfl, rfl, rfl, by decide +kernel, rfl, by decide +kernel, by decide +kernel⟩
abbrev s_settled_by : Stmt := topS 11
theorem sc_settled_by : FnScope ["row", "term", "held", "n"] ["row", "term", "held"] (defScope s_settled_by) := ⟨rfl, rfl, rfl, by decide +kernel, rfl, by decide +kernel, by decide +kernel⟩
abbrev s_most_held : Stmt := topS 12
theorem sc_most_held : FnScope ["held"] ["held"] (defScope s_most_held) := ⟨rfl, rfl, rfl, by decide +kernel, rfl, by decide +kernel, by decide +kernel⟩
abbrev s_Keeper___init__ : Stmt := inClass (topS 14) 0
theorem sc_Keeper___init__ : FnScope ["self", "row"] ["self", "row"] (defScope s_Keeper___init__) := ⟨rfl, rfl, rfl, by decide +kernel, rfl, by decide +kernel, by decide +kernel⟩
abbrev s_Keeper_hear : Stmt := inClass (topS 14) 1
theorem sc_Keeper_hear : FnScope ["self", "term"] ["self", "term"] (defScope s_Keeper_hear) := ⟨rfl, rfl, rfl, by decide +kernel, rfl, by decide +kernel, by decide +kernel⟩
abbrev s_Keeper_asked : Stmt := inClass (topS 14) 2
theorem sc_Keeper_asked : FnScope ["self", "term", "row"] ["self", "term", "row"] (defScope s_Keeper_asked) := ⟨rfl, rfl, rfl, by decide +kernel, rfl, by decide +kernel, by decide +kernel⟩
abbrev s_Room___init__ : Stmt := inClass (topS 17) 0
theorem sc_Room___init__ : FnScope ["self", "count", "k"] ["self", "count"] (defScope s_Room___init__) := ⟨rfl, rfl, rfl, by decide +kernel, rfl, by decide +kernel, by decide +kernel⟩
abbrev s_Room_stand : Stmt := inClass (topS 17) 1
theorem sc_Room_stand : FnScope ["self", "k", "others", "keeper", "voters", "voices", "voter", "other"] ["self", "k", "others"] (defScope s_Room_stand) := ⟨rfl, rfl, rfl, by decide +kernel, rfl, by decide +kernel, by decide +kernel⟩
abbrev s_Room_write : Stmt := inClass (topS 17) 2
theorem sc_Room_write : FnScope ["self", "k", "word", "leader"] ["self", "k", "word"] (defScope s_Room_write) := ⟨rfl, rfl, rfl, by decide +kernel, rfl, by decide +kernel, by decide +kernel⟩
abbrev s_Room_hand : Stmt := inClass (topS 17) 3
theorem sc_Room_hand : FnScope ["self", "k", "other", "many", "follower", "leader", "place", "handed", "holds"] ["self", "k", "other", "many"] (defScope s_Room_hand) := ⟨rfl, rfl, rfl, by decide +kernel, rfl, by decide +kernel, by decide +kernel⟩
abbrev s_Room_settle : Stmt := inClass (topS 17) 4
theorem sc_Room_settle : FnScope ["self", "k", "leader", "held"] ["self", "k"] (defScope s_Room_settle) := ⟨rfl, rfl, rfl, by decide +kernel, rfl, by decide +kernel, by decide +kernel⟩
abbrev s_Room_rest : Stmt := inClass (topS 17) 5
theorem sc_Room_rest : FnScope ["self", "k", "keeper"] ["self", "k"] (defScope s_Room_rest) := ⟨rfl, rfl, rfl, by decide +kernel, rfl, by decide +kernel, by decide +kernel⟩
abbrev s_Room_term_of : Stmt := inClass (topS 17) 6
theorem sc_Room_term_of : FnScope ["self", "k"] ["self", "k"] (defScope s_Room_term_of) := ⟨rfl, rfl, rfl, by decide +kernel, rfl, by decide +kernel, by decide +kernel⟩
abbrev s_Room_row_of : Stmt := inClass (topS 17) 7
theorem sc_Room_row_of : FnScope ["self", "k"] ["self", "k"] (defScope s_Room_row_of) := ⟨rfl, rfl, rfl, by decide +kernel, rfl, by decide +kernel, by decide +kernel⟩
abbrev s_Room_leading : Stmt := inClass (topS 17) 8
theorem sc_Room_leading : FnScope ["self", "k"] ["self", "k"] (defScope s_Room_leading) := ⟨rfl, rfl, rfl, by decide +kernel, rfl, by decide +kernel, by decide +kernel⟩
abbrev s_Room_settled_of : Stmt := inClass (topS 17) 9
theorem sc_Room_settled_of : FnScope ["self", "k", "keeper"] ["self", "k"] (defScope s_Room_settled_of) := ⟨rfl, rfl, rfl, by decide +kernel, rfl, by decide +kernel, by decide +kernel⟩
abbrev s_Room_keeper : Stmt := inClass (topS 17) 10
theorem sc_Room_keeper : FnScope ["self", "k"] ["self", "k"] (defScope s_Room_keeper) := ⟨rfl, rfl, rfl, by decide +kernel, rfl, by decide +kernel, by decide +kernel⟩
abbrev s_Room_other_keeper : Stmt := inClass (topS 17) 11
theorem sc_Room_other_keeper : FnScope ["self", "k", "other", "found"] ["self", "k", "other"] (defScope s_Room_other_keeper) := ⟨rfl, rfl, rfl, by decide +kernel, rfl, by decide +kernel, by decide +kernel⟩
abbrev s_Room_leader : Stmt := inClass (topS 17) 12
theorem sc_Room_leader : FnScope ["self", "k", "found"] ["self", "k"] (defScope s_Room_leader) := ⟨rfl, rfl, rfl, by decide +kernel, rfl, by decide +kernel, by decide +kernel⟩
abbrev s_Room_begin : Stmt := inClass (topS 17) 13
theorem sc_Room_begin : FnScope ["self", "k", "keeper"] ["self", "k"] (defScope s_Room_begin) := ⟨rfl, rfl, rfl, by decide +kernel, rfl, by decide +kernel, by decide +kernel⟩
abbrev s_law_cell_at : Stmt := topS 19
theorem sc_law_cell_at : FnScope ["_law_script", "_law_k"] ["_law_script", "_law_k"] (defScope s_law_cell_at) := ⟨rfl, rfl, rfl, by decide +kernel, rfl, by decide +kernel, by decide +kernel⟩
abbrev s_law_mixed : Stmt := topS 20
theorem sc_law_mixed : FnScope ["_law_script", "_law_k", "_law_number"] ["_law_script", "_law_k"] (defScope s_law_mixed) := ⟨rfl, rfl, rfl, by decide +kernel, rfl, by decide +kernel, by decide +kernel⟩
abbrev s_law_drawn : Stmt := topS 21
theorem sc_law_drawn : FnScope ["_law_number", "_law_sizes", "_law_some", "_law_size"] ["_law_number", "_law_sizes"] (defScope s_law_drawn) := ⟨rfl, rfl, rfl, by decide +kernel, rfl, by decide +kernel, by decide +kernel⟩
abbrev s_law_asked : Stmt := topS 22
theorem sc_law_asked : FnScope ["_law_k", "_law_other", "_law_wrong", "_law_place", "_law_some"] ["_law_k", "_law_other", "_law_wrong", "_law_place"] (defScope s_law_asked) := ⟨rfl, rfl, rfl, by decide +kernel, rfl, by decide +kernel, by decide +kernel⟩
abbrev s_law_done : Stmt := topS 23
theorem sc_law_done : FnScope ["_law_room", "_law_way", "_law_k", "_law_other", "_law_wrong"] ["_law_room", "_law_way", "_law_k", "_law_other", "_law_wrong"] (defScope s_law_done) := ⟨rfl, rfl, rfl, by decide +kernel, rfl, by decide +kernel, by decide +kernel⟩
abbrev s_law_idle : Stmt := topS 24
theorem sc_law_idle : FnScope ["_law_room", "_law_way", "_law_k", "_law_other"] ["_law_room", "_law_way", "_law_k", "_law_other"] (defScope s_law_idle) := ⟨rfl, rfl, rfl, by decide +kernel, rfl, by decide +kernel, by decide +kernel⟩
abbrev s_law_kind : Stmt := topS 25
theorem sc_law_kind : FnScope ["_law_e", "_law_kind_here"] ["_law_e"] (defScope s_law_kind) := ⟨rfl, rfl, rfl, by decide +kernel, rfl, by decide +kernel, by decide +kernel⟩
abbrev s_law_kind_of : Stmt := topS 26
theorem sc_law_kind_of : FnScope ["_law_room", "_law_way", "_law_k", "_law_other", "_law_wrong", "_law_e"] ["_law_room", "_law_way", "_law_k", "_law_other", "_law_wrong"] (defScope s_law_kind_of) := ⟨rfl, rfl, rfl, by decide +kernel, rfl, by decide +kernel, by decide +kernel⟩
abbrev s_law_idle_kind : Stmt := topS 27
theorem sc_law_idle_kind : FnScope ["_law_room", "_law_way", "_law_k", "_law_other", "_law_e"] ["_law_room", "_law_way", "_law_k", "_law_other"] (defScope s_law_idle_kind) := ⟨rfl, rfl, rfl, by decide +kernel, rfl, by decide +kernel, by decide +kernel⟩
abbrev s_law_caught : Stmt := topS 28
theorem sc_law_caught : FnScope ["_law_room", "_law_k", "_law_other", "_law_wrong", "_law_told"] ["_law_room", "_law_k", "_law_other", "_law_wrong"] (defScope s_law_caught) := ⟨rfl, rfl, rfl, by decide +kernel, rfl, by decide +kernel, by decide +kernel⟩
abbrev s_law_no_room : Stmt := topS 29
theorem sc_law_no_room : FnScope ["_law_count", "_law_e"] ["_law_count"] (defScope s_law_no_room) := ⟨rfl, rfl, rfl, by decide +kernel, rfl, by decide +kernel, by decide +kernel⟩
abbrev s_law_all_of : Stmt := topS 30
theorem sc_law_all_of : FnScope ["_law_room", "_law_count", "_law_k"] ["_law_room", "_law_count"] (defScope s_law_all_of) := ⟨rfl, rfl, rfl, by decide +kernel, rfl, by decide +kernel, by decide +kernel⟩
abbrev s_law_led : Stmt := topS 31
theorem sc_law_led : FnScope ["_law_room", "_law_count", "_law_all_held", "_law_word", "_law_other"] ["_law_room", "_law_count", "_law_all_held"] (defScope s_law_led) := ⟨rfl, rfl, rfl, by decide +kernel, rfl, by decide +kernel, by decide +kernel⟩
abbrev s_law_leads_on : Stmt := topS 32
theorem sc_law_leads_on : FnScope ["_law_room", "_law_count", "_law_all_held", "_law_other"] ["_law_room", "_law_count", "_law_all_held"] (defScope s_law_leads_on) := ⟨rfl, rfl, rfl, by decide +kernel, rfl, by decide +kernel, by decide +kernel⟩
abbrev s_law : Stmt := topS 33
theorem sc_law : FnScope ["_law_script", "_law_some", "_law_count", "_law_room", "_law_ahead", "_law_wrong", "_law_k", "_law_other"] ["_law_script"] (defScope s_law) := ⟨rfl, rfl, rfl, by decide +kernel, rfl, by decide +kernel, by decide +kernel⟩
structure Bi (mg : Str → Option Value) : Prop where
  z_ValueError : mg "ValueError" = none
  z_abs : mg "abs" = none
  z_bool : mg "bool" = none
  z_enumerate : mg "enumerate" = none
  z_int : mg "int" = none
  z_isinstance : mg "isinstance" = none
  z_len : mg "len" = none
  z_list : mg "list" = none
  z_max : mg "max" = none
  z_min : mg "min" = none
  z_range : mg "range" = none
  z_sorted : mg "sorted" = none
/-! ### the law's own helpers, their values -/
def mixA (c k : Int) : Int := (c + 7919 * k) * 48271 % 2147483647
def mixB (n k : Int) : Int := (n * n + 7 * n + k) % 2147483629
def cellI (ns : List Int) (k : Int) : Int := ns.getD k.toNat 0
def mixed (ns : List Int) (k : Int) : Int := mixB (mixA (cellI ns k) k) k
theorem mixA_b (c k : Int) : 0 ≤ mixA c k ∧ mixA c k < 2147483647 := by unfold mixA; omega
theorem mixB_b (c k : Int) : 0 ≤ mixB c k ∧ mixB c k < 2147483629 := by unfold mixB; omega
theorem mixed_b (ns : List Int) (k : Int) : 0 ≤ mixed ns k ∧ mixed ns k < 2147483629 := mixB_b _ _
section
variable {P : Program} {w : World} {K : PySem.W.Frag} {mg : Str → Option Value} {base : Heap}
def R_cell : List PyData → PyData → Prop := fun ds d => ∃ ns k, ds = [scr ns, .int k] ∧ 0 ≤ k ∧ d = .int (cellI ns k)
theorem cell_in {ns : List Int} {k : Int} (h0 : 0 ≤ k) (h : k < (ns.length : Int)) : atI ns k = some (cellI ns k) := by
  have e : k = ((k.toNat : Nat) : Int) := by omega
  have hl : k.toNat < ns.length := by omega
  have q : atI ns ((k.toNat : Nat) : Int) = some (ns.getD k.toNat 0) := atI_nat (by rw [List.getElem?_eq_getElem hl, List.getD_eq_getElem?_getD, List.getElem?_eq_getElem hl]; rfl)
  rw [← e] at q
  exact q
theorem cell_out {ns : List Int} {k : Int} (h : ¬ k < (ns.length : Int)) : cellI ns k = 0 := by
  unfold cellI
  rw [List.getD_eq_getElem?_getD, List.getElem?_eq_none (by omega)]
  rfl
theorem ok_law_cell_at {f : Addr} {fd : FuncData} {Z : Bi mg} {D : DefAt K mg "_law_cell_at" s_law_cell_at ["_law_script", "_law_k"] f fd} : Callee P w K mg base 1 "_law_cell_at" ["_law_script", "_law_k"] (spD K R_cell) f fd := by
  refine D.run sc_law_cell_at (fun ds d h => by obtain ⟨ns, k, rfl, _⟩ := h; rfl) fun cdv A outer s B H vs ds d Q E hr h eb hv q => ?_
  obtain ⟨ns, k, rfl, hk, rfl⟩ := h
  obtain ⟨v0, vs, rfl, d0, hv⟩ := dqa_cons.mp hv
  obtain ⟨v1, vs, rfl, d1, hv⟩ := dqa_cons.mp hv
  cases dqa_nil.mp hv
  cases dq_int.mp d1
  refine ⟨_, (pss_cons (ps_if (pt_cmpR op_lt (pv 1) (pe_callB call_len_seq (by rfl) Z.z_len (by decide +kernel) (pa_cons (pv 0) pa_nil)) (nomark _)) (pss_one (ps_ret (pe_ix ix_list (pv 0) (pv 1) (fun _ _ => rfl)))) pss_nil)
      (pss_one (ps_ret pe_int))), ?_⟩
  refine q_when (K := K) eb (et_test (evd_B0 (evd_vI rfl) (evd_lenSc (evd_v rfl d0)) rfl)) (fun hb B1 H1 g => ?_) (fun hb B1 H1 g => ?_)
  · exact s_ret (K := K) g.bh (evd_ixSc (evd_v rfl (d0.mono g.bb)) (evd_vI rfl) (cell_in hk (of_decide_eq_true hb))) fun v B2 H2 g2 p => q v B2 H2 (g.trans g2) p
  · exact s_ret (K := K) g.bh evd_cI fun v B2 H2 g2 p => q v B2 H2 (g.trans g2) (by rw [cell_out (of_decide_eq_false hb)]; exact p)
def R_mixed : List PyData → PyData → Prop := fun ds d => ∃ ns k, ds = [scr ns, .int k] ∧ 0 ≤ k ∧ d = .int (mixed ns k)
theorem ok_law_mixed {f fc : Addr} {fd fdc : FuncData} {Z : Bi mg} {D : DefAt K mg "_law_mixed" s_law_mixed ["_law_script", "_law_k"] f fd}
    {c_law_cell_at : Callee P w K mg base 1 "_law_cell_at" ["_law_script", "_law_k"] (spD K R_cell) fc fdc} : Callee P w K mg base 2 "_law_mixed" ["_law_script", "_law_k"] (spD K R_mixed) f fd := by
  refine D.run sc_law_mixed (fun ds d h => by obtain ⟨ns, k, rfl, _⟩ := h; rfl) fun cdv A outer s B H vs ds d Q E hr h eb hv q => ?_
  obtain ⟨ns, k, rfl, hk, rfl⟩ := h
  obtain ⟨v0, vs, rfl, d0, hv⟩ := dqa_cons.mp hv
  obtain ⟨v1, vs, rfl, d1, hv⟩ := dqa_cons.mp hv
  cases dqa_nil.mp hv
  cases dq_int.mp d1
  refine ⟨_, (pss_cons (ps_set (i := 2) sc_law_mixed.nd rfl (.inl rfl) (pe_op op_mod (pe_op op_mul (pe_op op_add (pe_call c_law_cell_at.G (hr.mono (by decide)) (by rfl) c_law_cell_at.g c_law_cell_at.kp c_law_cell_at.b .nil pass0 (pa_cons (pv 0) (pa_cons (pv 1) pa_nil))) (pe_op op_mul pe_int (pv 1))) pe_int) pe_int))
      (pss_one (ps_ret (pe_op op_mod (pe_op op_add (pe_op op_add (pe_op op_mul (pv 2) (pv 2)) (pe_op op_mul pe_int (pv 2))) (pv 1)) pe_int)))), ?_⟩
  have hb := mixA_b (cellI ns k) k
  refine q_asgI (K := K) (i := mixA (cellI ns k) k) eb (evd_IC (evd_IC (evd_I0 (evd_call (ea_cons (evd_v rfl d0) (ea_cons (evd_vI rfl) ea_nil)) ⟨ns, k, rfl, hk, rfl⟩) (evd_IC evd_cI (evd_vI rfl) rfl (.inl (by decide))) rfl) evd_cI rfl (.inr (by decide))) evd_cI rfl (by decide)) fun B1 H1 g => ?_
  refine s_ret (K := K) g.bh (evd_IC (evd_I0 (evd_I0 (evd_IC (evd_vI rfl) (evd_vI rfl) rfl (.inl (by omega))) (evd_IC evd_cI (evd_vI rfl) rfl (.inl (by decide))) rfl) (evd_vI rfl) rfl) evd_cI rfl (by decide)) fun v B2 H2 g2 p => q v B2 H2 (g.trans g2) p
end

section
/-- the term of the entry at a place -/
def termAt (es : List Ent) (i : Int) : Int := (es.getD i.toNat (0, PySem.Str.empty)).1
def entAt (es : List Ent) (i : Int) : Ent := es.getD i.toNat (0, PySem.Str.empty)
theorem row_at {es : List Ent} {i : Int} (h0 : 0 ≤ i) (h : i < (es.length : Int)) : atI (es.map entD) i = some (entD (entAt es i)) := by
  rw [atI_map, atI_in h0 h (0, PySem.Str.empty)]
  rfl
theorem ent_fst {e : Ent} : atI [PyData.int e.1, PyData.str e.2] 0 = some (.int e.1) := rfl
end

section
def R_law : List PyData → PyData → Prop := fun ds d => ∃ ns, ds = [scr ns] ∧ ns.length ≤ 63 ∧ d = .bool true
abbrev spLaw (K : PySem.W.Frag) : Sp := spD K R_law
theorem law_start {K : PySem.W.Frag} {H : Hp} {a : Addr} {ns : List Int} (hl : ns.length ≤ 63) (hS : SqL K H a (ns.map V.int)) : spLaw K [.ref a] H (fun v _ => v = .bl true) fun _ _ _ => False :=
  ⟨H, [scr ns], .bool true, Evl.Ex.refl _, DqAll.one (dq_scr.mpr ⟨a, rfl, hS⟩), ⟨ns, rfl, hl, rfl⟩, fun v B1 H1 g p => dq_bool.mp p⟩
end

section
variable {P : Program} {w : World} {K : PySem.W.Frag} {mg : Str → Option Value} {base : Heap}
def lastT (es : List Ent) : Int := match es.getLast? with
  | some e => e.1
  | none => 0
theorem lastT_snoc (es : List Ent) (e : Ent) : lastT (es ++ [e]) = e.1 := by
  unfold lastT
  rw [List.getLast?_concat]
def R_last : List PyData → PyData → Prop := fun ds d => ∃ es, ds = [rowD es] ∧ d = .int (lastT es)
theorem ok_last_term {f : Addr} {fd : FuncData} {Z : Bi mg} {D : DefAt K mg "last_term" s_last_term ["row"] f fd} : Callee P w K mg base 1 "last_term" ["row"] (spD K R_last) f fd := by
  refine D.run sc_last_term (fun ds d h => by obtain ⟨n, rfl, _⟩ := h; rfl) fun cdv A outer s B H vs ds d Q E hr h eb hv q => ?_
  obtain ⟨es, rfl, rfl⟩ := h
  obtain ⟨v0, vs, rfl, d0, hv⟩ := dqa_cons.mp hv
  cases dqa_nil.mp hv
  refine ⟨_, (pss_cons (ps_if (pt_not (pt_truth (pv 0) (by intro _; rfl))) (pss_one (ps_ret pe_int)) pss_nil)
      (pss_one (ps_ret (pe_ix ix_tup (pe_ix ix_list (pv 0) (pe_un un_neg pe_int) (fun _ _ => rfl)) pe_int (fun _ _ => rfl))))), ?_⟩
  refine q_when (K := K) eb (et_not (et_truL (evd_v rfl d0))) (fun hb B1 H1 g1 => ?_) fun hb B1 H1 g1 => ?_
  · have e0 : es = [] := by
      cases es with
      | nil => rfl
      | cons e es => cases hb
    subst e0
    exact G.s_ret (K := K) g1.bh evd_cI fun v B2 H2 g2 p => q v B2 H2 (g1.trans g2) p
  · obtain ⟨fs, e, rfl⟩ : ∃ fs e, es = fs ++ [e] := by
      rcases List.eq_nil_or_concat es with e0 | ⟨fs, e, e0⟩
      · subst e0
        cases hb
      · exact ⟨fs, e, by simpa using e0⟩
    refine G.s_ret (K := K) g1.bh (evd_ixT (evd_ixL (evd_v rfl (d0.mono g1.bb)) (evd_neg evd_cI) (d := entD e) ?_) evd_cI ent_fst) fun v B2 H2 g2 p => q v B2 H2 (g1.trans g2) (by rw [lastT_snoc]; exact p)
    rw [List.map_append]
    exact atI_last _ _
def newM (es fs : List Ent) : Bool := if lastT es = lastT fs then decide (fs.length ≤ es.length) else decide (lastT fs < lastT es)
def R_new : List PyData → PyData → Prop := fun ds d => ∃ es fs, ds = [rowD es, rowD fs] ∧ d = .bool (newM es fs)
theorem ok_as_new {f fl : Addr} {fd fdl : FuncData} {Z : Bi mg} {D : DefAt K mg "as_new" s_as_new ["row", "other"] f fd}
    {c_last_term : Callee P w K mg base 1 "last_term" ["row"] (spD K R_last) fl fdl} : Callee P w K mg base 2 "as_new" ["row", "other"] (spD K R_new) f fd := by
  refine D.run sc_as_new (fun ds d h => by obtain ⟨n, m, rfl, _⟩ := h; rfl) fun cdv A outer s B H vs ds d Q E hr h eb hv q => ?_
  obtain ⟨es, fs, rfl, rfl⟩ := h
  obtain ⟨v0, vs, rfl, d0, hv⟩ := dqa_cons.mp hv
  obtain ⟨v1, vs, rfl, d1, hv⟩ := dqa_cons.mp hv
  cases dqa_nil.mp hv
  refine ⟨_, (pss_cons (ps_set (i := 2) sc_as_new.nd rfl (.inl rfl) (pe_call c_last_term.G (hr.mono (by decide)) (by rfl) c_last_term.g c_last_term.kp c_last_term.b .nil pass0 (pa_cons (pv 0) pa_nil)))
      (pss_cons (ps_set (i := 3) sc_as_new.nd rfl (.inl rfl) (pe_call c_last_term.G (hr.mono (by decide)) (by rfl) c_last_term.g c_last_term.kp c_last_term.b .nil pass0 (pa_cons (pv 1) pa_nil)))
      (pss_cons (ps_if (pt_cmpR op_ne (pv 2) (pv 3) (nomark _)) (pss_one (ps_ret (pe_cmpR op_gt (pv 2) (pv 3) (nomark _)))) pss_nil)
      (pss_one (ps_ret (pe_cmpR op_ge (pe_callB call_len_seq (by rfl) Z.z_len (by decide +kernel) (pa_cons (pv 0) pa_nil)) (pe_callB call_len_seq (by rfl) Z.z_len (by decide +kernel) (pa_cons (pv 1) pa_nil)) (nomark _))))))), ?_⟩
  refine q_asgI (K := K) eb (evd_call (ea_cons (evd_v rfl d0) ea_nil) ⟨es, rfl, rfl⟩) fun B1 H1 g1 => ?_
  refine q_asgI (K := K) g1.bh (evd_call (ea_cons (evd_v rfl (d1.mono g1.bb)) ea_nil) ⟨fs, rfl, rfl⟩) fun B2 H2 g2 => ?_
  have g := g1.trans g2
  refine q_when (K := K) g2.bh (et_test (evd_neI (evd_vI rfl) (evd_vI rfl))) (fun hb B3 H3 g3 => ?_) fun hb B3 H3 g3 => ?_
  · have hb : ¬ lastT es = lastT fs := of_decide_eq_false (by simpa using hb)
    exact G.s_ret (K := K) g3.bh (evd_B0 (evd_vI rfl) (evd_vI rfl) rfl) fun v B4 H4 g4 p => q v B4 H4 ((g.trans g3).trans g4) (by unfold newM; rw [if_neg hb]; exact p)
  · have hb : lastT es = lastT fs := of_decide_eq_true (by simpa using hb)
    refine G.s_ret (K := K) g3.bh (evd_B0 (m := decide (fs.length ≤ es.length)) (evd_len (evd_v rfl (d0.mono (g.trans g3).bb))) (evd_len (evd_v rfl (d1.mono (g.trans g3).bb))) ?_) fun v B4 H4 g4 p => q v B4 H4 ((g.trans g3).trans g4) (by unfold newM; rw [if_pos hb]; exact p)
    rw [List.length_map, List.length_map]
    exact congrArg V.bl (decide_eq_decide.mpr Int.ofNat_le)
end

section
variable {P : Program} {w : World} {K : PySem.W.Frag} {mg : Str → Option Value} {base : Heap}
def agreesM (es : List Ent) (at_ t : Int) : Bool := decide (at_ = 0) || (decide (0 < at_) && decide (at_ ≤ (es.length : Int)) && decide (termAt es (at_ - 1) = t))
def R_agrees : List PyData → PyData → Prop := fun ds d => ∃ es a t, ds = [rowD es, .int a, .int t] ∧ d = .bool (agreesM es a t)
theorem ok_agrees {f : Addr} {fd : FuncData} {Z : Bi mg} {D : DefAt K mg "agrees" s_agrees ["row", "at", "term"] f fd} : Callee P w K mg base 1 "agrees" ["row", "at", "term"] (spD K R_agrees) f fd := by
  refine D.run sc_agrees (fun ds d h => by obtain ⟨n, a, t, rfl, _⟩ := h; rfl) fun cdv A outer s B H vs ds d Q E hr h eb hv q => ?_
  obtain ⟨es, a, t, rfl, rfl⟩ := h
  obtain ⟨v0, vs, rfl, d0, hv⟩ := dqa_cons.mp hv
  obtain ⟨v1, vs, rfl, d1, hv⟩ := dqa_cons.mp hv
  obtain ⟨v2, vs, rfl, d2, hv⟩ := dqa_cons.mp hv
  cases dqa_nil.mp hv
  cases dq_int.mp d1
  cases dq_int.mp d2
  refine ⟨_, (pss_cons (ps_if (pt_cmpR op_eq (pv 1) pe_int (nomark _)) (pss_one (ps_ret pe_bl)) pss_nil)
      (pss_one (ps_ret (pe_and (pe_chain op_lt op_le pe_int (pv 1) (pe_callB call_len_seq (by rfl) Z.z_len (by decide +kernel) (pa_cons (pv 0) pa_nil))) (pe_one (pe_cmpR op_eq (pe_ix ix_tup (pe_ix ix_list (pv 0) (pe_op op_sub (pv 1) pe_int) (fun _ _ => rfl)) pe_int (fun _ _ => rfl)) (pv 2) (nomark _))))))), ?_⟩
  refine q_when (K := K) eb (et_test (evd_eqI (evd_vI rfl) evd_cI)) (fun hb B1 H1 g1 => ?_) fun hb B1 H1 g1 => ?_
  · exact G.s_ret (K := K) g1.bh evd_cB fun v B2 H2 g2 p => q v B2 H2 (g1.trans g2) (by unfold agreesM; rw [hb]; exact p)
  · refine G.s_ret (K := K) g1.bh (evd_andV (c := decide (termAt es (a - 1) = t)) (evd_chain evd_cI (evd_vI rfl) rfl (fun _ => evd_len (evd_v rfl (d0.mono g1.bb))) rfl) fun hc => ?_) fun v B2 H2 g2 p => q v B2 H2 (g1.trans g2) (by unfold agreesM; rw [hb, Bool.false_or]; rw [List.length_map] at p; exact p)
    obtain ⟨c1, c2⟩ := Bool.and_eq_true_iff.mp hc
    have c1 := of_decide_eq_true c1
    have c2 := of_decide_eq_true c2
    rw [List.length_map] at c2
    exact evd_eqI (evd_ixT (evd_ixL (evd_v rfl (d0.mono g1.bb)) (evd_I0 (evd_vI rfl) evd_cI rfl) (row_at (es := es) (i := a - 1) (by omega) (by omega))) evd_cI ent_fst) (evd_vI rfl)
end

section
theorem cutD_take {xs : List PyData} {v : Int} (h : 0 ≤ v) : cutD xs none (some v) = xs.take v.toNat := by
  unfold cutD
  have e : HT.sIx xs.length xs.length (some v) = min v.toNat xs.length := by
    show (if v < 0 then (v + (xs.length : Int)).toNat else min v.toNat xs.length) = _
    rw [if_neg (by omega)]
  have e0 : HT.sIx xs.length 0 none = 0 := rfl
  rw [e, e0, List.drop_zero, Nat.sub_zero]
  by_cases hl : v.toNat ≤ xs.length
  · rw [Nat.min_eq_left hl]
  · rw [Nat.min_eq_right (by omega), List.take_length, List.take_of_length_le (by omega)]
theorem cutD_drop {xs : List PyData} {v : Int} (h : 0 ≤ v) : cutD xs (some v) none = xs.drop v.toNat := by
  unfold cutD
  have e : HT.sIx xs.length 0 (some v) = min v.toNat xs.length := by
    show (if v < 0 then (v + (xs.length : Int)).toNat else min v.toNat xs.length) = _
    rw [if_neg (by omega)]
  have e0 : HT.sIx xs.length xs.length none = xs.length := rfl
  rw [e, e0]
  by_cases hl : v.toNat ≤ xs.length
  · rw [Nat.min_eq_left hl, List.take_of_length_le (by rw [List.length_drop]; omega)]
  · rw [Nat.min_eq_right (by omega), List.drop_length, List.drop_of_length_le (by omega), List.take_nil]
end
/-! ### a row filled -/
def fillT : List Ent → List Ent → List Ent
  | t, [] => t
  | [], f :: fs => f :: fs
  | e :: t, f :: fs => if e.1 = f.1 then e :: fillT t fs else f :: fs
def fillM (es : List Ent) (a : Nat) (fs : List Ent) : List Ent := es.take a ++ fillT (es.drop a) fs
def alikeT (t fs : List Ent) (i : Nat) : Prop := ∀ j, j < i → ∃ e f, t[j]? = some e ∧ fs[j]? = some f ∧ e.1 = f.1
theorem fillT_at : ∀ {i : Nat} {t fs : List Ent}, alikeT t fs i → i < fs.length → (t.length ≤ i ∨ ∃ e f, t[i]? = some e ∧ fs[i]? = some f ∧ e.1 ≠ f.1) → fillT t fs = t.take i ++ fs.drop i
  | 0, t, fs, _, hi, hc => by
    cases fs with
    | nil => simp at hi
    | cons f fs =>
      cases t with
      | nil => rfl
      | cons e t =>
        rcases hc with hc | ⟨e', f', h1, h2, h3⟩
        · simp at hc
        · have e1 : e = e' := by simpa using h1
          have e2 : f = f' := by simpa using h2
          subst e1 e2
          show (if e.1 = f.1 then e :: fillT t fs else f :: fs) = _
          rw [if_neg h3]
          rfl
  | i + 1, t, fs, ha, hi, hc => by
    obtain ⟨e, f, h1, h2, h3⟩ := ha 0 (by omega)
    cases t with
    | nil => simp at h1
    | cons e0 t =>
      cases fs with
      | nil => simp at h2
      | cons f0 fs =>
        have e1 : e0 = e := by simpa using h1
        have e2 : f0 = f := by simpa using h2
        subst e1 e2
        show (if e0.1 = f0.1 then e0 :: fillT t fs else f0 :: fs) = _
        rw [if_pos h3, fillT_at (i := i) (t := t) (fs := fs) (fun j hj => by simpa using ha (j + 1) (by omega)) (by simpa using hi) (by simpa using hc)]
        rfl
theorem fillT_all : ∀ {t fs : List Ent}, alikeT t fs fs.length → fillT t fs = t
  | t, [], _ => by cases t <;> rfl
  | t, f0 :: fs, ha => by
    obtain ⟨e, f, h1, h2, h3⟩ := ha 0 (by simp)
    cases t with
    | nil => simp at h1
    | cons e0 t =>
      have e1 : e0 = e := by simpa using h1
      have e2 : f0 = f := by simpa using h2
      subst e1 e2
      show (if e0.1 = f0.1 then e0 :: fillT t fs else f0 :: fs) = _
      rw [if_pos h3, fillT_all (t := t) (fs := fs) fun j hj => by simpa using ha (j + 1) (by simpa using hj)]
theorem fillM_at {es fs : List Ent} {a i : Nat} (ha : alikeT (es.drop a) fs i) (hi : i < fs.length) (hc : es.length ≤ a + i ∨ ∃ e f, es[a + i]? = some e ∧ fs[i]? = some f ∧ e.1 ≠ f.1) : fillM es a fs = es.take (a + i) ++ fs.drop i := by
  unfold fillM
  rw [fillT_at ha hi (hc.imp (fun h => by rw [List.length_drop]; omega) (fun ⟨e, f, h1, h2, h3⟩ => ⟨e, f, by rw [List.getElem?_drop]; exact h1, h2, h3⟩)), List.take_add, List.append_assoc]
theorem fillM_all {es fs : List Ent} {a : Nat} (ha : alikeT (es.drop a) fs fs.length) : fillM es a fs = es := by
  unfold fillM
  rw [fillT_all ha, List.take_append_drop]
theorem alike_step {es fs : List Ent} {a i : Nat} {e f : Ent} (ha : alikeT (es.drop a) fs i) (h1 : es[a + i]? = some e) (h2 : fs[i]? = some f) (h3 : e.1 = f.1) : alikeT (es.drop a) fs (i + 1) := fun j hj => by
  by_cases e0 : j = i
  · subst e0
    exact ⟨e, f, by rw [List.getElem?_drop]; exact h1, h2, h3⟩
  · exact ha j (by omega)
theorem fillT_mem : ∀ {t fs : List Ent} {x : Ent}, x ∈ fillT t fs → x ∈ t ∨ x ∈ fs
  | t, [], x, h => by
    cases t <;> exact .inl h
  | [], f :: fs, x, h => .inr h
  | e :: t, f :: fs, x, h => by
    have h : x ∈ (if e.1 = f.1 then e :: fillT t fs else f :: fs) := h
    split at h
    · rcases List.mem_cons.mp h with h | h
      · exact .inl (h ▸ List.mem_cons_self)
      · exact (fillT_mem h).imp (List.mem_cons_of_mem _) (List.mem_cons_of_mem _)
    · exact .inr h
theorem fillM_ok {es fs : List Ent} {a : Nat} (h1 : okRow es) (h2 : okRow fs) : okRow (fillM es a fs) := fun e he => by
  rcases List.mem_append.mp he with h | h
  · exact h1 e (List.mem_of_mem_take h)
  · exact (fillT_mem h).elim (fun q => h1 e (List.mem_of_mem_drop q)) (h2 e)

section
variable {P : Program} {w : World} {K : PySem.W.Frag} {mg : Str → Option Value} {base : Heap} {C_OutOfPlace C_RoomError C_NoKeeper C_NoRoom C_NotLeading : Addr}
def goodM (a : Int) (es : List Ent) : Bool := decide (0 ≤ a) && decide (a ≤ (es.length : Int))
/-- filled: an error where the place is none, else a new list -/
def spFill (K : PySem.W.Frag) (C : Addr) : Sp := fun vs H Q E => ∃ B es a fs v0 v2, vs = [v0, .int a, v2] ∧ Evl.Ex B H ∧ Dq K B (rowD es) v0 ∧ Dq K B (rowD fs) v2 ∧ es.length ≤ 10000 ∧ fs.length ≤ 10000 ∧
  (goodM a es = false → ∀ B1 H1, Gr B H B1 H1 → E (.ref C) none H1) ∧
  (goodM a es = true → ∀ p xs B1 H1, Gr B H B1 H1 → H p = none → B1 p = none → H1 p = some (.lst xs) → DqAll K B1 ((fillM es a.toNat fs).map entD) xs → Q (.ref p) H1)
theorem okX_filled {f : Addr} {fd : FuncData} {Z : Bi mg} {D : DefAt K mg "filled" s_filled ["row", "at", "some"] f fd} {E_OutOfPlace : ErrC K mg "OutOfPlace" C_OutOfPlace}
    {X_OutOfPlace : PySem.W.excIn K C_OutOfPlace [.type "ValueError", .type "Exception", .type "BaseException", .type "object"] "ValueError.__new__" = true} :
    CalleeX P w K mg base (L2N.CX P w) 1 "filled" ["row", "at", "some"] (spFill K C_OutOfPlace) f fd := by
  refine D.okN sc_filled (fun vs H Q E h => ?_) fun cdv A outer s H vs Q E hr h => ?_
  · obtain ⟨B, es, a, fs, v0, v2, rfl, _⟩ := h
    rfl
  obtain ⟨B, es, a, fs, v0, v2, rfl, eb, d0, d2, hl1, hl2, hbad, hgood⟩ := h
  refine ⟨_, (pss_cons (ps_if (PW.pt (pw_or (pt_cmpR op_lt (pv 1) pe_int (nomark _)) (pw_or1 (pt_cmpR op_gt (pv 1) (pe_callB call_len_seq (by rfl) Z.z_len (by decide +kernel) (pa_cons (pv 0) pa_nil)) (nomark _))))) (pss_one (L2N.ps_raise rfl (L2N.takes_of rfl rfl rfl rfl) (L2N.pmk_own PySem.F.excBase_ValueError X_OutOfPlace E_OutOfPlace.g E_OutOfPlace.k (raises_own E_OutOfPlace.b E_OutOfPlace.t) (by exact rfl)))) pss_nil)
      (PSs.nox (pss_cons (ps_for PassesOwn.never rfl (pi_enum (by rfl) Z.z_enumerate (pa_cons (pv 2) pa_nil)) (pg_tup (by rfl) (pgs_cons (pg_name (i := 3) sc_filled.nd rfl (.inl rfl)) (pgs_cons (pg_name (i := 4) sc_filled.nd rfl (.inl rfl)) pgs_nil))) (pss_cons (ps_set (i := 5) sc_filled.nd rfl (.inl rfl) (pe_op op_add (pv 1) (pv 3)))
      (pss_one (ps_if (PW.pt (pw_or (pt_cmpR op_eq (pv 5) (pe_callB call_len_seq (by rfl) Z.z_len (by decide +kernel) (pa_cons (pv 0) pa_nil)) (nomark _)) (pw_or1 (pt_cmpR op_ne (pe_ix ix_tup (pe_ix ix_list (pv 0) (pv 5) (fun _ _ => rfl)) pe_int (fun _ _ => rfl)) (pe_ix ix_tup (pv 4) pe_int (fun _ _ => rfl)) (nomark _))))) (pss_one (ps_ret (pe_op op_cat (pe_slice sl_list (pv 0) po_none (po_some (pv 5))) (pe_slice sl_list (pv 2) (po_some (pv 3)) po_none)))) pss_nil))))
      (pss_one (ps_ret (pe_callTy call_list_of (by rfl) Z.z_list (by decide +kernel) (pa_cons (pv 0) pa_nil))))))), ?_⟩
  refine q_when (K := K) eb (et_or (et_test (evd_B0 (evd_vI rfl) evd_cI rfl)) fun _ => et_test (evd_B0 (evd_vI rfl) (evd_len (evd_v rfl d0)) rfl)) (fun hb B1 H1 g1 => ?_) fun hb B1 H1 g1 => ?_
  · refine hbad ?_ B1 H1 g1
    rw [List.length_map] at hb
    unfold goodM
    simp only [Bool.or_eq_true, decide_eq_true_eq, Bool.and_eq_false_iff, decide_eq_false_iff_not] at hb ⊢
    omega
  · have hg : 0 ≤ a ∧ a ≤ (es.length : Int) := by
      rw [List.length_map] at hb
      simp only [Bool.or_eq_false_iff, decide_eq_false_iff_not] at hb
      omega
    have hq := hgood (by unfold goodM; rw [decide_eq_true hg.1, decide_eq_true hg.2]; rfl)
    obtain ⟨n, rfl⟩ : ∃ n : Nat, a = (n : Int) := ⟨a.toNat, by omega⟩
    rw [Int.toNat_natCast] at hq
    refine q_forEnum (K := K) g1.bh (ea_cons (evd_v rfl (d2.mono g1.bb)) ea_nil) fun B2 H2 g2 => ⟨fun i σ' B3 H3 => Gr B2 H2 B3 H3 ∧ (∃ y3 y4 y5, σ' = [some v0, some (.int (n : Int)), some v2, y3, y4, y5]) ∧ alikeT (es.drop n) fs i, ⟨g2.le, ⟨none, none, none, rfl⟩, fun j hj => absurd hj (Nat.not_lt_zero _)⟩, fun i σ' B3 H3 h => ⟨h.1.bb, h.1.bh⟩, ?_, ?_⟩
    · rintro i d v σ' B3 H3 B4 H4 hi ⟨g3, ⟨y3, y4, y5, rfl⟩, hal⟩ g4 hd
      rw [List.getElem?_map] at hi
      obtain ⟨e2, he2, rfl⟩ := Option.map_eq_some_iff.mp hi
      have g14 := ((g1.trans g2).trans g3).trans g4
      have hi2 : i < fs.length := (List.getElem?_eq_some_iff.mp he2).1
      refine q_asgI (K := K) (i := ((n + i : Nat) : Int)) g4.bh (EvD.is (evd_I0 (evd_vI rfl) (evd_vI rfl) rfl) (congrArg PyData.int (by omega))) fun B5 H5 g5 => ?_
      have gA := g14.trans g5
      refine s_when (K := K) (b := decide ((n + i : Nat) = es.length) || !decide (termAt es ((n + i : Nat) : Int) = e2.1)) g5.bh (et_or (et_test (EvD.is (evd_eqI (evd_vI rfl) (evd_len (evd_v rfl (d0.mono gA.bb)))) (by rw [List.length_map]; exact congrArg PyData.bool (decide_eq_decide.mpr (by omega))))) fun hne => ?_) (fun hc B6 H6 g6 => ?_) fun hc B6 H6 g6 => ?_
      · have hne := of_decide_eq_false hne
        have hlt : n + i < es.length := by
          rcases Nat.lt_or_ge (n + i) es.length with h | h
          · exact h
          · cases i with
            | zero => omega
            | succ j =>
              obtain ⟨e, f, h1, _, _⟩ := hal j (by omega)
              rw [List.getElem?_drop] at h1
              have := (List.getElem?_eq_some_iff.mp h1).1
              omega
        exact et_test (evd_neI (evd_ixT (evd_ixL (evd_v rfl (d0.mono gA.bb)) (evd_vI rfl) (row_at (es := es) (i := ((n + i : Nat) : Int)) (by omega) (by omega))) evd_cI ent_fst) (evd_ixT (evd_v rfl (hd.mono g5.bb)) evd_cI ent_fst))
      · have gB := gA.trans g6
        have hcase : es.length ≤ n + i ∨ ∃ e f, es[n + i]? = some e ∧ fs[i]? = some f ∧ e.1 ≠ f.1 := by
          rcases Nat.lt_or_ge (n + i) es.length with h | h
          · refine .inr ⟨es[n + i], e2, List.getElem?_eq_getElem h, he2, ?_⟩
            rw [decide_eq_false (by omega), Bool.false_or, Bool.not_eq_true', decide_eq_false_iff_not] at hc
            unfold termAt at hc
            rw [Int.toNat_natCast, List.getD_eq_getElem?_getD, List.getElem?_eq_getElem h, Option.getD_some] at hc
            exact hc
          · exact .inl h
        have hfm := fillM_at (a := n) hal hi2 hcase
        refine s_retM (K := K) g6.bh (EvM.is (evm_cat (EvD.is (evd_sl (evd_v rfl (d0.mono gB.bb)) eo_none (eo_some (evd_vI rfl))) (by rw [cutD_take (by omega)])) (EvD.is (evd_sl (evd_v rfl (d2.mono gB.bb)) (eo_some (evd_vI rfl)) eo_none) (by rw [cutD_drop (by omega)])) ?_) ?_) fun p xs B7 H7 g7 hp bp h7 dp => hq p xs B7 H7 (gB.trans g7) (Evl.fresh_back gB.hh hp) bp h7 dp
        · rw [List.length_take, List.length_drop, List.length_map, List.length_map]
          omega
        · rw [hfm, List.map_append, List.map_take, List.map_drop, Int.toNat_natCast, Int.toNat_natCast]
      · rw [Bool.or_eq_false_iff] at hc
        have h1 := of_decide_eq_false hc.1
        have h2 : termAt es ((n + i : Nat) : Int) = e2.1 := by
          have := hc.2
          rw [Bool.not_eq_false', decide_eq_true_eq] at this
          exact this
        have hlt : n + i < es.length := by
          rcases Nat.lt_or_ge (n + i) es.length with h | h
          · exact h
          · cases i with
            | zero => omega
            | succ j =>
              obtain ⟨e, f, h1, _, _⟩ := hal j (by omega)
              rw [List.getElem?_drop] at h1
              have := (List.getElem?_eq_some_iff.mp h1).1
              omega
        refine ⟨B6, ((g3.trans g4).trans g5).trans g6, ⟨_, _, _, rfl⟩, alike_step hal (List.getElem?_eq_getElem hlt) he2 ?_⟩
        unfold termAt at h2
        rw [Int.toNat_natCast, List.getD_eq_getElem?_getD, List.getElem?_eq_getElem hlt, Option.getD_some] at h2
        exact h2
    · rintro σ' B3 H3 ⟨g3, ⟨y3, y4, y5, rfl⟩, hal⟩
      rw [List.length_map] at hal
      have g13 := (g1.trans g2).trans g3
      refine s_retM (K := K) g3.bh (EvM.is (evm_list (evd_v rfl (d0.mono g13.bb))) (by rw [fillM_all hal])) fun p xs B7 H7 g7 hp bp h7 dp => hq p xs B7 H7 (g13.trans g7) (Evl.fresh_back g13.hh hp) bp h7 dp
end

/-! ### the mathematics of what comes to be settled -/
theorem desc_at {s : List Int} (hs : s.Pairwise (· ≥ ·)) {k : Nat} (hk : k < s.length) (n : Int) : n ≤ s[k] ↔ k < s.countP (fun x => decide (n ≤ x)) := by
  have hp := List.pairwise_iff_getElem.mp hs
  constructor
  · intro h
    have h1 : (s.take (k + 1)).countP (fun x => decide (n ≤ x)) = (s.take (k + 1)).length := List.countP_eq_length.mpr fun x hx => by
      obtain ⟨i, hi, rfl⟩ := List.getElem_of_mem hx
      rw [List.length_take] at hi
      rw [List.getElem_take]
      have : s[i] ≥ s[k] := by
        by_cases e : i = k
        · subst e; exact Int.le_refl _
        · exact hp i k (by omega) hk (by omega)
      exact decide_eq_true (Int.le_trans h this)
    have h2 := List.Sublist.countP_le (p := fun x => decide (n ≤ x)) (List.take_sublist (k + 1) s)
    rw [h1, List.length_take] at h2
    omega
  · intro h
    refine Decidable.byContradiction fun hc => ?_
    have h1 : (s.drop k).countP (fun x => decide (n ≤ x)) = 0 := List.countP_eq_zero.mpr fun x hx => by
      obtain ⟨i, hi, rfl⟩ := List.getElem_of_mem hx
      rw [List.length_drop] at hi
      rw [List.getElem_drop]
      have : s[k] ≥ s[k + i] := by
        by_cases e : i = 0
        · subst e; exact Int.le_refl _
        · exact hp k (k + i) hk (by omega) (by omega)
      simp only [decide_eq_true_eq]
      omega
    have h2 : s.countP (fun x => decide (n ≤ x)) = (s.take k).countP (fun x => decide (n ≤ x)) + (s.drop k).countP (fun x => decide (n ≤ x)) := by
      rw [← List.countP_append, List.take_append_drop]
    have h3 := List.countP_le_length (p := fun x => decide (n ≤ x)) (l := s.take k)
    rw [List.length_take] at h3
    omega
def reach (hs : List Int) (n : Int) : Nat := hs.countP fun x => decide (n ≤ x)
def mostM (hs : List Int) : Int := if hs = [] then 0 else (hs.mergeSort fun a b => decide (b ≤ a)).getD (hs.length / 2) 0
theorem most_of {hs s : List Int} (hne : hs ≠ []) (hp : s.Perm hs) (ho : s.Pairwise (· ≥ ·)) (n : Int) : n ≤ s.getD (hs.length / 2) 0 ↔ hs.length < 2 * reach hs n := by
  have hl := hp.length_eq
  have hpos : 0 < hs.length := List.length_pos_iff.mpr hne
  have hk : hs.length / 2 < s.length := by omega
  rw [List.getD_eq_getElem?_getD, List.getElem?_eq_getElem hk, Option.getD_some, desc_at ho hk n]
  unfold reach
  rw [hp.countP_eq]
  omega
theorem mostM_char {hs : List Int} (hne : hs ≠ []) (n : Int) : n ≤ mostM hs ↔ hs.length < 2 * reach hs n := by
  unfold mostM
  rw [if_neg hne]
  refine most_of hne (List.mergeSort_perm _ _) ?_ n
  refine List.Pairwise.imp ?_ (List.pairwise_mergeSort (le := fun a b : Int => decide (b ≤ a)) ?_ ?_ hs)
  · intro a b h
    exact of_decide_eq_true h
  · intro a b c h1 h2
    have h1 := of_decide_eq_true h1
    have h2 := of_decide_eq_true h2
    exact decide_eq_true (by omega)
  · intro a b
    by_cases h : b ≤ a
    · simp [h]
    · simp only [Bool.or_eq_true, decide_eq_true_eq]
      omega
theorem most_eq {hs s : List Int} (hne : hs ≠ []) (hp : s.Perm hs) (ho : s.Pairwise (· ≥ ·)) : s.getD (hs.length / 2) 0 = mostM hs := by
  have h1 := fun n => (most_of hne hp ho n).trans (mostM_char hne n).symm
  have h2 := (h1 (s.getD (hs.length / 2) 0)).mp (Int.le_refl _)
  have h3 := (h1 (mostM hs)).mpr (Int.le_refl _)
  omega
/-- the greatest number up to n whose entry is of the term -/
def setM (es : List Ent) (t : Int) : Nat → Int
  | 0 => 0
  | n + 1 => if termAt es (n : Int) = t then ((n + 1 : Nat) : Int) else setM es t n
def settledM (es : List Ent) (t : Int) (hs : List Int) : Int := setM es t (min (mostM hs) (es.length : Int)).toNat
def dueM (es : List Ent) (t : Int) (hs : List Int) : Nat → Int
  | 0 => 0
  | n + 1 => if hs.length < 2 * reach hs ((n + 1 : Nat) : Int) ∧ termAt es (n : Int) = t then ((n + 1 : Nat) : Int) else dueM es t hs n
theorem due_set {es : List Ent} {t : Int} {hs : List Int} (hne : hs ≠ []) : ∀ n : Nat, dueM es t hs n = setM es t (min (mostM hs) (n : Int)).toNat
  | 0 => by
    have : (min (mostM hs) ((0 : Nat) : Int)).toNat = 0 := by omega
    rw [this]
    rfl
  | n + 1 => by
    have ih := due_set (es := es) (t := t) hne n
    have hc := mostM_char hne ((n + 1 : Nat) : Int)
    show (if hs.length < 2 * reach hs ((n + 1 : Nat) : Int) ∧ termAt es (n : Int) = t then ((n + 1 : Nat) : Int) else dueM es t hs n) = _
    by_cases h : ((n + 1 : Nat) : Int) ≤ mostM hs
    · have e : (min (mostM hs) ((n + 1 : Nat) : Int)).toNat = n + 1 := by omega
      rw [e]
      show _ = if termAt es (n : Int) = t then ((n + 1 : Nat) : Int) else setM es t n
      have e2 : (min (mostM hs) (n : Int)).toNat = n := by omega
      rw [e2] at ih
      by_cases ht : termAt es (n : Int) = t
      · rw [if_pos ⟨hc.mp h, ht⟩, if_pos ht]
      · rw [if_neg (fun z => ht z.2), if_neg ht, ih]
    · rw [if_neg (fun z => h (hc.mpr z.1)), ih]
      have e : (min (mostM hs) ((n + 1 : Nat) : Int)).toNat = (min (mostM hs) (n : Int)).toNat := by omega
      rw [e]
theorem reach_zero {hs : List Int} (h : ∀ x ∈ hs, 0 ≤ x) : reach hs 0 = hs.length := List.countP_eq_length.mpr fun x hx => decide_eq_true (h x hx)
theorem mostM_nn {hs : List Int} (h : ∀ x ∈ hs, 0 ≤ x) : 0 ≤ mostM hs := by
  by_cases hne : hs = []
  · subst hne
    exact Int.le_refl 0
  · refine (mostM_char hne 0).mpr ?_
    rw [reach_zero h]
    have := List.length_pos_iff.mpr hne
    omega
section
variable {P : Program} {w : World} {K : PySem.W.Frag} {mg : Str → Option Value} {base : Heap}
abbrev intsD (hs : List Int) : PyData := .list (hs.map PyData.int)
def R_most : List PyData → PyData → Prop := fun ds d => ∃ hs, ds = [intsD hs] ∧ hs.length ≤ 1000 ∧ d = .int (mostM hs)
theorem ok_most_held {f : Addr} {fd : FuncData} {Z : Bi mg} {D : DefAt K mg "most_held" s_most_held ["held"] f fd} : Callee P w K mg base 1 "most_held" ["held"] (spD K R_most) f fd := by
  refine D.run sc_most_held (fun ds d h => by obtain ⟨n, rfl, _⟩ := h; rfl) fun cdv A outer s B H vs ds d Q E hr h eb hv q => ?_
  obtain ⟨hs, rfl, hl, rfl⟩ := h
  obtain ⟨v0, vs, rfl, d0, hv⟩ := dqa_cons.mp hv
  cases dqa_nil.mp hv
  refine ⟨_, (pss_cons (ps_if (pt_not (pt_truth (pv 0) (by intro _; rfl))) (pss_one (ps_ret pe_int)) pss_nil)
      (pss_one (ps_ret (pe_ix ix_list (pe_callBK (cr_sortedRev (b := true)) (by rfl) Z.z_sorted (by decide +kernel) (pa_cons (pv 0) pa_nil) (pk_cons pe_bl pk_nil)) (pe_op op_fdiv (pe_callB call_len_seq (by rfl) Z.z_len (by decide +kernel) (pa_cons (pv 0) pa_nil)) pe_int) (fun _ _ => rfl))))), ?_⟩
  refine q_when (K := K) eb (et_not (et_truL (evd_v rfl d0))) (fun hb B1 H1 g1 => ?_) fun hb B1 H1 g1 => ?_
  · have e0 : hs = [] := by
      cases hs with
      | nil => rfl
      | cons e es => cases hb
    subst e0
    exact G.s_ret (K := K) g1.bh evd_cI fun v B2 H2 g2 p => q v B2 H2 (g1.trans g2) p
  · have hne : hs ≠ [] := by
      intro e0
      subst e0
      cases hb
    refine G.s_ret (K := K) (d := .int (mostM hs)) g1.bh ?_ fun v B2 H2 g2 p => q v B2 H2 (g1.trans g2) p
    have d1 := d0.mono g1.bb
    refine evp_op (P1 := fun B1 v => ∃ ns' : List Int, ns'.Perm hs ∧ ns'.Pairwise (· ≥ ·) ∧ Dq K B1 (.list (ns'.map PyData.int)) v) (P2 := fun B1 v => Dq K B1 (.int ((hs.length / 2 : Nat) : Int)) v) (evp_sortR (evd_v rfl d1)) ?_ ?_ ?_
    · refine EvD.is (evd_IC (evd_len (evd_v rfl d1)) evd_cI rfl ⟨by decide, by decide⟩) ?_
      rw [List.length_map]
      exact congrArg PyData.int (by omega)
    · rintro B2 B3 v e ⟨ns', p1, p2, p3⟩
      exact ⟨ns', p1, p2, p3.mono e⟩
    · rintro x y B2 H2 g2 ⟨ns', p1, p2, p3⟩ hy Q' q'
      obtain ⟨a, xs, rfl, q1, q2⟩ := dq_list.mp p3
      have hlen := p1.length_eq
      have hpos : 0 < hs.length := List.length_pos_iff.mpr hne
      refine ⟨a, xs, _, .int (mostM hs), rfl, dq_int.mp hy, Evl.sq_of (g2.bh _ _ q1), ?_, q' _ B2 H2 g2.le (dq_int.mpr rfl)⟩
      rw [ints_dq q2, atI_map, atI_in (by omega) (by omega) 0, Option.map_some, Int.toNat_natCast, most_eq hne p1 p2]
def R_settled : List PyData → PyData → Prop := fun ds d => ∃ es t hs, ds = [rowD es, .int t, intsD hs] ∧ es.length ≤ 10000 ∧ hs.length ≤ 1000 ∧ (∀ h ∈ hs, 0 ≤ h) ∧ d = .int (settledM es t hs)
theorem ok_settled_by {f fm : Addr} {fd fdm : FuncData} {Z : Bi mg} {D : DefAt K mg "settled_by" s_settled_by ["row", "term", "held"] f fd}
    {c_most_held : Callee P w K mg base 1 "most_held" ["held"] (spD K R_most) fm fdm} : Callee P w K mg base 2 "settled_by" ["row", "term", "held"] (spD K R_settled) f fd := by
  refine D.run sc_settled_by (fun ds d h => by obtain ⟨n, m, k, rfl, _⟩ := h; rfl) fun cdv A outer s B H vs ds d Q E hr h eb hv q => ?_
  obtain ⟨es, t, hs, rfl, hl, hl2, hh, rfl⟩ := h
  obtain ⟨v0, vs, rfl, d0, hv⟩ := dqa_cons.mp hv
  obtain ⟨v1, vs, rfl, d1, hv⟩ := dqa_cons.mp hv
  obtain ⟨v2, vs, rfl, d2, hv⟩ := dqa_cons.mp hv
  cases dqa_nil.mp hv
  cases dq_int.mp d1
  refine ⟨_, (pss_cons (ps_for PassesOwn.never rfl (pi_range3 (by rfl) Z.z_range (pa_cons (pe_callB (call_min2 rfl) (by rfl) Z.z_min (by decide +kernel) (pa_cons (pe_call c_most_held.G (hr.mono (by decide)) (by rfl) c_most_held.g c_most_held.kp c_most_held.b .nil pass0 (pa_cons (pv 2) pa_nil)) (pa_cons (pe_callB call_len_seq (by rfl) Z.z_len (by decide +kernel) (pa_cons (pv 0) pa_nil)) pa_nil))) (pa_cons pe_int (pa_cons (pe_un un_neg pe_int) pa_nil)))) (pg_name (i := 3) sc_settled_by.nd rfl (.inl rfl)) (pss_one (ps_if (pt_cmpR op_eq (pe_ix ix_tup (pe_ix ix_list (pv 0) (pe_op op_sub (pv 3) pe_int) (fun _ _ => rfl)) pe_int (fun _ _ => rfl)) (pv 1) (nomark _)) (pss_one (ps_ret (pv 3))) pss_nil)))
      (pss_one (ps_ret pe_int))), ?_⟩
  have hm := mostM_nn hh
  generalize hlo : min (mostM hs) (es.length : Int) = lo at *
  have hlo1 : 0 ≤ lo ∧ lo ≤ (es.length : Int) := by omega
  refine q_forDown (K := K) (lo := lo) (m := 0) eb (ea_cons (EvD.is (evd_min2 (evd_call (ea_cons (evd_v rfl d2) ea_nil) ⟨hs, rfl, hl2, rfl⟩) (evd_len (evd_v rfl d0))) (by rw [List.length_map, ← hlo]; congr 1; split <;> omega)) (ea_cons evd_cI (ea_cons (evd_neg evd_cI) ea_nil))) (by omega)
    fun B1 H1 g1 => ⟨fun i σ' B2 H2 => Gr B1 H1 B2 H2 ∧ (∃ y, σ' = [some v0, some (.int t), some v2, y]) ∧ setM es t (lo.toNat - i) = setM es t lo.toNat, ⟨g1.le, ⟨none, rfl⟩, rfl⟩, ?_, ?_⟩
  · rintro i σ' B2 H2 hi ⟨g2, ⟨y, rfl⟩, hset⟩
    obtain ⟨k, hk⟩ : ∃ k, lo.toNat - i = k + 1 := ⟨lo.toNat - i - 1, by omega⟩
    have e1 : lo - (i : Int) = ((k + 1 : Nat) : Int) := by omega
    rw [e1]
    rw [hk] at hset
    have g := g1.trans g2
    refine s_when (K := K) g2.bh (et_test (evd_eqI (evd_ixT (evd_ixL (evd_v rfl (d0.mono g.bb)) (EvD.is (evd_I0 (evd_vI rfl) evd_cI rfl) (congrArg PyData.int (show ((k + 1 : Nat) : Int) - 1 = (k : Int) by omega))) (row_at (es := es) (i := (k : Int)) (by omega) (by omega))) evd_cI ent_fst) (evd_vI rfl))) (fun hb B3 H3 g3 => ?_) fun hb B3 H3 g3 => ?_
    · have hb : termAt es (k : Int) = t := of_decide_eq_true hb
      refine G.s_ret (K := K) g3.bh (evd_vI rfl) fun v B4 H4 g4 p => q v B4 H4 ((g.trans g3).trans g4) ?_
      unfold settledM
      rw [hlo, ← hset]
      show Dq K B4 (.int (if termAt es (k : Int) = t then ((k + 1 : Nat) : Int) else setM es t k)) v
      rw [if_pos hb]
      exact p
    · have hb : ¬ termAt es (k : Int) = t := of_decide_eq_false hb
      refine ⟨B3, g2.trans g3, ⟨_, rfl⟩, ?_⟩
      have e2 : lo.toNat - (i + 1) = k := by omega
      rw [e2, ← hset]
      show _ = if termAt es (k : Int) = t then ((k + 1 : Nat) : Int) else setM es t k
      rw [if_neg hb]
  · rintro σ' B2 H2 ⟨g2, ⟨y, rfl⟩, hset⟩
    refine G.s_ret (K := K) g2.bh evd_cI fun v B4 H4 g4 p => q v B4 H4 ((g1.trans g2).trans g4) ?_
    unfold settledM
    rw [hlo, ← hset]
    have e2 : lo.toNat - (lo - 0).toNat = 0 := by omega
    rw [e2]
    exact p
end

section
variable {P : Program} {w : World} {K : PySem.W.Frag} {mg : Str → Option Value} {base : Heap}
def spKInit (K : PySem.W.Frag) (C : Addr) : Sp := fun vs H Q _ => ∃ (B : Hp) (p dx : Addr) (vr : V) (es : List Ent), vs = [.ref p, vr] ∧ Evl.Ex B H ∧ B p = none ∧ H p = some (.ins C dx []) ∧ LAt K B H (es.map entD) vr ∧
  ∀ l B1 H1, GrF (fun a => a = p) B H B1 H1 → H l = none → KpAt K C B1 H1 p l 0 es false 0 → Q .non H1
theorem ok_Keeper___init__ {f C_Keeper : Addr} {fd : FuncData} {Z : Bi mg} {T_Keeper : ClsAt K mg "Keeper" C_Keeper ["term", "row", "leads", "settled"]} {D : MethAt K C_Keeper "__init__" "Keeper.__init__" s_Keeper___init__ ["self", "row"] f fd} :
    CalleeM P w K mg base CX0 1 C_Keeper "__init__" ["self", "row"] (spKInit K C_Keeper) f fd := by
  refine D.ok sc_Keeper___init__ (fun vs H Q E h => by obtain ⟨B, p, dx, vr, es, rfl, _⟩ := h; rfl) fun cdv A outer s H vs Q E hr h => ?_
  obtain ⟨B, p, dx, vr, es, rfl, eb, bp, hp, ⟨a, xs, rfl, ha, hd⟩, q⟩ := h
  refine ⟨_, (pss_cons (ps_fld (pv 0) pe_int rfl)
      (pss_cons (ps_fld (pv 0) (pe_callTy call_list_of (by rfl) Z.z_list (by decide +kernel) (pa_cons (pv 1) pa_nil)) rfl)
      (pss_cons (ps_fld (pv 0) pe_bl rfl)
      (pss_one (ps_fld (pv 0) pe_int rfl))))), ?_⟩
  have na : a ≠ p := fun z => by rw [z, hp] at ha; cases ha
  refine q_fld (K := K) eb evd_cI (ev_var rfl) hp T_Keeper.cl (T_Keeper.na _ (by simp)) (by decide) fun v1 B1 H1 g1 d1 => ?_
  cases dq_int.mp d1
  have b1 := g1.out bp hp
  have G1 : GrF (fun a => a = p) B H B1 (upd H1 p (.ins C_Keeper dx [("term", .int 0)])) := (g1.fr).upd rfl b1
  refine q_fldM (K := K) G1.bh (evm_listV (ev_var rfl) (by rw [upd_ne na]; exact g1.hh _ _ ha) (hd.mono g1.bb)) (ev_var rfl) upd_same T_Keeper.cl (T_Keeper.na _ (by simp)) (by show 1 < 1000; decide) fun l ys B2 H2 g2 l1 l2 l3 l4 => ?_
  have G2 := G1.trans g2.fr
  have b2 := G2.out bp (some_ne hp)
  have nl : l ≠ p := fun z => by rw [z, upd_same] at l1; cases l1
  have G3 := G2.upd (p := p) (o := .ins C_Keeper dx [("term", .int 0), ("row", .ref l)]) rfl b2
  refine q_fld (K := K) G3.bh evd_cB (ev_var rfl) upd_same T_Keeper.cl (T_Keeper.na _ (by simp)) (by show 2 < 1000; decide) fun v3 B3 H3 g3 d3 => ?_
  cases dq_bool.mp d3
  have G4 := (G3.trans g3.fr).upd (p := p) (o := .ins C_Keeper dx [("term", .int 0), ("row", .ref l), ("leads", .bl false)]) rfl ((G3.trans g3.fr).out bp (some_ne hp))
  refine s_fld (K := K) G4.bh evd_cI (ev_var rfl) upd_same T_Keeper.cl (T_Keeper.na _ (by simp)) (by show 3 < 1000; decide) fun v5 B5 H5 g5 d5 => ?_
  cases dq_int.mp d5
  have G5 := G4.trans g5.fr
  have G6 := G5.upd (p := p) (o := .ins C_Keeper dx (kf 0 l false 0)) rfl (G5.out bp (some_ne hp))
  have hl0 : H l = none := by
    have := ex_none (Evl.Ex.refl H1) (a := l) (by rw [upd_ne nl] at l1; exact l1)
    exact ex_none g1.hh this
  have e3 : H3 l = some (.lst ys) := g3.hh _ _ (by rw [upd_ne nl]; exact l3)
  have e5 : H5 l = some (.lst ys) := g5.hh _ _ (by rw [upd_ne nl]; exact e3)
  have bl3 : B3 l = none := g3.out l2 (by rw [upd_ne nl]; exact l3)
  exact q l B5 _ G6 hl0 ⟨G6.out bp (some_ne hp), g5.out bl3 (by rw [upd_ne nl]; exact e3), ⟨dx, upd_same⟩, ys, by rw [upd_ne nl]; exact e5, (l4.mono g3.bb).mono g5.bb⟩
def spHear (K : PySem.W.Frag) (C : Addr) : Sp := fun vs H Q _ => ∃ (B : Hp) (p l : Addr) (t : Int) (es : List Ent) (ld : Bool) (s u : Int), vs = [.ref p, .int u] ∧ Evl.Ex B H ∧ KpAt K C B H p l t es ld s ∧
  ∀ B1 H1, GrF (fun a => a = p) B H B1 H1 → KpAt K C B1 H1 p l (if t < u then u else t) es (if t < u then false else ld) s → Q .non H1
theorem ok_Keeper_hear {f C_Keeper : Addr} {fd : FuncData} {Z : Bi mg} {T_Keeper : ClsAt K mg "Keeper" C_Keeper ["term", "row", "leads", "settled"]} {D : MethAt K C_Keeper "hear" "Keeper.hear" s_Keeper_hear ["self", "term"] f fd} :
    CalleeM P w K mg base CX0 1 C_Keeper "hear" ["self", "term"] (spHear K C_Keeper) f fd := by
  refine D.ok sc_Keeper_hear (fun vs H Q E h => by obtain ⟨B, p, l, t, es, ld, s, u, rfl, _⟩ := h; rfl) fun cdv A outer s H vs Q E hr h => ?_
  obtain ⟨B, p, l, t, es, ld, s, u, rfl, eb, hk, q⟩ := h
  refine ⟨_, (pss_one (ps_if (pt_cmpR op_gt (pv 1) (pe_fld (pv 0) rfl) (nomark _)) (pss_cons (ps_fld (pv 0) (pv 1) rfl)
      (pss_one (ps_fld (pv 0) pe_bl rfl))) pss_nil)), ?_⟩
  obtain ⟨dx, hp⟩ := hk.ex
  refine s_when (K := K) eb (et_test (evd_B0 (evd_vI rfl) (evd_fld (d := .int t) (ev_var rfl) hp T_Keeper.cl (T_Keeper.na _ (by simp)) rfl (dq_int.mpr rfl)) rfl)) (fun hb B1 H1 g1 => ?_) fun hb B1 H1 g1 => ?_
  · have hb : t < u := of_decide_eq_true hb
    rw [if_pos hb, if_pos hb] at q
    refine q_fld (K := K) g1.bh (evd_vI rfl) (ev_var rfl) (g1.hh _ _ hp) T_Keeper.cl (T_Keeper.na _ (by simp)) (by show 4 < 1000; decide) fun v2 B2 H2 g2 d2 => ?_
    cases dq_int.mp d2
    have g12 := g1.trans g2
    have k2 := (hk.gr g12).put (dx := dx) (t' := u) (ld' := ld) (s' := s)
    have G2 := (g12.fr (F := fun a => a = p)).upd (p := p) (o := .ins C_Keeper dx (kf u l ld s)) rfl (hk.gr g12).bp
    refine s_fld (K := K) G2.bh evd_cB (ev_var rfl) (dx := dx) (fs := kf u l ld s) upd_same T_Keeper.cl (T_Keeper.na _ (by simp)) (by show 4 < 1000; decide) fun v3 B3 H3 g3 d3 => ?_
    cases dq_bool.mp d3
    have G3 := G2.trans g3.fr
    exact q B3 _ (G3.upd rfl (k2.gr g3).bp) ((k2.gr g3).put (dx := dx) (t' := u) (ld' := false) (s' := s))
  · have hb : ¬ t < u := of_decide_eq_false hb
    rw [if_neg hb, if_neg hb] at q
    exact q B1 H1 g1.fr (hk.gr g1)
def spAsked (K : PySem.W.Frag) (C : Addr) : Sp := fun vs H Q _ => ∃ (B : Hp) (p l : Addr) (t : Int) (es : List Ent) (ld : Bool) (s u : Int) (vr : V) (fs : List Ent), vs = [.ref p, .int u, vr] ∧ Evl.Ex B H ∧ KpAt K C B H p l t es ld s ∧ LAt K B H (fs.map entD) vr ∧
  ∀ B1 H1, GrF (fun a => a = p) B H B1 H1 → KpAt K C B1 H1 p l (if t < u then u else t) es (if t < u then false else ld) s → Q (.bl (decide (t < u) && newM fs es)) H1
theorem ok_Keeper_asked {f fh fn C_Keeper : Addr} {fd fdh fdn : FuncData} {Z : Bi mg} {T_Keeper : ClsAt K mg "Keeper" C_Keeper ["term", "row", "leads", "settled"]} {D : MethAt K C_Keeper "asked" "Keeper.asked" s_Keeper_asked ["self", "term", "row"] f fd}
    {c_Keeper_hear : CalleeM P w K mg base CX0 1 C_Keeper "hear" ["self", "term"] (spHear K C_Keeper) fh fdh}
    {c_as_new : Callee P w K mg base 2 "as_new" ["row", "other"] (spD K R_new) fn fdn} :
    CalleeM P w K mg base CX0 3 C_Keeper "asked" ["self", "term", "row"] (spAsked K C_Keeper) f fd := by
  refine D.ok sc_Keeper_asked (fun vs H Q E h => by obtain ⟨B, p, l, t, es, ld, s, u, vr, fs, rfl, _⟩ := h; rfl) fun cdv A outer s H vs Q E hr h => ?_
  obtain ⟨B, p, l, t, es, ld, s, u, vr, fs, rfl, eb, hk, hl, q⟩ := h
  refine ⟨_, (pss_cons (ps_if (pt_cmpR op_le (pv 1) (pe_fld (pv 0) rfl) (nomark _)) (pss_one (ps_ret pe_bl)) pss_nil)
      (pss_cons (ps_expr (pe_meth (pv 0) T_Keeper.cl c_Keeper_hear.M c_Keeper_hear.G (hr.mono (by decide)) c_Keeper_hear.b .nil pass0 (pa_cons (pv 1) pa_nil)))
      (pss_one (ps_ret (pe_call c_as_new.G (hr.mono (by decide)) (by rfl) c_as_new.g c_as_new.kp c_as_new.b .nil pass0 (pa_cons (pv 2) (pa_cons (pe_fld (pv 0) rfl) pa_nil))))))), ?_⟩
  obtain ⟨dx, hp⟩ := hk.ex
  refine q_when (K := K) eb (et_test (evd_B0 (evd_vI rfl) (evd_fld (d := .int t) (ev_var rfl) hp T_Keeper.cl (T_Keeper.na _ (by simp)) rfl (dq_int.mpr rfl)) rfl)) (fun hb B1 H1 g1 => ?_) fun hb B1 H1 g1 => ?_
  · have hb : ¬ t < u := Int.not_lt.mpr (of_decide_eq_true hb)
    rw [if_neg hb, if_neg hb, decide_eq_false hb] at q
    refine G.s_ret (K := K) g1.bh evd_cB fun v B2 H2 g2 p2 => ?_
    rw [dq_bool.mp p2]
    exact q B2 H2 (g1.trans g2).fr (hk.gr (g1.trans g2))
  · have hb : t < u := Int.not_le.mp (of_decide_eq_false hb)
    rw [if_pos hb, if_pos hb, decide_eq_true hb, Bool.true_and] at q
    refine m_meth (P := fun B1 vs => DqAll K B1 [.int u] vs) (B := B1) g1.bh (ev_var rfl) (g1.hh _ _ hp) rfl (ea_cons (evd_vI rfl) ea_nil) fun vs B2 H2 g2 hv => ?_
    obtain ⟨v0, vs, rfl, d0, hv⟩ := dqa_cons.mp hv
    cases dqa_nil.mp hv
    cases dq_int.mp d0
    have g12 := g1.trans g2
    refine ⟨B2, p, l, t, es, ld, s, u, rfl, g2.bh, hk.gr g12, fun B3 H3 g3 k3 => ?_⟩
    rw [if_pos hb, if_pos hb] at k3
    obtain ⟨a, xs, rfl, ha, hd⟩ := hl
    have na := hk.ne ha
    obtain ⟨ys, hy, hdy⟩ := k3.row
    obtain ⟨dx3, hp3⟩ := k3.ex
    have ha3 : H3 a = some (.lst xs) := g3.hh _ _ (g12.hh _ _ ha) na
    refine G.s_ret (K := K) (d := .bool (newM fs es)) (te := tCall _ [] _ _) g3.bh (evd_tmp (B' := kept B3 H3 [a, l]) (kept_ex g3.bh) (kept_in g3.bh) (evd_call (ea_cons (evd_v rfl (kept_dq g3.bh ha3 (by simp) ((hd.mono g12.bb).mono g3.bb)))
      (ea_cons (evd_fld (ev_var rfl) hp3 T_Keeper.cl (T_Keeper.na _ (by simp)) rfl (kept_dq g3.bh hy (by simp) hdy)) ea_nil)) ⟨fs, es, rfl, rfl⟩)) fun v B4 H4 g4 p4 => ?_
    rw [dq_bool.mp p4]
    exact q B4 H4 ((g12.fr.trans g3).trans g4.fr) (k3.gr g4)
end

section
variable {P : Program} {w : World} {K : PySem.W.Frag} {mg : Str → Option Value} {base : Heap} {C_Room C_Keeper C_NoRoom C_NoKeeper C_NotLeading C_OutOfPlace : Addr}
/-! ### the room's methods -/
theorem okN_Room_keeper {f : Addr} {fd : FuncData} {Z : Bi mg} {T_Room : ClsAt K mg "Room" C_Room ["keepers", "places", "held"]} {T_Keeper : ClsAt K mg "Keeper" C_Keeper ["term", "row", "leads", "settled"]} {E_NoKeeper : ErrC K mg "NoKeeper" C_NoKeeper}
    {X_NoKeeper : PySem.W.excIn K C_NoKeeper [.type "ValueError", .type "Exception", .type "BaseException", .type "object"] "ValueError.__new__" = true}
    {D : MethAt K C_Room "keeper" "Room.keeper" s_Room_keeper ["self", "k"] f fd} : CalleeM P w K mg base (L2N.CX P w) 1 C_Room "keeper" ["self", "k"] (spKeep K C_Room C_Keeper C_NoKeeper) f fd := by
  refine D.okN sc_Room_keeper (fun vs H Q E h => by obtain ⟨B, n, S, M, ad, i, rfl, _⟩ := h; rfl) fun cdv A outer s H vs Q E hr h => ?_
  obtain ⟨B, n, S, M, ad, i, rfl, eb, R, hq, he⟩ := h
  refine ⟨_, (pss_cons (ps_if (pt_cmpR G.op_notin_rng (pv 1) (pe_callTy G.cr_range1 (by rfl) Z.z_range (by decide +kernel) (pa_cons (pe_callB call_len_seq (by rfl) Z.z_len (by decide +kernel) (pa_cons (pe_fld (pv 0) rfl) pa_nil)) pa_nil)) (by rfl)) (pss_one (L2N.ps_raise rfl (L2N.takes_of rfl rfl rfl rfl) (L2N.pmk_own PySem.F.excBase_ValueError X_NoKeeper E_NoKeeper.g E_NoKeeper.k (raises_own E_NoKeeper.b E_NoKeeper.t) (by exact rfl)))) pss_nil)
      (PSs.nox (pss_one (ps_ret (pe_ix ix_list (pe_fld (pv 0) rfl) (pv 1) (fun _ _ => rfl)))))), ?_⟩
  obtain ⟨dx, hrm⟩ := R.room
  refine q_when (K := K) (b := !decide (0 ≤ i ∧ i < (n : Int))) eb (et_notinR (evd_vI rfl) (EvD.is (evd_lenM (ev_fld (ev_var rfl) hrm T_Room.cl (T_Room.na _ (by simp)) rfl) R.keepers) (by rw [len_refs]))) (fun hb B1 H1 g1 => ?_) fun hb B1 H1 g1 => ?_
  · have hb : ¬ (0 ≤ i ∧ i < (n : Int)) := fun z => by rw [decide_eq_true z] at hb; cases hb
    exact he (by omega) B1 H1 g1
  · have hb : 0 ≤ i ∧ i < (n : Int) := Decidable.byContradiction fun z => by rw [decide_eq_false z] at hb; cases hb
    obtain ⟨k, rfl⟩ : ∃ k : Nat, i = (k : Int) := ⟨i.toNat, by omega⟩
    have hk : k < n := by omega
    refine s_retV g1.bh (ev_ixM (K := K) (ev_fld (ev_var rfl) (g1.hh _ _ hrm) T_Room.cl (T_Room.na _ (by simp)) rfl) (g1.hh _ _ R.keepers) (evd_vI rfl) (atI_refs hk)) fun B2 H2 g2 => hq k rfl hk B2 H2 (g1.trans g2)
def spBegin (K : PySem.W.Frag) (CR CK : Addr) : Sp := fun vs H Q _ => ∃ (B : Hp) (n : Nat) (S : Rf.Room Str) (ad : Ad) (k : Nat), vs = [.ref (ad .r), .int (k : Int)] ∧ Evl.Ex B H ∧ RAt K CR CK B H n S (Mfull S) ad ∧ n ≤ 9 ∧ k < n ∧
  ∀ B1 H1 ad', GrF (fun a => ∃ x, Lab.ok n x ∧ a = ad x) B H B1 H1 → RAt K CR CK B1 H1 n (Rf.put S k { S k with leads := true, next := fun _ => (S k).row.length, held := fun _ => 0 }) (Mfull (Rf.put S k { S k with leads := true, next := fun _ => (S k).row.length, held := fun _ => 0 })) ad' →
    (∀ x, Lab.ok n x → ad' x = ad x ∨ H (ad' x) = none) → ad' .r = ad .r → (∀ v, ad' (.p v) = ad (.p v)) → Q .non H1
theorem ok_Room_begin {f : Addr} {fd : FuncData} {Z : Bi mg} {T_Room : ClsAt K mg "Room" C_Room ["keepers", "places", "held"]} {T_Keeper : ClsAt K mg "Keeper" C_Keeper ["term", "row", "leads", "settled"]}
    {D : MethAt K C_Room "begin" "Room.begin" s_Room_begin ["self", "k"] f fd} : CalleeM P w K mg base CX0 1 C_Room "begin" ["self", "k"] (spBegin K C_Room C_Keeper) f fd := by
  refine D.ok sc_Room_begin (fun vs H Q E h => by obtain ⟨B, n, S, ad, k, rfl, _⟩ := h; rfl) fun cdv A outer s H vs Q E hr h => ?_
  obtain ⟨B, n, S, ad, k, rfl, eb, R, n9, hk, q⟩ := h
  refine ⟨_, (pss_cons (ps_set (i := 2) sc_Room_begin.nd rfl (.inl rfl) (pe_ix ix_list (pe_fld (pv 0) rfl) (pv 1) (fun _ _ => rfl)))
      (pss_cons (ps_fld (pv 2) pe_bl rfl)
      (pss_cons (ps_asg (pe_op op_rep (pe_lst (pa_cons (pe_callB call_len_seq (by rfl) Z.z_len (by decide +kernel) (pa_cons (pe_fld (pv 2) rfl) pa_nil)) pa_nil)) (pe_callB call_len_seq (by rfl) Z.z_len (by decide +kernel) (pa_cons (pe_fld (pv 0) rfl) pa_nil))) (pg_sub (pe_fld (pv 0) rfl) (pv 1) set_list))
      (pss_one (ps_asg (pe_op op_rep (pe_lst (pa_cons pe_int pa_nil)) (pe_callB call_len_seq (by rfl) Z.z_len (by decide +kernel) (pa_cons (pe_fld (pv 0) rfl) pa_nil))) (pg_sub (pe_fld (pv 0) rfl) (pv 1) set_list)))))), ?_⟩
  obtain ⟨dr, hrm⟩ := R.room
  refine q_asgV eb (ev_ixM (K := K) (ev_fld (ev_var rfl) hrm T_Room.cl (T_Room.na _ (by simp)) rfl) R.keepers (evd_vI rfl) (atI_refs hk)) fun B1 H1 g1 => ?_
  have R1 := R.gr g1
  obtain ⟨dx, hp⟩ := (R1.kp hk).ex
  refine q_fld (K := K) g1.bh evd_cB (ev_var rfl) hp T_Keeper.cl (T_Keeper.na _ (by simp)) (by show 4 < 1000; decide) fun v2 B2 H2 g2 d2 => ?_
  cases dq_bool.mp d2
  generalize hy : ({ S k with leads := true, next := fun _ => (S k).row.length, held := fun _ => 0 } : Rf.Kp Str) = y at q
  have y1 : y.term = (S k).term := by rw [← hy]
  have y2 : y.row = (S k).row := by rw [← hy]
  have y3 : y.leads = true := by rw [← hy]
  have y4 : y.settled = (S k).settled := by rw [← hy]
  have y5 : y.next = fun _ => (S k).row.length := by rw [← hy]
  have y6 : y.held = fun _ => 0 := by rw [← hy]
  have R2 := R1.gr g2
  have K2 := (R2.kp hk).put (dx := dx) (t' := (S k).term) (ld' := true) (s' := ((S k).settled : Int))
  have G2 : GrF (fun a => a = ad (.p k)) B1 H1 B2 (upd H2 (ad (.p k)) (.ins C_Keeper dx (kf (S k).term (ad (.l k)) true ((S k).settled : Int)))) := g2.fr.upd rfl (R2.kp hk).bp
  have R3 : RAt K C_Room C_Keeper B2 (upd H2 (ad (.p k)) (.ins C_Keeper dx (kf (S k).term (ad (.l k)) true ((S k).settled : Int)))) n (Rf.put S k y) (fun x => x ≠ .P k ∧ x ≠ .Q k ∧ Mfull (Rf.put S k y) x) ad :=
    R1.setKp hk G2 (by rw [y1, y2, y3, y4]; exact K2) (fun z => absurd rfl z.1) (fun z => absurd rfl z.2.1) fun v hv => ⟨fun z => by
      have z : (Rf.put S k y v).leads = true := z.2.2
      rw [Rf.put_ne hv] at z
      exact z, fun z => by
      have z : (Rf.put S k y v).leads = true := z.2.2
      rw [Rf.put_ne hv] at z
      exact z⟩
  have hF : ∀ a, a = ad (.p k) → ∃ x, Lab.ok n x ∧ a = ad x := fun a z => ⟨.p k, hk, z⟩
  have G12 : GrF (fun a => ∃ x, Lab.ok n x ∧ a = ad x) B H B2 _ := g1.fr.trans (G2.mono hF)
  show tSeq _ _ _ _ (upd H2 (ad (.p k)) (.ins C_Keeper dx (kf (S k).term (ad (.l k)) true ((S k).settled : Int))))
  generalize upd H2 (ad (.p k)) (.ins C_Keeper dx (kf (S k).term (ad (.l k)) true ((S k).settled : Int))) = H3 at R3 G12
  obtain ⟨dr3, hrm3⟩ := R3.room
  obtain ⟨dx3, hp3⟩ := (R3.kp hk).ex
  obtain ⟨xr3, hl3, dl3⟩ := R3.row hk
  rw [Rf.put_same, y2] at dl3
  refine q_setLM (K := K) (ds := (List.replicate ((n : Int)).toNat [.int ((S k).row.length : Int)]).flatten) G12.bh (evm_rep (evd_lst (ea_cons (EvD.is (evd_lenM (ev_fld (ev_var rfl) hp3 T_Keeper.cl (T_Keeper.na _ (by simp)) rfl) hl3) (by rw [dl3.len, List.length_map])) ea_nil) (by show 1 ≤ 100000; decide))
    (EvD.is (evd_lenM (ev_fld (ev_var rfl) hrm3 T_Room.cl (T_Room.na _ (by simp)) rfl) R3.keepers) (by rw [len_refs])) (by omega) (by show 1 * _ ≤ 100000; omega)) (ev_fld (ev_var rfl) hrm3 T_Room.cl (T_Room.na _ (by simp)) rfl) R3.places (evd_vI rfl) (ixN_of (by rw [len_refs]; exact hk)) fun p4 ys4 B4 H4 g4 a1 a2 a3 a4 => ?_
  rw [Int.toNat_natCast, rep_ints] at a4
  have hys4 : ys4 = intsV n (fun _ => (S k).row.length) := dqa_ints_eq (f := fun _ => ((S k).row.length : Int)) a4
  have R4 := R3.setP (M' := fun x => x ≠ .Q k ∧ Mfull (Rf.put S k y) x) hk g4 a1 a2 a3 (fun _ => by rw [Rf.put_same, y5]; exact hys4) fun x hx z => ⟨hx, z.1, z.2⟩
  have G4 : GrF (fun a => ∃ x, Lab.ok n x ∧ a = ad x) B H B4 _ := G12.trans ((g4.fr (F := fun a => ∃ x, Lab.ok n x ∧ a = ad x)).upd (p := ad .lp) (o := .lst ((refsV n fun v => ad (.P v)).set k (.ref p4))) ⟨.lp, trivial, rfl⟩ (g4.out (R3.b .lp trivial) R3.places))
  have hp4 : H p4 = none := G12.back a1
  generalize upd H4 (ad .lp) (.lst ((refsV n fun v => ad (.P v)).set k (.ref p4))) = H5 at R4 G4
  obtain ⟨dr5, hrm5⟩ := R4.room
  refine s_setLM (K := K) (ds := (List.replicate ((n : Int)).toNat [.int (0 : Int)]).flatten) G4.bh (evm_rep (evd_lst (ea_cons evd_cI ea_nil) (by show 1 ≤ 100000; decide))
    (EvD.is (evd_lenM (ev_fld (ev_var rfl) hrm5 T_Room.cl (T_Room.na _ (by simp)) rfl) R4.keepers) (by rw [len_refs])) (by omega) (by show 1 * _ ≤ 100000; omega)) (ev_fld (ev_var rfl) hrm5 T_Room.cl (T_Room.na _ (by simp)) rfl) R4.helds (evd_vI rfl) (ixN_of (by rw [len_refs]; exact hk)) fun p6 ys6 B6 H6 g6 b1 b2 b3 b4 => ?_
  rw [Int.toNat_natCast, rep_ints] at b4
  have hys6 : ys6 = intsV n (fun _ => 0) := dqa_ints_eq (f := fun _ => 0) b4
  have R6 := R4.setQ (M' := Mfull (Rf.put S k y)) hk g6 b1 b2 b3 (fun _ => by rw [Rf.put_same, y6]; exact hys6) fun x hx z => ⟨hx, z⟩
  have G6 : GrF (fun a => ∃ x, Lab.ok n x ∧ a = ad x) B H B6 _ := G4.trans ((g6.fr (F := fun a => ∃ x, Lab.ok n x ∧ a = ad x)).upd (p := ad .lh) (o := .lst ((refsV n fun v => reL ad (.P k) p4 (.Q v)).set k (.ref p6))) ⟨.lh, trivial, rfl⟩ (g6.out (R4.b .lh trivial) R4.helds))
  have hp6 : H p6 = none := G4.back b1
  refine q B6 _ _ G6 R6 (fun x ok => ?_) rfl fun v => rfl
  by_cases e6 : x = .Q k
  · rw [e6, reL_same]
    exact .inr hp6
  · rw [reL_ne e6]
    by_cases e4 : x = .P k
    · rw [e4, reL_same]
      exact .inr hp4
    · rw [reL_ne e4]
      exact .inl rfl
theorem okN_Room_rest {f f1 : Addr} {fd fd1 : FuncData} {Z : Bi mg} {T_Room : ClsAt K mg "Room" C_Room ["keepers", "places", "held"]} {T_Keeper : ClsAt K mg "Keeper" C_Keeper ["term", "row", "leads", "settled"]}
    {x_Room_keeper : CalleeM P w K mg base (L2N.CX P w) 1 C_Room "keeper" ["self", "k"] (spKeep K C_Room C_Keeper C_NoKeeper) f1 fd1}
    {D : MethAt K C_Room "rest" "Room.rest" s_Room_rest ["self", "k"] f fd} : CalleeM P w K mg base (L2N.CX P w) 2 C_Room "rest" ["self", "k"] (spRest (RA K C_Room C_Keeper)) f fd := by
  refine D.okN sc_Room_rest (fun vs H Q E h => by obtain ⟨B, r, n, S, F, k, rfl, _⟩ := h; rfl) fun cdv A outer s H vs Q E hr h => ?_
  obtain ⟨B, r, n, S, F, k, rfl, eb, ⟨ad, R, rfl, hF⟩, ft, n9, hk, q⟩ := h
  refine ⟨_, (pss_cons (ps_set (i := 2) sc_Room_rest.nd rfl (.inl rfl) (pe_meth (pv 0) T_Room.cl x_Room_keeper.M x_Room_keeper.G (hr.mono (by decide)) x_Room_keeper.b .nil (L2N.passes_call (L2N.takes_of rfl rfl rfl rfl) (fun _ _ _ _ h => h)) (pa_cons (pv 1) pa_nil)))
      (PSs.nox (pss_cons (ps_fld (pv 2) pe_bl rfl)
      (pss_one (ps_fld (pv 2) pe_int rfl))))), ?_⟩
  refine q_asgV eb (ev_keep R hk (ev_var rfl) (evd_vI rfl)) fun B1 H1 g1 => ?_
  have R1 := R.gr g1
  obtain ⟨dx, hp⟩ := (R1.kp hk).ex
  refine q_fld (K := K) g1.bh evd_cB (ev_var rfl) hp T_Keeper.cl (T_Keeper.na _ (by simp)) (by show 4 < 1000; decide) fun v2 B2 H2 g2 d2 => ?_
  cases dq_bool.mp d2
  have R2 := R1.gr g2
  have K2 := (R2.kp hk).put (dx := dx) (t' := (S k).term) (ld' := false) (s' := ((S k).settled : Int))
  have G2 : GrF (fun a => a = ad (.p k)) B1 H1 B2 (upd H2 (ad (.p k)) (.ins C_Keeper dx (kf (S k).term (ad (.l k)) false ((S k).settled : Int)))) := g2.fr.upd rfl (R2.kp hk).bp
  refine s_fld (K := K) G2.bh evd_cI (ev_var rfl) (dx := dx) (fs := kf (S k).term (ad (.l k)) false ((S k).settled : Int)) upd_same T_Keeper.cl (T_Keeper.na _ (by simp)) (by show 4 < 1000; decide) fun v3 B3 H3 g3 d3 => ?_
  cases dq_int.mp d3
  have K3 := (K2.gr g3).put (dx := dx) (t' := (S k).term) (ld' := false) (s' := (0 : Int))
  have G3 : GrF (fun a => a = ad (.p k)) B1 H1 B3 (upd H3 (ad (.p k)) (.ins C_Keeper dx (kf (S k).term (ad (.l k)) false 0))) := (G2.trans g3.fr).upd rfl (K2.gr g3).bp
  exact q.use0 rfl hF ((g1.fr (F := fun a => a = ad (.p k))).trans G3) (fun a z => (hF a).mpr ⟨.p k, hk, z⟩) (R1.setKpF (y := { S k with leads := false, settled := 0 }) hk G3 K3 fun z => nomatch z)
theorem okN_Room_term_of {f f1 : Addr} {fd fd1 : FuncData} {Z : Bi mg} {T_Room : ClsAt K mg "Room" C_Room ["keepers", "places", "held"]} {T_Keeper : ClsAt K mg "Keeper" C_Keeper ["term", "row", "leads", "settled"]}
    {x_Room_keeper : CalleeM P w K mg base (L2N.CX P w) 1 C_Room "keeper" ["self", "k"] (spKeep K C_Room C_Keeper C_NoKeeper) f1 fd1}
    {D : MethAt K C_Room "term_of" "Room.term_of" s_Room_term_of ["self", "k"] f fd} : CalleeM P w K mg base (L2N.CX P w) 2 C_Room "term_of" ["self", "k"] (spTell K (RA K C_Room C_Keeper) fun x => .int x.term) f fd := by
  refine D.okN sc_Room_term_of (fun vs H Q E h => by obtain ⟨B, r, n, S, F, k, rfl, _⟩ := h; rfl) fun cdv A outer s H vs Q E hr h => ?_
  obtain ⟨B, r, n, S, F, k, rfl, eb, ⟨ad, R, rfl, hF⟩, ft, n9, hk, q⟩ := h
  refine ⟨_, (pss_one (ps_ret (pe_fld (pe_meth (pv 0) T_Room.cl x_Room_keeper.M x_Room_keeper.G (hr.mono (by decide)) x_Room_keeper.b .nil (L2N.passes_call (L2N.takes_of rfl rfl rfl rfl) (fun _ _ _ _ h => h)) (pa_cons (pv 1) pa_nil)) rfl))), ?_⟩
  refine s_retX (ev_keep R hk (ev_var rfl) (evd_vI rfl) B H (Gr.refl eb) _ fun v B1 H1 g1 e => ?_)
  subst e
  obtain ⟨dx, hp⟩ := ((R.gr g1).kp hk).ex
  exact ⟨_, C_Keeper, dx, _, _, rfl, hp, T_Keeper.cl, T_Keeper.na _ (by simp), rfl, q _ B1 H1 g1 (dq_int.mpr rfl)⟩
theorem okN_Room_leading {f f1 : Addr} {fd fd1 : FuncData} {Z : Bi mg} {T_Room : ClsAt K mg "Room" C_Room ["keepers", "places", "held"]} {T_Keeper : ClsAt K mg "Keeper" C_Keeper ["term", "row", "leads", "settled"]}
    {x_Room_keeper : CalleeM P w K mg base (L2N.CX P w) 1 C_Room "keeper" ["self", "k"] (spKeep K C_Room C_Keeper C_NoKeeper) f1 fd1}
    {D : MethAt K C_Room "leading" "Room.leading" s_Room_leading ["self", "k"] f fd} : CalleeM P w K mg base (L2N.CX P w) 2 C_Room "leading" ["self", "k"] (spTell K (RA K C_Room C_Keeper) fun x => .bool x.leads) f fd := by
  refine D.okN sc_Room_leading (fun vs H Q E h => by obtain ⟨B, r, n, S, F, k, rfl, _⟩ := h; rfl) fun cdv A outer s H vs Q E hr h => ?_
  obtain ⟨B, r, n, S, F, k, rfl, eb, ⟨ad, R, rfl, hF⟩, ft, n9, hk, q⟩ := h
  refine ⟨_, (pss_one (ps_ret (pe_fld (pe_meth (pv 0) T_Room.cl x_Room_keeper.M x_Room_keeper.G (hr.mono (by decide)) x_Room_keeper.b .nil (L2N.passes_call (L2N.takes_of rfl rfl rfl rfl) (fun _ _ _ _ h => h)) (pa_cons (pv 1) pa_nil)) rfl))), ?_⟩
  refine s_retX (ev_keep R hk (ev_var rfl) (evd_vI rfl) B H (Gr.refl eb) _ fun v B1 H1 g1 e => ?_)
  subst e
  obtain ⟨dx, hp⟩ := ((R.gr g1).kp hk).ex
  exact ⟨_, C_Keeper, dx, _, _, rfl, hp, T_Keeper.cl, T_Keeper.na _ (by simp), rfl, q _ B1 H1 g1 (dq_bool.mpr rfl)⟩
theorem okN_Room_row_of {f f1 : Addr} {fd fd1 : FuncData} {Z : Bi mg} {T_Room : ClsAt K mg "Room" C_Room ["keepers", "places", "held"]} {T_Keeper : ClsAt K mg "Keeper" C_Keeper ["term", "row", "leads", "settled"]}
    {x_Room_keeper : CalleeM P w K mg base (L2N.CX P w) 1 C_Room "keeper" ["self", "k"] (spKeep K C_Room C_Keeper C_NoKeeper) f1 fd1}
    {D : MethAt K C_Room "row_of" "Room.row_of" s_Room_row_of ["self", "k"] f fd} : CalleeM P w K mg base (L2N.CX P w) 2 C_Room "row_of" ["self", "k"] (spGive K (RA K C_Room C_Keeper) fun x => x.row) f fd := by
  refine D.okN sc_Room_row_of (fun vs H Q E h => by obtain ⟨B, r, n, S, F, k, rfl, _⟩ := h; rfl) fun cdv A outer s H vs Q E hr h => ?_
  obtain ⟨B, r, n, S, F, k, rfl, eb, ⟨ad, R, rfl, hF⟩, ft, n9, hk, q⟩ := h
  refine ⟨_, (pss_one (ps_ret (pe_callTy call_list_of (by rfl) Z.z_list (by decide +kernel) (pa_cons (pe_fld (pe_meth (pv 0) T_Room.cl x_Room_keeper.M x_Room_keeper.G (hr.mono (by decide)) x_Room_keeper.b .nil (L2N.passes_call (L2N.takes_of rfl rfl rfl rfl) (fun _ _ _ _ h => h)) (pa_cons (pv 1) pa_nil)) rfl) pa_nil)))), ?_⟩
  have ek : EvV (tFld K (tMeth C_Room "keeper" (spKeep K C_Room C_Keeper C_NoKeeper) [] E (tVar 0) (tCons (tVar 1) tNil)) "row") [some (.ref (ad .r)), some (.int (k : Int))] B H (.ref (ad (.l k))) := fun B1 H1 g Q q => ev_keep R hk (ev_var rfl) (evd_vI rfl) B1 H1 g _ fun v B2 H2 g2 e => by
    subst e
    obtain ⟨dx, hp⟩ := ((R.gr (g.trans g2)).kp hk).ex
    exact ⟨_, C_Keeper, dx, _, _, rfl, hp, T_Keeper.cl, T_Keeper.na _ (by simp), rfl, q _ B2 H2 g2 rfl⟩
  obtain ⟨xs, hx, dx⟩ := R.row hk
  exact s_retM (K := K) eb (evm_listV ek hx dx) q
theorem okN_Room_settled_of {f f1 : Addr} {fd fd1 : FuncData} {Z : Bi mg} {T_Room : ClsAt K mg "Room" C_Room ["keepers", "places", "held"]} {T_Keeper : ClsAt K mg "Keeper" C_Keeper ["term", "row", "leads", "settled"]}
    {x_Room_keeper : CalleeM P w K mg base (L2N.CX P w) 1 C_Room "keeper" ["self", "k"] (spKeep K C_Room C_Keeper C_NoKeeper) f1 fd1}
    {D : MethAt K C_Room "settled_of" "Room.settled_of" s_Room_settled_of ["self", "k"] f fd} : CalleeM P w K mg base (L2N.CX P w) 2 C_Room "settled_of" ["self", "k"] (spGive K (RA K C_Room C_Keeper) Rf.part) f fd := by
  refine D.okN sc_Room_settled_of (fun vs H Q E h => by obtain ⟨B, r, n, S, F, k, rfl, _⟩ := h; rfl) fun cdv A outer s H vs Q E hr h => ?_
  obtain ⟨B, r, n, S, F, k, rfl, eb, ⟨ad, R, rfl, hF⟩, ft, n9, hk, q⟩ := h
  refine ⟨_, (pss_cons (ps_set (i := 2) sc_Room_settled_of.nd rfl (.inl rfl) (pe_meth (pv 0) T_Room.cl x_Room_keeper.M x_Room_keeper.G (hr.mono (by decide)) x_Room_keeper.b .nil (L2N.passes_call (L2N.takes_of rfl rfl rfl rfl) (fun _ _ _ _ h => h)) (pa_cons (pv 1) pa_nil)))
      (PSs.nox (pss_one (ps_ret (pe_slice sl_list (pe_fld (pv 2) rfl) po_none (po_some (pe_fld (pv 2) rfl))))))), ?_⟩
  refine q_asgV eb (ev_keep R hk (ev_var rfl) (evd_vI rfl)) fun B1 H1 g1 => ?_
  have R1 := R.gr g1
  obtain ⟨dx, hp⟩ := (R1.kp hk).ex
  obtain ⟨xs, hx, dd⟩ := R1.row hk
  refine s_retM (K := K) g1.bh (EvM.is (evm_slM (ev_fld (ev_var rfl) hp T_Keeper.cl (T_Keeper.na _ (by simp)) rfl) hx dd eo_none (eo_some (evd_fld (d := .int ((S k).settled : Int)) (ev_var rfl) hp T_Keeper.cl (T_Keeper.na _ (by simp)) rfl (dq_int.mpr rfl)))) (by
    rw [cut_take (by omega), Int.toNat_natCast, ← List.map_take]
    rfl)) fun p ys B2 H2 g2 h1 h2 h3 h4 => q p ys B2 H2 (g1.trans g2) (ex_none g1.hh h1) h2 h3 h4
def spLead (K : PySem.W.Frag) (CR CK CN : Addr) : Sp := fun vs H Q E => ∃ (B : Hp) (n : Nat) (S : Rf.Room Str) (M : Lab → Prop) (ad : Ad) (k : Nat), vs = [.ref (ad .r), .int (k : Int)] ∧ Evl.Ex B H ∧ RAt K CR CK B H n S M ad ∧ k < n ∧
  ((S k).leads = true → ∀ B1 H1, Gr B H B1 H1 → Q (.ref (ad (.p k))) H1) ∧ ((S k).leads = false → ∀ B1 H1, Gr B H B1 H1 → E (.ref CN) none H1)
theorem okN_Room_leader {f f1 : Addr} {fd fd1 : FuncData} {Z : Bi mg} {T_Room : ClsAt K mg "Room" C_Room ["keepers", "places", "held"]} {T_Keeper : ClsAt K mg "Keeper" C_Keeper ["term", "row", "leads", "settled"]} {E_NotLeading : ErrC K mg "NotLeading" C_NotLeading}
    {X_NotLeading : PySem.W.excIn K C_NotLeading [.type "ValueError", .type "Exception", .type "BaseException", .type "object"] "ValueError.__new__" = true}
    {x_Room_keeper : CalleeM P w K mg base (L2N.CX P w) 1 C_Room "keeper" ["self", "k"] (spKeep K C_Room C_Keeper C_NoKeeper) f1 fd1}
    {D : MethAt K C_Room "leader" "Room.leader" s_Room_leader ["self", "k"] f fd} : CalleeM P w K mg base (L2N.CX P w) 2 C_Room "leader" ["self", "k"] (spLead K C_Room C_Keeper C_NotLeading) f fd := by
  refine D.okN sc_Room_leader (fun vs H Q E h => by obtain ⟨B, n, S, M, ad, k, rfl, _⟩ := h; rfl) fun cdv A outer s H vs Q E hr h => ?_
  obtain ⟨B, n, S, M, ad, k, rfl, eb, R, hk, q1, q2⟩ := h
  refine ⟨_, (pss_cons (ps_set (i := 2) sc_Room_leader.nd rfl (.inl rfl) (pe_meth (pv 0) T_Room.cl x_Room_keeper.M x_Room_keeper.G (hr.mono (by decide)) x_Room_keeper.b .nil (L2N.passes_call (L2N.takes_of rfl rfl rfl rfl) (fun _ _ _ _ h => h)) (pa_cons (pv 1) pa_nil)))
      (pss_cons (ps_if (pt_not (pt_val (pe_fld (pv 2) rfl))) (pss_one (L2N.ps_raise rfl (L2N.takes_of rfl rfl rfl rfl) (L2N.pmk_own PySem.F.excBase_ValueError X_NotLeading E_NotLeading.g E_NotLeading.k (raises_own E_NotLeading.b E_NotLeading.t) (by exact rfl)))) pss_nil)
      (PSs.nox (pss_one (ps_ret (pv 2)))))), ?_⟩
  refine q_asgV eb (ev_keep R hk (ev_var rfl) (evd_vI rfl)) fun B1 H1 g1 => ?_
  have R1 := R.gr g1
  obtain ⟨dx, hp⟩ := (R1.kp hk).ex
  refine q_when (K := K) (b := !(S k).leads) g1.bh (et_not (et_B (evd_fld (d := .bool (S k).leads) (ev_var rfl) hp T_Keeper.cl (T_Keeper.na _ (by simp)) rfl (dq_bool.mpr rfl)))) (fun hb B2 H2 g2 => ?_) fun hb B2 H2 g2 => ?_
  · exact q2 (by simpa using hb) B2 H2 (g1.trans g2)
  · exact s_retV g2.bh (ev_var rfl) fun B3 H3 g3 => q1 (by simpa using hb) B3 H3 ((g1.trans g2).trans g3)
theorem ev_lead {σ : L2.St} {B H : Hp} {ta tb : TE} {n k : Nat} {S : Rf.Room Str} {M : Lab → Prop} {ad : Ad} {E : XK} (R : RAt K C_Room C_Keeper B H n S M ad) (hk : k < n) (hl : (S k).leads = true) (h : EvV ta σ B H (.ref (ad .r))) (hb : EvD K tb σ B H (.int (k : Int))) :
    EvV (tMeth C_Room "leader" (spLead K C_Room C_Keeper C_NotLeading) [] E ta (tCons tb tNil)) σ B H (.ref (ad (.p k))) := fun B1 H1 g Q q => by
  obtain ⟨dx, hr⟩ := (R.gr g).room
  refine m_meth (P := fun B2 vs => DqAll K B2 [.int (k : Int)] vs) g.bh (EvV.mono g h) hr rfl (ea_cons (hb.mono g) ea_nil) fun vs B2 H2 g2 hv => ?_
  obtain ⟨w0, vs, rfl, e0, hv⟩ := dqa_cons.mp hv
  cases dqa_nil.mp hv
  cases dq_int.mp e0
  exact ⟨B2, n, S, M, ad, k, rfl, g2.bh, (R.gr g).gr g2, hk, fun _ B3 H3 g3 => q _ B3 H3 (g2.trans g3) rfl, fun z => by rw [hl] at z; cases z⟩
/-- who does not lead is refused -/
theorem q_noLead {σ : L2.St} {B H : Hp} {ta tb : TE} {D : Ends} {tz : TS} {z n k : Nat} {S : Rf.Room Str} {M : Lab → Prop} {ad : Ad} {E : XK} (R : RAt K C_Room C_Keeper B H n S M ad) (g0 : Evl.Ex B H) (hk : k < n) (hl : (S k).leads = false) (h : EvV ta σ B H (.ref (ad .r))) (hb : EvD K tb σ B H (.int (k : Int)))
    (q : ∀ B1 H1, Gr B H B1 H1 → E (.ref C_NotLeading) none H1) : tSeq (tAsg (tMeth C_Room "leader" (spLead K C_Room C_Keeper C_NotLeading) [] E ta (tCons tb tNil)) (gName z)) tz D σ H := by
  obtain ⟨dx, hr⟩ := R.room
  refine q_asgX (m_meth (P := fun B2 vs => DqAll K B2 [.int (k : Int)] vs) g0 h hr rfl (ea_cons hb ea_nil) fun vs B2 H2 g2 hv => ?_)
  obtain ⟨w0, vs, rfl, e0, hv⟩ := dqa_cons.mp hv
  cases dqa_nil.mp hv
  cases dq_int.mp e0
  exact ⟨B2, n, S, M, ad, k, rfl, g2.bh, R.gr g2, hk, (fun w => by rw [hl] at w; cases w), fun _ B3 H3 g3 => q B3 H3 (g2.trans g3)⟩
theorem okN_Room___init__ {f f1 : Addr} {fd fd1 : FuncData} {Z : Bi mg} {tk_MOST : Tok} {gM_MOST : mg "MOST" = some (.int 9 tk_MOST)} {T_Room : ClsAt K mg "Room" C_Room ["keepers", "places", "held"]} {T_Keeper : ClsAt K mg "Keeper" C_Keeper ["term", "row", "leads", "settled"]} {E_NoRoom : ErrC K mg "NoRoom" C_NoRoom}
    {X_NoRoom : PySem.W.excIn K C_NoRoom [.type "ValueError", .type "Exception", .type "BaseException", .type "object"] "ValueError.__new__" = true}
    {c_Keeper___init__ : CalleeM P w K mg base CX0 1 C_Keeper "__init__" ["self", "row"] (spKInit K C_Keeper) f1 fd1}
    {D : MethAt K C_Room "__init__" "Room.__init__" s_Room___init__ ["self", "count"] f fd} : CalleeM P w K mg base (L2N.CX P w) 3 C_Room "__init__" ["self", "count"] (spNew C_Room (RA K C_Room C_Keeper)) f fd := by
  refine D.okN sc_Room___init__ (fun vs H Q E h => by obtain ⟨B, p, dx, n, rfl, _⟩ := h; rfl) fun cdv A outer s H vs Q E hr h => ?_
  obtain ⟨B, p, dx, n, rfl, eb, bp, hp, n1, n9, q⟩ := h
  refine ⟨_, (pss_cons (ps_if (PW.pt (pw_or (pt_val (pe_callB call_isi (by rfl) Z.z_isinstance (by decide +kernel) (pa_cons (pv 1) (pa_cons (pe_bltn (v := .ty "bool") (u := .type "bool") (by rfl) Z.z_bool (by decide +kernel) rfl) pa_nil)))) (pw_or1 (pt_not (pt_val (pe_callB call_isi (by rfl) Z.z_isinstance (by decide +kernel) (pa_cons (pv 1) (pa_cons (pe_bltn (v := .ty "int") (u := .type "int") (by rfl) Z.z_int (by decide +kernel) rfl) pa_nil)))))))) (pss_one (L2N.ps_raise rfl (L2N.takes_of rfl rfl rfl rfl) (L2N.pmk_own PySem.F.excBase_ValueError X_NoRoom E_NoRoom.g E_NoRoom.k (raises_own E_NoRoom.b E_NoRoom.t) (by exact rfl)))) pss_nil)
      (pss_cons (ps_if (PW.pt (pw_or (pt_cmpR op_lt (pv 1) pe_int (nomark _)) (pw_or1 (pt_cmpR op_gt (pv 1) (pe_glob (v := .int 9) (by rfl) gM_MOST ⟨_, rfl⟩) (nomark _))))) (pss_one (L2N.ps_raise rfl (L2N.takes_of rfl rfl rfl rfl) (L2N.pmk_own PySem.F.excBase_ValueError X_NoRoom E_NoRoom.g E_NoRoom.k (raises_own E_NoRoom.b E_NoRoom.t) (by exact rfl)))) pss_nil)
      (PSs.nox (pss_cons (ps_fld (pv 0) (pe_lc (own := [("k", 2)]) (g := gName 2) (tt := tYes) rfl sc_Room___init__.nd (pi_range1 (by rfl) Z.z_range (pa_cons (pv 1) pa_nil)) (blkOk_by (own := [("k", 2)]) (N := ["self", "count", "k"]) (sc := defScope s_Room___init__) (by decide +kernel)) (fun _ _ _ _ _ => pg_name (i := 2) sc_Room___init__.nd rfl (Or.inl rfl)) (fun _ _ _ _ _ => pts_nil) (fun _ _ _ _ _ => (pe_make (T_Keeper.Mk c_Keeper___init__.M) c_Keeper___init__.G (hr.mono (by decide)) (by rfl) T_Keeper.g c_Keeper___init__.b .nil pass0 (pa_cons (pe_lst pa_nil) pa_nil)))) rfl)
      (pss_cons (ps_fld (pv 0) (pe_lc (own := [("k", 2)]) (g := gName 2) (tt := tYes) rfl sc_Room___init__.nd (pi_range1 (by rfl) Z.z_range (pa_cons (pv 1) pa_nil)) (blkOk_by (own := [("k", 2)]) (N := ["self", "count", "k"]) (sc := defScope s_Room___init__) (by decide +kernel)) (fun _ _ _ _ _ => pg_name (i := 2) sc_Room___init__.nd rfl (Or.inl rfl)) (fun _ _ _ _ _ => pts_nil) (fun _ _ _ _ _ => (pe_lst pa_nil))) rfl)
      (pss_one (ps_fld (pv 0) (pe_lc (own := [("k", 2)]) (g := gName 2) (tt := tYes) rfl sc_Room___init__.nd (pi_range1 (by rfl) Z.z_range (pa_cons (pv 1) pa_nil)) (blkOk_by (own := [("k", 2)]) (N := ["self", "count", "k"]) (sc := defScope s_Room___init__) (by decide +kernel)) (fun _ _ _ _ _ => pg_name (i := 2) sc_Room___init__.nd rfl (Or.inl rfl)) (fun _ _ _ _ _ => pts_nil) (fun _ _ _ _ _ => (pe_lst pa_nil))) rfl))))))), ?_⟩
  refine q_when (K := K) (b := false) eb (et_or0 (et_B (evd_isi (evd_vI rfl) (by decide +kernel : kitB "int" "bool" = some false))) (et_not (b := true) (et_B (evd_isi (evd_vI rfl) (by decide +kernel : kitB "int" "int" = some true))))) (fun z => nomatch z) fun _ B1 H1 g1 => ?_
  refine q_when (K := K) (b := false) g1.bh (EvT.is (et_or0 (EvT.is (et_test (evd_B0 (evd_vI rfl) evd_cI rfl)) (decide_eq_false (by omega))) (et_test (evd_B0 (evd_vI rfl) evd_cI rfl))) (decide_eq_false (by omega))) (fun z => nomatch z) fun _ B2 H2 g2 => ?_
  have g12 := g1.trans g2
  have hp2 := g12.hh _ _ hp
  have bp2 := g12.out bp hp
  -- the keepers
  refine q_fldX (C := C_Room) (m_lcR (K := K) (m := (n : Int)) (B := B2) g2.bh (ea_cons (evd_vI rfl) ea_nil) (by omega) (fun _ => rfl) fun B3 H3 Dl g3 hD bD => ⟨fun i acc B' H' => Gr B3 H3 B' H' ∧ B' Dl = none ∧ ∃ fp fl : Nat → Addr, acc = refsV i fp ∧
      (∀ v, v < i → KpAt K C_Keeper B' H' (fp v) (fl v) 0 [] false 0 ∧ H3 (fp v) = none ∧ H3 (fl v) = none ∧ fl v ≠ Dl) ∧ (∀ v w, v < i → w < i → fp v = fp w → v = w) ∧ (∀ v w, v < i → w < i → fl v = fl w → v = w),
    ⟨Gr.newM g3.bh hD, bD, fun _ => 0, fun _ => 0, rfl, (fun v hv => absurd hv (Nat.not_lt_zero _)), (fun v w hv => absurd hv (Nat.not_lt_zero _)), fun v w hv => absurd hv (Nat.not_lt_zero _)⟩, ?_, ?_⟩)
  · rintro i acc B4 H4 hi ha ⟨gg, b4, fp, fl, rfl, hf, ip, il⟩ hDl Q' q'
    refine m_make (P := fun B1 vs => DqAll K B1 [rowD []] vs) (B := B4) gg.bh ?_ fun vs B5 H5 x dx2 g5 hv nx ndx ne => ?_
    · exact ea_cons (evd_lst ea_nil (Nat.zero_le _)) ea_nil
    obtain ⟨v5, vs5, rfl, d5, hv⟩ := dqa_cons.mp hv
    cases dqa_nil.mp hv
    have X5 : Gr B5 H5 B5 (upd (upd H5 dx2 (.own x)) x (.ins C_Keeper dx2 [])) := made_gr g5.bh nx ndx
    refine ⟨B5, x, dx2, _, [], rfl, X5.bh, ex_none g5.bh nx, upd_same, (d5.lat g5.bh).mono X5, fun l B6 H6 g6 l0 k6 => ⟨rfl, ?_⟩⟩
    have G6 : Gr B5 H5 B6 H6 := (X5.fr.trans g6).new fun a z => by rw [z]; exact nx
    have g56 := g5.trans G6
    have hD6 : H6 Dl = some (.lst (refsV i fp)) := g56.hh _ _ hDl
    have lD : l ≠ Dl := fun z => by
      have := X5.hh _ _ (g5.hh _ _ hDl)
      rw [← z, l0] at this
      cases this
    have xD : x ≠ Dl := fun z => by
      have := g5.hh _ _ hDl
      rw [← z, nx] at this
      cases this
    have GD : GrF (fun a => a = Dl) B6 H6 B6 (upd H6 Dl (.lst (refsV i fp ++ [.ref x]))) := (GrF.refl G6.bh).upd rfl (g56.out b4 hDl)
    have old : ∀ v, v < i → KpAt K C_Keeper B6 H6 (fp v) (fl v) 0 [] false 0 ∧ fp v ≠ x ∧ fl v ≠ l ∧ fp v ≠ Dl := fun v hv => by
      have kk := (hf v hv).1
      obtain ⟨_, e1⟩ := kk.ex
      obtain ⟨_, e2, _⟩ := kk.row
      refine ⟨kk.gr g56, fun z => ?_, fun z => ?_, fun z => ?_⟩
      · have := g5.hh _ _ e1
        rw [z, nx] at this
        cases this
      · have := X5.hh _ _ (g5.hh _ _ e2)
        rw [z, l0] at this
        cases this
      · rw [z, hDl] at e1
        cases e1
    have l0' : H5 l = none := by
      cases e : H5 l with
      | none => rfl
      | some o =>
        have := X5.hh _ _ e
        rw [l0] at this
        cases this
    refine q' _ B6 H6 hD6 ⟨(gg.trans g56).mut hD (g56.out b4 hDl), g56.out b4 hDl, exF fp i x, exF fl i l, exF_refs, fun v hv => ?_, exF_inj ip fun v hv => (old v hv).2.1, exF_inj il fun v hv => (old v hv).2.2.1⟩
    by_cases e : v = i
    · rw [e, exF_same, exF_same]
      exact ⟨k6.same GD (fun z => xD z) (fun z => lD z), ex_none (gg.trans g5).hh nx, ex_none (gg.trans g5).hh l0', lD⟩
    · rw [exF_ne e, exF_ne e]
      have hv' : v < i := by omega
      exact ⟨(old v hv').1.same GD (fun z => (old v hv').2.2.2 z) (fun z => (hf v hv').2.2.2 z), (hf v hv').2.1, (hf v hv').2.2.1, (hf v hv').2.2.2⟩
  rintro acc B4 H4 ha ⟨gg, b4', fp, fl, rfl, hf, ip, il⟩ hDl
  rw [Int.toNat_natCast] at *
  have hpD : p ≠ Dl := fun z => by
    have := (g3.hh _ _ hp2)
    rw [z, hD] at this
    cases this
  have g24 := g3.trans gg
  have hp4 := g24.hh _ _ hp2
  have bp4 := g24.out bp2 hp2
  refine ⟨_, rfl, p, C_Room, dx, _, rfl, hp4, T_Room.cl, T_Room.na _ (by simp), (by show 0 < 1000; decide), ?_⟩
  have G5 : GrF (fun a => a = p) B2 H2 B4 (upd H4 p (.ins C_Room dx [("keepers", .ref Dl)])) := (g24.fr).upd rfl bp4
  have k5 : ∀ v, v < n → KpAt K C_Keeper B4 (upd H4 p (.ins C_Room dx [("keepers", .ref Dl)])) (fp v) (fl v) 0 [] false 0 := fun v hv => (hf v hv).1.same (F := fun a => a = p) ((GrF.refl gg.bh).upd rfl bp4) (fun z => by
      have := g3.hh _ _ hp2
      rw [← z, (hf v hv).2.1] at this
      cases this) (fun z => by
      have := g3.hh _ _ hp2
      rw [← z, (hf v hv).2.2.1] at this
      cases this)
  have hD5 : upd H4 p (.ins C_Room dx [("keepers", .ref Dl)]) Dl = some (.lst (refsV n fp)) := by rw [upd_ne fun z => hpD z.symm]; exact hDl
  have hp5 : upd H4 p (.ins C_Room dx [("keepers", .ref Dl)]) p = some (.ins C_Room dx [("keepers", .ref Dl)]) := upd_same
  show tSeq _ _ _ _ (upd H4 p (.ins C_Room dx [("keepers", .ref Dl)]))
  generalize upd H4 p (.ins C_Room dx [("keepers", .ref Dl)]) = H5 at *
  -- the places
  refine q_fldX (C := C_Room) (m_lists (K := K) (n := n) (B := B4) G5.bh (ea_cons (evd_vI rfl) ea_nil) rfl n9 (fun _ => rfl) fun lp fP B6 H6 g6 a1 a2 a3 a4 a5 => ?_)
  have hp6 := g6.hh _ _ hp5
  have bp6 := g6.out bp4 hp5
  have nlp : lp ≠ p := fun z => by rw [z, hp5] at a1; cases a1
  refine ⟨_, rfl, p, C_Room, dx, _, rfl, hp6, T_Room.cl, T_Room.na _ (by simp), (by show 1 < 1000; decide), ?_⟩
  have U7 : GrF (fun a => a = p) B4 H5 B6 (upd H6 p (.ins C_Room dx [("keepers", .ref Dl), ("places", .ref lp)])) := (g6.fr).upd rfl bp6
  have hp7 : upd H6 p (.ins C_Room dx [("keepers", .ref Dl), ("places", .ref lp)]) p = some (.ins C_Room dx [("keepers", .ref Dl), ("places", .ref lp)]) := upd_same
  have hlp7 : upd H6 p (.ins C_Room dx [("keepers", .ref Dl), ("places", .ref lp)]) lp = some (.lst (refsV n fP)) := by rw [upd_ne nlp]; exact a3
  have hP7 : ∀ v, v < n → upd H6 p (.ins C_Room dx [("keepers", .ref Dl), ("places", .ref lp)]) (fP v) = some (.lst []) := fun v hv => by
    rw [upd_ne fun z => by
      have := (a4 v hv).2.2.1
      rw [z, hp5] at this
      cases this]
    exact (a4 v hv).1
  show sFld _ _ _ _ _ _ (upd H6 p (.ins C_Room dx [("keepers", .ref Dl), ("places", .ref lp)]))
  have k7 : ∀ v, v < n → KpAt K C_Keeper B6 (upd H6 p (.ins C_Room dx [("keepers", .ref Dl), ("places", .ref lp)])) (fp v) (fl v) 0 [] false 0 := fun v hv => (k5 v hv).same U7 (fun z => by
      obtain ⟨_, e⟩ := (k5 v hv).ex
      have := g3.hh _ _ hp2
      rw [← z, (hf v hv).2.1] at this
      cases this) (fun z => by
      have := g3.hh _ _ hp2
      rw [← z, (hf v hv).2.2.1] at this
      cases this)
  have hD7 : upd H6 p (.ins C_Room dx [("keepers", .ref Dl), ("places", .ref lp)]) Dl = some (.lst (refsV n fp)) := by rw [upd_ne fun z => hpD z.symm]; exact g6.hh _ _ hD5
  generalize upd H6 p (.ins C_Room dx [("keepers", .ref Dl), ("places", .ref lp)]) = H7 at *
  refine s_fldX (C := C_Room) (m_lists (K := K) (n := n) (B := B6) U7.bh (ea_cons (evd_vI rfl) ea_nil) rfl n9 (fun _ => rfl) fun lh fQ B8 H8 g8 b1 b2 b3 b4 b5 => ?_)
  have hp8 := g8.hh _ _ hp7
  have bp8 := g8.out bp6 hp7
  have nlh : lh ≠ p := fun z => by rw [z, hp7] at b1; cases b1
  refine ⟨_, rfl, p, C_Room, dx, _, rfl, hp8, T_Room.cl, T_Room.na _ (by simp), (by show 2 < 1000; decide), ?_⟩
  have U9 : GrF (fun a => a = p) B6 H7 B8 (upd H8 p (.ins C_Room dx [("keepers", .ref Dl), ("places", .ref lp), ("held", .ref lh)])) := (g8.fr).upd rfl bp8
  have GG : GrF (fun a => a = p) B H B8 (upd H8 p (.ins C_Room dx [("keepers", .ref Dl), ("places", .ref lp), ("held", .ref lh)])) := (((g12.fr).trans G5).trans U7).trans U9
  have nfp : ∀ v, v < n → fp v ≠ p := fun v hv z => by
    have := g3.hh _ _ hp2
    rw [← z, (hf v hv).2.1] at this
    cases this
  have nfl : ∀ v, v < n → fl v ≠ p := fun v hv z => by
    have := g3.hh _ _ hp2
    rw [← z, (hf v hv).2.2.1] at this
    cases this
  have nfP : ∀ v, v < n → fP v ≠ p := fun v hv z => by
    have := (a4 v hv).2.2.1
    rw [z, hp5] at this
    cases this
  have nfQ : ∀ v, v < n → fQ v ≠ p := fun v hv z => by
    have := (b4 v hv).2.2.1
    rw [z, hp7] at this
    cases this
  obtain ⟨R, hnew⟩ := RAt.make (K := K) (CR := C_Room) (CK := C_Keeper) (n := n) (B := B8) (H := upd H8 p (.ins C_Room dx [("keepers", .ref Dl), ("places", .ref lp), ("held", .ref lh)])) (H0 := H2) (H1 := H5) (H2 := H7) (r := p) (lk := Dl) (lp := lp) (lh := lh) (dx := dx) (fp := fp) (fl := fl) (fP := fP) (fQ := fQ)
    G5.hn U7.hn (some_ne hp2) (ex_none g3.hh hD) (some_ne hD5) (fun v hv => ⟨ex_none g3.hh (hf v hv).2.1, some_ne (k5 v hv).ex.choose_spec⟩) (fun v hv => ⟨ex_none g3.hh (hf v hv).2.2.1, some_ne (k5 v hv).row.choose_spec.1, (hf v hv).2.2.2⟩)
    a1 (some_ne hlp7) (fun v hv => ⟨(a4 v hv).2.2.1, some_ne (hP7 v hv), (a4 v hv).2.2.2⟩) b1 (fun v hv => ⟨(b4 v hv).2.2.1, (b4 v hv).2.2.2⟩) ip il a5 b5
    bp8 (g8.out (g6.out b4' hD5) hD7) (g8.out a2 hlp7) b2 (fun v hv => g8.out (a4 v hv).2.1 (hP7 v hv)) (fun v hv => (b4 v hv).2.1)
    upd_same (by rw [upd_ne fun z => hpD z.symm]; exact g8.hh _ _ hD7) (by rw [upd_ne nlp]; exact g8.hh _ _ hlp7) (by rw [upd_ne nlh]; exact b3)
    (fun v hv => (k7 v hv).same U9 (nfp v hv) (nfl v hv)) (fun v hv => by rw [upd_ne (nfP v hv)]; exact g8.hh _ _ (hP7 v hv)) (fun v hv => by rw [upd_ne (nfQ v hv)]; exact (b4 v hv).1)
  refine q B8 _ (fun a => ∃ x, Lab.ok n x ∧ a = mkAd p Dl lp lh fp fl fP fQ x) GG (fun a ⟨x, ok, e⟩ => ?_) ⟨_, R, rfl, fun a => Iff.rfl⟩
  rcases hnew x ok with z | z
  · exact .inl (by rw [e, z])
  · exact .inr (by rw [e]; exact ex_none g12.hh z)
theorem lastT_rf (es : List Ent) : lastT es = Rf.lastT es := by
  unfold lastT Rf.lastT
  cases es.getLast? <;> rfl
theorem newM_rf (es fs : List Ent) : newM es fs = Rf.newM es fs := by
  unfold newM Rf.newM
  rw [lastT_rf, lastT_rf]
theorem ask_same {t : Int} {r : List Ent} {X : Rf.Room Str} {c o : Nat} (h : ¬ (X o).term < t) : Rf.ask1 t r (X, c) o = (X, c) := if_neg h
theorem ask_less {t : Int} {r : List Ent} {X : Rf.Room Str} {c o : Nat} (h : (X o).term < t) : Rf.ask1 t r (X, c) o = (Rf.put X o { X o with term := t, leads := false }, if Rf.newM r (X o).row = true then c + 1 else c) := if_pos h
theorem okN_Room_stand {f f1 f2 f3 f4 : Addr} {fd fd1 fd2 fd3 fd4 : FuncData} {Z : Bi mg} {T_Room : ClsAt K mg "Room" C_Room ["keepers", "places", "held"]} {T_Keeper : ClsAt K mg "Keeper" C_Keeper ["term", "row", "leads", "settled"]}
    {x_Room_keeper : CalleeM P w K mg base (L2N.CX P w) 1 C_Room "keeper" ["self", "k"] (spKeep K C_Room C_Keeper C_NoKeeper) f1 fd1}
    {c_Keeper_hear : CalleeM P w K mg base CX0 1 C_Keeper "hear" ["self", "term"] (spHear K C_Keeper) f2 fd2}
    {c_Keeper_asked : CalleeM P w K mg base CX0 3 C_Keeper "asked" ["self", "term", "row"] (spAsked K C_Keeper) f3 fd3}
    {c_Room_begin : CalleeM P w K mg base CX0 1 C_Room "begin" ["self", "k"] (spBegin K C_Room C_Keeper) f4 fd4}
    {D : MethAt K C_Room "stand" "Room.stand" s_Room_stand ["self", "k", "others"] f fd} : CalleeM P w K mg base (L2N.CX P w) 4 C_Room "stand" ["self", "k", "others"] (spStand K (RA K C_Room C_Keeper)) f fd := by
  refine D.okN sc_Room_stand (fun vs H Q E h => by obtain ⟨B, r, n, S, F, k, os, vl, rfl, _⟩ := h; rfl) fun cdv A outer s H vs Q E hr h => ?_
  obtain ⟨B, r, n, S, F, k, os, vl, rfl, eb, ⟨ad, R, rfl, hF⟩, ft, n9, hk, ho, hol, dl, q⟩ := h
  refine ⟨_, (pss_cons (ps_set (i := 3) sc_Room_stand.nd rfl (.inl rfl) (pe_meth (pv 0) T_Room.cl x_Room_keeper.M x_Room_keeper.G (hr.mono (by decide)) x_Room_keeper.b .nil (L2N.passes_call (L2N.takes_of rfl rfl rfl rfl) (fun _ _ _ _ h => h)) (pa_cons (pv 1) pa_nil)))
      (pss_cons (L2N.ps_setLcX (i := 4) (own := [("other", 7)]) (g := gName 7) (tt := tYes) rfl rfl (L2N.takes_of rfl rfl rfl rfl) rfl sc_Room_stand.nd rfl rfl (sw_true rfl rfl rfl (by decide +kernel)) (pi_list (pv 2)) (blkOk_by (own := [("other", 7)]) (N := ["self", "k", "others", "keeper", "voters", "voices", "voter", "other"]) (sc := defScope s_Room_stand) (by decide +kernel)) (fun _ _ _ _ _ => pg_name (i := 7) sc_Room_stand.nd rfl (Or.inl rfl)) (fun _ _ _ _ _ => pts_nil) (fun _ _ _ _ _ pn xe hx => (pe_meth (pv 0) T_Room.cl x_Room_keeper.M x_Room_keeper.G (hr.mono (by decide)) x_Room_keeper.b .nil hx (pa_cons (pv 7) pa_nil))))
      (PSs.nox (pss_cons (ps_expr (pe_meth (pv 3) T_Keeper.cl c_Keeper_hear.M c_Keeper_hear.G (hr.mono (by decide)) c_Keeper_hear.b .nil pass0 (pa_cons (pe_op op_add (pe_fld (pv 3) rfl) pe_int) pa_nil)))
      (pss_cons (ps_set (i := 5) sc_Room_stand.nd rfl (.inl rfl) pe_int)
      (pss_cons (ps_for PassesOwn.never rfl (pi_list (pv 4)) (pg_name (i := 6) sc_Room_stand.nd rfl (.inl rfl)) (pss_one (ps_if (pt_val (pe_meth (pv 6) T_Keeper.cl c_Keeper_asked.M c_Keeper_asked.G (hr.mono (by decide)) c_Keeper_asked.b .nil pass0 (pa_cons (pe_fld (pv 3) rfl) (pa_cons (pe_fld (pv 3) rfl) pa_nil)))) (pss_one (ps_aug (i := 5) sc_Room_stand.nd rfl (.inl rfl) pe_int ip_add)) pss_nil)))
      (pss_cons (ps_if (pt_cmpR op_gt (pe_op op_mul pe_int (pv 5)) (pe_callB call_len_seq (by rfl) Z.z_len (by decide +kernel) (pa_cons (pe_fld (pv 0) rfl) pa_nil)) (nomark _)) (pss_one (ps_expr (pe_meth (pv 0) T_Room.cl c_Room_begin.M c_Room_begin.G (hr.mono (by decide)) c_Room_begin.b .nil pass0 (pa_cons (pv 1) pa_nil)))) pss_nil)
      (pss_one (ps_ret (pe_fld (pv 3) rfl)))))))))), ?_⟩
  refine q_asgV eb (ev_keep R hk (ev_var rfl) (evd_vI rfl)) fun B1 H1 g1 => ?_
  have R1 := R.gr g1
  refine q_asgX (m_lcL (K := K) (fun i => .ref (ad (.p (os.getD i 0)))) g1.bh (evd_v rfl (dl.mono g1.bb)) (by rw [List.length_map]; omega) (fun _ => rfl) (fun i d v B2 H2 g2 hd dv => ?_) fun lv B2 H2 g2 l1 l2 l3 => ?_)
  · rw [List.getElem?_map] at hd
    obtain ⟨o, e1, rfl⟩ := Option.map_eq_some_iff.mp hd
    cases dq_int.mp dv
    have e2 : os.getD i 0 = o := by rw [List.getD_eq_getElem?_getD, e1]; rfl
    rw [e2]
    exact ev_keep (R1.gr g2) (ho o (List.mem_of_getElem? e1)) (ev_var rfl) (evd_vI rfl)
  rw [List.length_map] at l3
  generalize hxs : (List.range os.length).map (fun i => V.ref (ad (.p (os.getD i 0)))) = xs at l3
  have hx : ∀ (i : Nat) (v : V), xs[i]? = some v → ∃ o, os[i]? = some o ∧ v = V.ref (ad (.p o)) := fun i v e => by
    rw [← hxs] at e
    have hi : i < os.length := by
      have := (List.getElem?_eq_some_iff.mp e).1
      rw [List.length_map, List.length_range] at this
      exact this
    rw [map_range_get _ hi] at e
    refine ⟨os.getD i 0, ?_, (Option.some.inj e).symm⟩
    rw [List.getD_eq_getElem?_getD, List.getElem?_eq_getElem hi]
    rfl
  have hxl : xs.length = os.length := by rw [← hxs, List.length_map, List.length_range]
  have R2 := R1.gr g2
  have g12 := g1.trans g2
  -- it hears of its new term
  obtain ⟨dx, hp⟩ := (R2.kp hk).ex
  refine q_dropX (m_meth (P := fun B1 vs => DqAll K B1 [.int ((S k).term + 1)] vs) (B := B2) g2.bh (ev_var rfl) hp rfl ?_ fun vs B3 H3 g3 hv => ?_)
  · exact ea_cons (evd_I0 (evd_fld (d := .int (S k).term) (ev_var rfl) hp T_Keeper.cl (T_Keeper.na _ (by simp)) rfl (dq_int.mpr rfl)) evd_cI rfl) ea_nil
  obtain ⟨w0, vs, rfl, e0, hv⟩ := dqa_cons.mp hv
  cases dqa_nil.mp hv
  cases dq_int.mp e0
  refine ⟨B3, _, _, _, _, _, _, _, rfl, g3.bh, (R2.gr g3).kp hk, fun B4 H4 g4 k4 => ?_⟩
  rw [if_pos (Int.lt_succ _), if_pos (Int.lt_succ _)] at k4
  generalize ht : (S k).term + 1 = t at k4
  have R4 := (R2.gr g3).setKpF (y := { S k with term := t, leads := false }) hk g4 k4 fun z => nomatch z
  generalize hS4 : Rf.put S k { S k with term := t, leads := false } = S4 at R4
  have s4t : (S4 k).term = t := by rw [← hS4, Rf.put_same]
  have s4r : (S4 k).row = (S k).row := by rw [← hS4, Rf.put_same]
  have hFp : ∀ v, v < n → ∀ a, a = ad (.p v) → ∃ x, Lab.ok n x ∧ a = ad x := fun v hv a z => ⟨.p v, hv, z⟩
  have G4 : GrF (fun a => ∃ x, Lab.ok n x ∧ a = ad x) B H B4 H4 := ((g12.trans g3).fr).trans (g4.mono (hFp k hk))
  have nlv : ∀ x, Lab.ok n x → ad x ≠ lv := fun x ok z => R1.there ok (by rw [z]; exact l1)
  have hlv4 : H4 lv = some (.lst xs) := g4.hh _ _ (g3.hh _ _ l3) fun z => nlv (.p k) hk z.symm
  have bh4 := g4.bh
  refine q_asgI (K := K) bh4 evd_cI fun B5 H5 g5 => ?_
  have R5 := R4.gr g5
  refine q_forM (K := K) (l := lv) (xs := xs) g5.bh (ev_var rfl) (g5.hh _ _ hlv4) fun B6 H6 g6 => ⟨fun i σ' B' H' => GrF (fun a => ∃ x, Lab.ok n x ∧ a = ad x) B5 H5 B' H' ∧ H' lv = some (.lst xs) ∧ (∃ y6 y7, σ' = [some (.ref (ad .r)), some (.int (k : Int)), some vl, some (.ref (ad (.p k))), some (.ref lv), some (.int (((os.take i).foldl (Rf.ask1 t (S k).row) (S4, 1)).2 : Int)), y6, y7]) ∧
      RAt K C_Room C_Keeper B' H' n ((os.take i).foldl (Rf.ask1 t (S k).row) (S4, 1)).1 (Mfull ((os.take i).foldl (Rf.ask1 t (S k).row) (S4, 1)).1) ad, ⟨g6.fr, g6.hh _ _ (g5.hh _ _ hlv4), ⟨_, _, rfl⟩, R5.gr g6⟩, fun i σ' B' H' h => h.2.1, ?_, ?_⟩
  · rintro i v σ' B7 H7 hv ⟨GA, hl7, ⟨y6, y7, rfl⟩, R7⟩
    obtain ⟨o, e1, rfl⟩ := hx i v hv
    have on := ho o (List.mem_of_getElem? e1)
    have et : os.take (i + 1) = os.take i ++ [o] := by rw [List.take_add_one, e1]; rfl
    have fst_k : (((os.take i).foldl (Rf.ask1 t (S k).row) (S4, 1)).1 k).term = t ∧ (((os.take i).foldl (Rf.ask1 t (S k).row) (S4, 1)).1 k).row = (S k).row := by
      rw [Rf.asked_room]
      split
      · exact ⟨by rw [Rf.hear_term, s4t]; omega, by rw [Rf.hear_row, s4r]⟩
      · exact ⟨s4t, s4r⟩
    generalize hX : (os.take i).foldl (Rf.ask1 t (S k).row) (S4, 1) = X at *
    obtain ⟨X1, c⟩ := X
    obtain ⟨f1t, f1r⟩ := fst_k
    obtain ⟨dk, hpk⟩ := (R7.kp hk).ex
    obtain ⟨do_, hpo⟩ := (R7.kp on).ex
    obtain ⟨xk, hlk, dk2⟩ := R7.row hk
    refine s_ifBX (m_meth (P := fun B1 vs => ∃ w0 ws, vs = w0 :: ws ∧ Dq K B1 (.int t) w0 ∧ ∃ w2, ws = .ref (ad (.l k)) :: w2 ∧ w2 = []) (B := B7) GA.bh (ev_var rfl) hpo rfl ?_ fun vs B8 H8 g8 hv => ?_)
    · exact ea_consD (evd_fld (d := .int t) (ev_var rfl) hpk T_Keeper.cl (T_Keeper.na _ (by simp)) (by rw [← f1t]; rfl) (dq_int.mpr rfl)) (ea_consV (ev_fld (ev_var rfl) hpk T_Keeper.cl (T_Keeper.na _ (by simp)) rfl) ea_nil0)
    obtain ⟨w0, _, rfl, e0, _, rfl, rfl⟩ := hv
    cases dq_int.mp e0
    have R8 := R7.gr g8
    rw [f1r] at dk2
    refine ⟨B8, _, _, _, _, _, _, t, _, (S k).row, rfl, g8.bh, R8.kp on, ⟨_, _, rfl, g8.hh _ _ hlk, dk2.mono g8.bb⟩, fun B9 H9 g9 k9 => ⟨_, rfl, ?_⟩⟩
    have hlv9 : H9 lv = some (.lst xs) := g9.hh _ _ (g8.hh _ _ hl7) fun z => nlv (.p o) on z.symm
    have GB : GrF (fun a => ∃ x, Lab.ok n x ∧ a = ad x) B5 H5 B9 H9 := (GA.trans g8.fr).trans (g9.mono (hFp o on))
    have done : (os.take (i + 1)).foldl (Rf.ask1 t (S k).row) (S4, 1) = Rf.ask1 t (S k).row (X1, c) o := by rw [et, List.foldl_append, hX]; rfl
    by_cases hlt : (X1 o).term < t
    · rw [if_pos hlt, if_pos hlt] at k9
      have R9 := R8.setKpF (y := { X1 o with term := t, leads := false }) on g9 k9 fun z => nomatch z
      rw [ask_less hlt] at done
      rw [decide_eq_true hlt, Bool.true_and]
      by_cases hnew : newM (S k).row (X1 o).row = true
      · rw [if_pos hnew]
        rw [if_pos (by rw [← newM_rf]; exact hnew)] at done
        refine s_augI (K := K) g9.bh rfl evd_cI fun B10 H10 g10 => ⟨B10, ?_⟩
        show GrF _ B5 H5 _ _ ∧ _ ∧ (∃ _ _, _) ∧ RAt _ _ _ _ _ _ _ _ _
        rw [done]
        exact ⟨GB.trans g10.fr, g10.hh _ _ hlv9, ⟨_, _, rfl⟩, R9.gr g10⟩
      · rw [if_neg hnew]
        rw [if_neg (by rw [← newM_rf]; exact hnew)] at done
        refine ⟨B9, ?_⟩
        show GrF _ B5 H5 _ _ ∧ _ ∧ (∃ _ _, _) ∧ RAt _ _ _ _ _ _ _ _ _
        rw [done]
        exact ⟨GB, hlv9, ⟨_, _, rfl⟩, R9⟩
    · rw [if_neg hlt, if_neg hlt] at k9
      have R9 := R8.setKpF (y := X1 o) on g9 k9 fun z => ⟨z, rfl, rfl⟩
      rw [Rf.put_self] at R9
      rw [ask_same hlt] at done
      rw [decide_eq_false hlt, Bool.false_and, if_neg (fun z => nomatch z)]
      refine ⟨B9, ?_⟩
      show GrF _ B5 H5 _ _ ∧ _ ∧ (∃ _ _, _) ∧ RAt _ _ _ _ _ _ _ _ _
      rw [done]
      exact ⟨GB, hlv9, ⟨_, _, rfl⟩, R9⟩
  · rintro σ' B7 H7 ⟨GA, hl7, ⟨y6, y7, rfl⟩, R7⟩
    rw [hxl, List.take_length] at *
    have hst : Rf.standR n S k os = if n < 2 * (os.foldl (Rf.ask1 t (S k).row) (S4, 1)).2 then (Rf.put (os.foldl (Rf.ask1 t (S k).row) (S4, 1)).1 k { (os.foldl (Rf.ask1 t (S k).row) (S4, 1)).1 k with leads := true, next := fun _ => (S k).row.length, held := fun _ => 0 }, true) else ((os.foldl (Rf.ask1 t (S k).row) (S4, 1)).1, false) := by
      unfold Rf.standR Rf.asked
      dsimp only
      rw [ht, hS4]
    have fst_k : ((os.foldl (Rf.ask1 t (S k).row) (S4, 1)).1 k).leads = false ∧ ((os.foldl (Rf.ask1 t (S k).row) (S4, 1)).1 k).row = (S k).row := by
      have s4l : (S4 k).leads = false := by rw [← hS4, Rf.put_same]
      rw [Rf.asked_room]
      split
      · refine ⟨?_, by rw [Rf.hear_row, s4r]⟩
        unfold Rf.hear
        split
        · rfl
        · exact s4l
      · exact ⟨s4l, s4r⟩
    generalize os.foldl (Rf.ask1 t (S k).row) (S4, 1) = X at *
    obtain ⟨X1, c⟩ := X
    obtain ⟨f1l, f1r⟩ := fst_k
    obtain ⟨dr, hrm⟩ := R7.room
    have GG : GrF (fun a => ∃ x, Lab.ok n x ∧ a = ad x) B H B7 H7 := (G4.trans g5.fr).trans GA
    refine q_when (K := K) (b := decide (n < 2 * c)) GA.bh (et_test (EvD.is (evd_B0 (evd_IC evd_cI (evd_vI rfl) rfl (.inl (by decide))) (EvD.is (evd_lenM (ev_fld (ev_var rfl) hrm T_Room.cl (T_Room.na _ (by simp)) rfl) R7.keepers) (by rw [len_refs])) rfl) (congrArg PyData.bool (decide_eq_decide.mpr (by show (2 : Int) * (c : Int) > (n : Int) ↔ _; omega))))) (fun hb B8 H8 g8 => ?_) fun hb B8 H8 g8 => ?_
    · have hb := of_decide_eq_true hb
      rw [if_pos hb] at hst
      have R8 := R7.gr g8
      refine s_dropX (m_meth (P := fun B1 vs => DqAll K B1 [.int (k : Int)] vs) (B := B8) g8.bh (ev_var rfl) (g8.hh _ _ hrm) rfl (ea_cons (evd_vI rfl) ea_nil) fun vs B9 H9 g9 hv => ?_)
      obtain ⟨w0, vs, rfl, e0, hv⟩ := dqa_cons.mp hv
      cases dqa_nil.mp hv
      cases dq_int.mp e0
      refine ⟨B9, n, X1, ad, k, rfl, g9.bh, R8.gr g9, n9, hk, fun B10 H10 ad' g10 R10 hn hr' hpp => ?_⟩
      rw [f1r] at R10
      obtain ⟨dk, hpk⟩ := (R10.kp hk).ex
      rw [hpp k] at hpk
      refine G.s_ret (K := K) (d := .bool true) g10.bh (evd_fld (ev_var rfl) hpk T_Keeper.cl (T_Keeper.na _ (by simp)) (by rw [Rf.put_same]; rfl) (dq_bool.mpr rfl)) fun v B11 H11 g11 p => ?_
      cases dq_bool.mp p
      have G10 : GrF (fun a => ∃ x, Lab.ok n x ∧ a = ad x) B H B11 H11 := ((GG.trans (g8.trans g9).fr).trans g10).trans g11.fr
      rw [hst] at q
      refine q.use rfl hF G10 (fun a z => (hF a).mpr z) (R10.gr g11) hr' fun x ok => ?_
      rcases hn x ok with z | z
      · exact .inl z
      · exact .inr ((GG.trans (g8.trans g9).fr).back z)
    · have hb := of_decide_eq_false hb
      rw [if_neg hb] at hst
      have R8 := R7.gr g8
      obtain ⟨dk, hpk⟩ := (R8.kp hk).ex
      refine G.s_ret (K := K) (d := .bool false) g8.bh (evd_fld (ev_var rfl) hpk T_Keeper.cl (T_Keeper.na _ (by simp)) (by rw [f1l]; rfl) (dq_bool.mpr rfl)) fun v B11 H11 g11 p => ?_
      cases dq_bool.mp p
      rw [hst] at q
      exact q.use0 rfl hF (GG.trans (g8.trans g11).fr) (fun a z => (hF a).mpr z) (R8.gr g11)
theorem okN_Room_write {f f1 : Addr} {fd fd1 : FuncData} {Z : Bi mg} {T_Room : ClsAt K mg "Room" C_Room ["keepers", "places", "held"]} {T_Keeper : ClsAt K mg "Keeper" C_Keeper ["term", "row", "leads", "settled"]}
    {x_Room_leader : CalleeM P w K mg base (L2N.CX P w) 2 C_Room "leader" ["self", "k"] (spLead K C_Room C_Keeper C_NotLeading) f1 fd1}
    {D : MethAt K C_Room "write" "Room.write" s_Room_write ["self", "k", "word"] f fd} : CalleeM P w K mg base (L2N.CX P w) 3 C_Room "write" ["self", "k", "word"] (spWrite (RA K C_Room C_Keeper) C_NotLeading) f fd := by
  refine D.okN sc_Room_write (fun vs H Q E h => by obtain ⟨B, r, n, S, F, k, wd, rfl, _⟩ := h; rfl) fun cdv A outer s H vs Q E hr h => ?_
  obtain ⟨B, r, n, S, F, k, wd, rfl, eb, ⟨ad, R, rfl, hF⟩, ft, n9, hk, hw, q1, q2⟩ := h
  refine ⟨_, (pss_cons (ps_set (i := 3) sc_Room_write.nd rfl (.inl rfl) (pe_meth (pv 0) T_Room.cl x_Room_leader.M x_Room_leader.G (hr.mono (by decide)) x_Room_leader.b .nil (L2N.passes_call (L2N.takes_of rfl rfl rfl rfl) (fun _ _ _ _ h => h)) (pa_cons (pv 1) pa_nil)))
      (PSs.nox (pss_cons (ps_expr (pe_bm PySem.F.plainAttrs_list PySem.F.slot_list_append PySem.F.type_list_append mt_append (pe_fld (pv 3) rfl) (pa_cons (pe_tup (pa_cons (pe_fld (pv 3) rfl) (pa_cons (pv 2) pa_nil))) pa_nil)))
      (pss_one (ps_ret (pe_op op_sub (pe_callB call_len_seq (by rfl) Z.z_len (by decide +kernel) (pa_cons (pe_fld (pv 3) rfl) pa_nil)) pe_int)))))), ?_⟩
  cases hl : (S k).leads with
  | false => exact q_noLead R eb hk hl (ev_var rfl) (evd_vI rfl) fun B1 H1 g1 => (q2 hl).use0 rfl hF (g1.fr (F := fun _ => False)) (fun _ z => z.elim) (R.gr g1)
  | true =>
    have q := q1 hl
    refine q_asgV eb (ev_lead R hk hl (ev_var rfl) (evd_vI rfl)) fun B1 H1 g1 => ?_
    have R1 := R.gr g1
    obtain ⟨dx, hp⟩ := (R1.kp hk).ex
    obtain ⟨xs, hx, dd⟩ := R1.row hk
    have hlen : xs.length ≤ 10000 := by rw [dd.len, List.length_map]; exact (ft.ok k hk).2.1
    refine q_appV (K := K) (d := entD ((S k).term, wd)) g1.bh (R1.b (.l k) hk) hx (ev_fld (ev_var rfl) hp T_Keeper.cl (T_Keeper.na _ (by simp)) rfl) (evd_tup (ea_cons (evd_fld (d := .int (S k).term) (ev_var rfl) hp T_Keeper.cl (T_Keeper.na _ (by simp)) rfl (dq_int.mpr rfl)) (ea_cons (evd_vS rfl) ea_nil)) (show 2 ≤ 100000 by decide)) (by omega) fun v B2 H2 g2 dv => ?_
    have R2 := R1.addRow hk g2 hx dv
    have G2 : GrF (fun a => ∃ x, Lab.ok n x ∧ a = ad x) B H B2 (upd H2 (ad (.l k)) (.lst (xs ++ [v]))) := ((g1.trans g2).fr).upd ⟨.l k, hk, rfl⟩ (g2.out (R1.b (.l k) hk) hx)
    generalize upd H2 (ad (.l k)) (.lst (xs ++ [v])) = H3 at *
    obtain ⟨dx3, hp3⟩ := (R2.kp hk).ex
    obtain ⟨xs3, hx3, dd3⟩ := R2.row hk
    refine G.s_ret (K := K) (d := .int ((S k).row.length : Int)) G2.bh (EvD.is (evd_I0 (evd_lenM (ev_fld (ev_var rfl) hp3 T_Keeper.cl (T_Keeper.na _ (by simp)) rfl) hx3) evd_cI rfl) ?_) fun v B4 H4 g4 p => ?_
    · rw [dd3.len, List.length_map, Rf.put_same, List.length_append]
      exact congrArg PyData.int (by show ((_ + 1 : Nat) : Int) - 1 = _; omega)
    cases dq_int.mp p
    have R4 : RAt K C_Room C_Keeper B4 H4 n (Rf.writeR S k wd) (Mfull (Rf.writeR S k wd)) ad := (R2.gr g4).weak fun x z => by
      cases x with
      | P v =>
        have z : (Rf.put S k { S k with row := (S k).row ++ [((S k).term, wd)] } v).leads = true := z
        by_cases hv : v = k
        · subst hv; exact hl
        · rw [Rf.put_ne hv] at z; exact z
      | Q v =>
        have z : (Rf.put S k { S k with row := (S k).row ++ [((S k).term, wd)] } v).leads = true := z
        by_cases hv : v = k
        · subst hv; exact hl
        · rw [Rf.put_ne hv] at z; exact z
      | _ => trivial
    exact q.use0 rfl hF (G2.trans g4.fr) (fun a z => (hF a).mpr z) R4
end

section
variable {P : Program} {w : World} {K : PySem.W.Frag} {mg : Str → Option Value} {base : Heap} {C_Room C_Keeper C_NoRoom C_NoKeeper C_NotLeading C_OutOfPlace : Addr}
/-! ### handing on, settling -/
theorem fillT_rf : ∀ t fs : List Ent, fillT t fs = Rf.fillT t fs
  | t, [] => by cases t <;> rfl
  | [], f :: fs => rfl
  | e :: t, f :: fs => by
    show (if e.1 = f.1 then e :: fillT t fs else f :: fs) = if e.1 = f.1 then e :: Rf.fillT t fs else f :: fs
    rw [fillT_rf t fs]
theorem fillM_rf (es : List Ent) (a : Nat) (fs : List Ent) : fillM es a fs = Rf.fillM es a fs := by
  unfold fillM Rf.fillM
  rw [fillT_rf]
theorem termAt_some {es : List Ent} {i : Nat} {e : Ent} (h : es[i]? = some e) : termAt es (i : Int) = e.1 := by
  unfold termAt
  rw [Int.toNat_natCast, List.getD_eq_getElem?_getD, h]
  rfl
theorem agrees_rf (es : List Ent) (a : Nat) (t : Int) : agreesM es (a : Int) t = Rf.agr es a t := by
  unfold agreesM Rf.agr
  cases a with
  | zero => rfl
  | succ a =>
    have e1 : decide (((a + 1 : Nat) : Int) = 0) = false := decide_eq_false (by omega)
    have e2 : decide ((a + 1 : Nat) = 0) = false := decide_eq_false (by omega)
    have e3 : decide ((0 : Int) < ((a + 1 : Nat) : Int)) = true := decide_eq_true (by omega)
    have e4 : ((a + 1 : Nat) : Int) - 1 = (a : Int) := by omega
    rw [e1, e2, e3, e4, Bool.false_or, Bool.false_or, Bool.true_and, Nat.add_sub_cancel]
    cases h : es[a]? with
    | none =>
      have hl : es.length ≤ a := List.getElem?_eq_none_iff.mp h
      rw [decide_eq_false (by omega), Bool.false_and]
    | some e =>
      rw [termAt_some h]
      congr 1
      exact decide_eq_decide.mpr (by omega)
def spOther (K : PySem.W.Frag) (CR CK : Addr) : Sp := fun vs H Q E => ∃ (B : Hp) (n : Nat) (S : Rf.Room Str) (M : Lab → Prop) (ad : Ad) (k o : Nat), vs = [.ref (ad .r), .int (k : Int), .int (o : Int)] ∧ Evl.Ex B H ∧ RAt K CR CK B H n S M ad ∧ k < n ∧ o < n ∧ o ≠ k ∧
  ∀ B1 H1, Gr B H B1 H1 → Q (.ref (ad (.p o))) H1
theorem okN_Room_other_keeper {f f1 : Addr} {fd fd1 : FuncData} {Z : Bi mg} {T_Room : ClsAt K mg "Room" C_Room ["keepers", "places", "held"]} {E_NoKeeper : ErrC K mg "NoKeeper" C_NoKeeper}
    {X_NoKeeper : PySem.W.excIn K C_NoKeeper [.type "ValueError", .type "Exception", .type "BaseException", .type "object"] "ValueError.__new__" = true}
    {x_Room_keeper : CalleeM P w K mg base (L2N.CX P w) 1 C_Room "keeper" ["self", "k"] (spKeep K C_Room C_Keeper C_NoKeeper) f1 fd1}
    {D : MethAt K C_Room "other_keeper" "Room.other_keeper" s_Room_other_keeper ["self", "k", "other"] f fd} : CalleeM P w K mg base (L2N.CX P w) 2 C_Room "other_keeper" ["self", "k", "other"] (spOther K C_Room C_Keeper) f fd := by
  refine D.okN sc_Room_other_keeper (fun vs H Q E h => by obtain ⟨B, n, S, M, ad, k, o, rfl, _⟩ := h; rfl) fun cdv A outer s H vs Q E hr h => ?_
  obtain ⟨B, n, S, M, ad, k, o, rfl, eb, R, hk, ho, hne, q⟩ := h
  refine ⟨_, (pss_cons (ps_expr (pe_meth (pv 0) T_Room.cl x_Room_keeper.M x_Room_keeper.G (hr.mono (by decide)) x_Room_keeper.b .nil (L2N.passes_call (L2N.takes_of rfl rfl rfl rfl) (fun _ _ _ _ h => h)) (pa_cons (pv 1) pa_nil)))
      (pss_cons (ps_set (i := 3) sc_Room_other_keeper.nd rfl (.inl rfl) (pe_meth (pv 0) T_Room.cl x_Room_keeper.M x_Room_keeper.G (hr.mono (by decide)) x_Room_keeper.b .nil (L2N.passes_call (L2N.takes_of rfl rfl rfl rfl) (fun _ _ _ _ h => h)) (pa_cons (pv 2) pa_nil)))
      (pss_cons (ps_if (pt_cmpR op_eq (pv 2) (pv 1) (nomark _)) (pss_one (L2N.ps_raise rfl (L2N.takes_of rfl rfl rfl rfl) (L2N.pmk_own PySem.F.excBase_ValueError X_NoKeeper E_NoKeeper.g E_NoKeeper.k (raises_own E_NoKeeper.b E_NoKeeper.t) (by exact rfl)))) pss_nil)
      (PSs.nox (pss_one (ps_ret (pv 3))))))), ?_⟩
  refine q_drop eb (ev_keep R hk (ev_var rfl) (evd_vI rfl)) fun B1 H1 g1 => ?_
  refine q_asgV g1.bh (ev_keep (R.gr g1) ho (ev_var rfl) (evd_vI rfl)) fun B2 H2 g2 => ?_
  refine q_when (K := K) (b := false) g2.bh (et_test (EvD.is (evd_eqI (evd_vI rfl) (evd_vI rfl)) (congrArg PyData.bool (decide_eq_false (by omega))))) (fun z => nomatch z) fun _ B3 H3 g3 => ?_
  exact s_retV g3.bh (ev_var rfl) fun B4 H4 g4 => q B4 H4 (((g1.trans g2).trans g3).trans g4)
theorem ev_other {σ : L2.St} {B H : Hp} {ta tb tc : TE} {n k o : Nat} {S : Rf.Room Str} {M : Lab → Prop} {ad : Ad} {E : XK} (R : RAt K C_Room C_Keeper B H n S M ad) (hk : k < n) (ho : o < n) (hne : o ≠ k) (h : EvV ta σ B H (.ref (ad .r))) (hb : EvD K tb σ B H (.int (k : Int))) (hc : EvD K tc σ B H (.int (o : Int))) :
    EvV (tMeth C_Room "other_keeper" (spOther K C_Room C_Keeper) [] E ta (tCons tb (tCons tc tNil))) σ B H (.ref (ad (.p o))) := fun B1 H1 g Q q => by
  obtain ⟨dx, hr⟩ := (R.gr g).room
  refine m_meth (P := fun B2 vs => DqAll K B2 [.int (k : Int), .int (o : Int)] vs) g.bh (EvV.mono g h) hr rfl (ea_cons (hb.mono g) (ea_cons (hc.mono g) ea_nil)) fun vs B2 H2 g2 hv => ?_
  obtain ⟨w0, vs, rfl, e0, hv⟩ := dqa_cons.mp hv
  obtain ⟨w1, vs, rfl, e1, hv⟩ := dqa_cons.mp hv
  cases dqa_nil.mp hv
  cases dq_int.mp e0
  cases dq_int.mp e1
  exact ⟨B2, n, S, M, ad, k, o, rfl, g2.bh, (R.gr g).gr g2, hk, ho, hne, fun B3 H3 g3 => q _ B3 H3 (g2.trans g3) rfl⟩
/-- filled, of a row that may change -/
theorem evm_fill {σ : L2.St} {B H : Hp} {ta tb tc : TE} {l : Addr} {es fs : List Ent} {a : Nat} {E : XK} {xs : List V} (hbl : B l = none) (hl : H l = some (.lst xs)) (hd : DqAll K B (es.map entD) xs) (ha : EvV ta σ B H (.ref l)) (hb : EvD K tb σ B H (.int (a : Int))) (hc : EvD K tc σ B H (rowD fs)) (h1 : a ≤ es.length) (h2 : es.length ≤ 10000) (h3 : fs.length ≤ 10000) :
    EvM K (tCall (spFill K C_OutOfPlace) [] E (tCons ta (tCons tb (tCons tc tNil)))) σ B H ((fillM es a fs).map entD) := fun B1 H1 g Q q => by
  refine (ea_consV (P := fun B1 vs => DqAll K B1 [.int (a : Int), rowD fs] vs) ha (ea_cons hb (ea_cons hc ea_nil))) B1 H1 g _ fun ws B2 H2 g2 hw => ?_
  obtain ⟨ws, rfl, hw⟩ := hw
  obtain ⟨w0, ws, rfl, e0, hw⟩ := dqa_cons.mp hw
  obtain ⟨w1, ws, rfl, e1, hw⟩ := dqa_cons.mp hw
  cases dqa_nil.mp hw
  cases dq_int.mp e0
  have g02 := g.trans g2
  have hl2 := g02.hh _ _ hl
  have bl2 := g02.out hbl hl
  have hd2 := hd.mono g02.bb
  refine ⟨kept B2 H2 [l], es, (a : Int), fs, .ref l, w1, rfl, kept_in g2.bh, kept_dq g2.bh hl2 (by simp) hd2, e1.mono (kept_ex g2.bh), h2, h3, fun z => ?_, fun _ p ys B3 H3 g3 p1 p2 p3 p4 => ?_⟩
  · unfold goodM at z
    rw [decide_eq_true (by omega), decide_eq_true (by omega)] at z
    cases z
  · have hls : ∀ x ∈ [l], ∃ ys, B3 x = some (.lst ys) := fun x hx => by
      rw [List.mem_singleton.mp hx]
      exact ⟨xs, g3.bb _ _ (by unfold kept; rw [if_pos (by simp)]; exact hl2)⟩
    rw [Int.toNat_natCast] at p4
    exact q p ys (thaw B3 [l]) H3 (g2.trans (thaw_gr (fun x hx => by rw [List.mem_singleton.mp hx]; exact bl2) g3)) (ex_none g2.hh p1) (thaw_none p2) p3 (thaw_ents hls p4)
theorem hear_term_if {x : Rf.Kp Str} {u : Int} : (Rf.hear x u).term = if x.term < u then u else x.term := by unfold Rf.hear; split <;> rfl
theorem hear_leads_if {x : Rf.Kp Str} {u : Int} : (Rf.hear x u).leads = if x.term < u then false else x.leads := by unfold Rf.hear; split <;> rfl
theorem hear_kp {x : Rf.Kp Str} {u : Int} (h : (Rf.hear x u).leads = true) : x.leads = true ∧ (Rf.hear x u).next = x.next ∧ (Rf.hear x u).held = x.held := by
  obtain ⟨h1, h2⟩ := Rf.hear_leads h
  exact ⟨h1, by rw [h2], by rw [h2]⟩
/-- o.hear(t) -/
theorem q_hear {σ : L2.St} {B H : Hp} {ta tb : TE} {D : Ends} {tz : TS} {n o : Nat} {S : Rf.Room Str} {ad : Ad} {u : Int} (R : RAt K C_Room C_Keeper B H n S (Mfull S) ad) (g0 : Evl.Ex B H) (ho : o < n) (h : EvV ta σ B H (.ref (ad (.p o)))) (hb : EvD K tb σ B H (.int u))
    (q : ∀ B1 H1, GrF (fun a => a = ad (.p o)) B H B1 H1 → RAt K C_Room C_Keeper B1 H1 n (Rf.put S o (Rf.hear (S o) u)) (Mfull (Rf.put S o (Rf.hear (S o) u))) ad → tz D σ H1) : tSeq (tDrop (tMeth C_Keeper "hear" (spHear K C_Keeper) [] E0 ta (tCons tb tNil))) tz D σ H := by
  obtain ⟨dx, hp⟩ := (R.kp ho).ex
  refine q_dropX (m_meth (P := fun B1 vs => DqAll K B1 [.int u] vs) g0 h hp rfl (ea_cons hb ea_nil) fun vs B1 H1 g1 hv => ?_)
  obtain ⟨w0, vs, rfl, e0, hv⟩ := dqa_cons.mp hv
  cases dqa_nil.mp hv
  cases dq_int.mp e0
  refine ⟨B1, _, _, _, _, _, _, u, rfl, g1.bh, (R.gr g1).kp ho, fun B2 H2 g2 k2 => ?_⟩
  rw [← hear_term_if, ← hear_leads_if] at k2
  exact q B2 H2 (g1.fr.trans g2) ((R.gr g1).setKpF (y := Rf.hear (S o) u) ho g2 (by rw [Rf.hear_row, Rf.hear_settled]; exact k2) hear_kp)
theorem okN_Room_hand {f f1 f2 f3 f4 f5 f6 : Addr} {fd fd1 fd2 fd3 fd4 fd5 fd6 : FuncData} {Z : Bi mg} {T_Room : ClsAt K mg "Room" C_Room ["keepers", "places", "held"]} {T_Keeper : ClsAt K mg "Keeper" C_Keeper ["term", "row", "leads", "settled"]}
    {x_Room_other_keeper : CalleeM P w K mg base (L2N.CX P w) 2 C_Room "other_keeper" ["self", "k", "other"] (spOther K C_Room C_Keeper) f1 fd1}
    {x_Room_leader : CalleeM P w K mg base (L2N.CX P w) 2 C_Room "leader" ["self", "k"] (spLead K C_Room C_Keeper C_NotLeading) f2 fd2}
    {c_Keeper_hear : CalleeM P w K mg base CX0 1 C_Keeper "hear" ["self", "term"] (spHear K C_Keeper) f3 fd3}
    {c_agrees : Callee P w K mg base 1 "agrees" ["row", "at", "term"] (spD K R_agrees) f4 fd4}
    {c_last_term : Callee P w K mg base 1 "last_term" ["row"] (spD K R_last) f5 fd5}
    {x_filled : CalleeX P w K mg base (L2N.CX P w) 1 "filled" ["row", "at", "some"] (spFill K C_OutOfPlace) f6 fd6}
    {D : MethAt K C_Room "hand" "Room.hand" s_Room_hand ["self", "k", "other", "many"] f fd} : CalleeM P w K mg base (L2N.CX P w) 3 C_Room "hand" ["self", "k", "other", "many"] (spHand (RA K C_Room C_Keeper) C_NotLeading) f fd := by
  refine D.okN sc_Room_hand (fun vs H Q E h => by obtain ⟨B, r, n, S, F, k, o, m, rfl, _⟩ := h; rfl) fun cdv A outer s H vs Q E hr h => ?_
  obtain ⟨B, r, n, S, F, k, o, m, rfl, eb, ⟨ad, R, rfl, hF⟩, ft, n9, hk, ho, hne, q1, q2⟩ := h
  refine ⟨_, (pss_cons (ps_set (i := 4) sc_Room_hand.nd rfl (.inl rfl) (pe_meth (pv 0) T_Room.cl x_Room_other_keeper.M x_Room_other_keeper.G (hr.mono (by decide)) x_Room_other_keeper.b .nil (L2N.passes_call (L2N.takes_of rfl rfl rfl rfl) (fun _ _ _ _ h => h)) (pa_cons (pv 1) (pa_cons (pv 2) pa_nil))))
      (pss_cons (ps_set (i := 5) sc_Room_hand.nd rfl (.inl rfl) (pe_meth (pv 0) T_Room.cl x_Room_leader.M x_Room_leader.G (hr.mono (by decide)) x_Room_leader.b .nil (L2N.passes_call (L2N.takes_of rfl rfl rfl rfl) (fun _ _ _ _ h => h)) (pa_cons (pv 1) pa_nil)))
      (pss_cons (ps_if (pt_cmpR op_gt (pe_fld (pv 4) rfl) (pe_fld (pv 5) rfl) (nomark _)) (PSs.nox (pss_cons (ps_expr (pe_meth (pv 5) T_Keeper.cl c_Keeper_hear.M c_Keeper_hear.G (hr.mono (by decide)) c_Keeper_hear.b .nil pass0 (pa_cons (pe_fld (pv 4) rfl) pa_nil)))
      (pss_one (ps_ret pe_bl)))) pss_nil)
      (pss_cons (ps_expr (pe_meth (pv 4) T_Keeper.cl c_Keeper_hear.M c_Keeper_hear.G (hr.mono (by decide)) c_Keeper_hear.b .nil pass0 (pa_cons (pe_fld (pv 5) rfl) pa_nil)))
      (pss_cons (ps_set (i := 6) sc_Room_hand.nd rfl (.inl rfl) (pe_ix ix_list (pe_ix ix_list (pe_fld (pv 0) rfl) (pv 1) (fun _ _ => rfl)) (pv 2) (fun _ _ => rfl)))
      (pss_cons (ps_if (pt_not (pt_val (pe_call c_agrees.G (hr.mono (by decide)) (by rfl) c_agrees.g c_agrees.kp c_agrees.b .nil pass0 (pa_cons (pe_fld (pv 4) rfl) (pa_cons (pv 6) (pa_cons (pe_call c_last_term.G (hr.mono (by decide)) (by rfl) c_last_term.g c_last_term.kp c_last_term.b .nil pass0 (pa_cons (pe_slice sl_list (pe_fld (pv 5) rfl) po_none (po_some (pv 6))) pa_nil)) pa_nil)))))) (PSs.nox (pss_cons (ps_asg (pe_op op_sub (pv 6) pe_int) (pg_sub (pe_ix ix_list (pe_fld (pv 0) rfl) (pv 1) (fun _ _ => rfl)) (pv 2) set_list))
      (pss_one (ps_ret pe_bl)))) pss_nil)
      (pss_cons (ps_set (i := 7) sc_Room_hand.nd rfl (.inl rfl) (pe_slice sl_list (pe_fld (pv 5) rfl) (po_some (pv 6)) (po_some (pe_op op_add (pv 6) (pe_callB (call_max2 rfl) (by rfl) Z.z_max (by decide +kernel) (pa_cons (pv 3) (pa_cons pe_int pa_nil)))))))
      (pss_cons (ps_fld (pv 4) (pe_call x_filled.G (hr.mono (by decide)) (by rfl) x_filled.g x_filled.kp x_filled.b .nil passN0 (pa_cons (pe_fld (pv 4) rfl) (pa_cons (pv 6) (pa_cons (pv 7) pa_nil)))) rfl)
      (PSs.nox (pss_cons (ps_set (i := 8) sc_Room_hand.nd rfl (.inl rfl) (pe_op op_add (pv 6) (pe_callB call_len_seq (by rfl) Z.z_len (by decide +kernel) (pa_cons (pv 7) pa_nil))))
      (pss_cons (ps_asg (pv 8) (pg_sub (pe_ix ix_list (pe_fld (pv 0) rfl) (pv 1) (fun _ _ => rfl)) (pv 2) set_list))
      (pss_cons (ps_asg (pv 8) (pg_sub (pe_ix ix_list (pe_fld (pv 0) rfl) (pv 1) (fun _ _ => rfl)) (pv 2) set_list))
      (pss_cons (ps_fld (pv 4) (pe_callB (call_max2 rfl) (by rfl) Z.z_max (by decide +kernel) (pa_cons (pe_fld (pv 4) rfl) (pa_cons (pe_callB (call_min2 rfl) (by rfl) Z.z_min (by decide +kernel) (pa_cons (pe_fld (pv 5) rfl) (pa_cons (pv 8) pa_nil))) pa_nil))) rfl)
      (pss_one (ps_ret pe_bl))))))))))))))), ?_⟩
  refine q_asgV eb (ev_other R hk ho hne (ev_var rfl) (evd_vI rfl) (evd_vI rfl)) fun B1 H1 g1 => ?_
  have R1 := R.gr g1
  cases hl : (S k).leads with
  | false => exact q_noLead R1 g1.bh hk hl (ev_var rfl) (evd_vI rfl) fun B2 H2 g2 => (q2 hl).use0 rfl hF ((g1.trans g2).fr (F := fun _ => False)) (fun _ z => z.elim) (R1.gr g2)
  | true =>
    have q := q1 hl
    clear q1 q2
    refine q_asgV g1.bh (ev_lead R1 hk hl (ev_var rfl) (evd_vI rfl)) fun B2 H2 g2 => ?_
    have R2 := R1.gr g2
    have g12 := g1.trans g2
    obtain ⟨dk, hpk⟩ := (R2.kp hk).ex
    obtain ⟨do_, hpo⟩ := (R2.kp ho).ex
    have hFx : ∀ x, Lab.ok n x → ∀ a, a = ad x → F a := fun x ok a z => (hF a).mpr ⟨x, ok, z⟩
    refine q_when (K := K) g2.bh (et_test (evd_B0 (evd_fld (d := .int (S o).term) (ev_var rfl) hpo T_Keeper.cl (T_Keeper.na _ (by simp)) rfl (dq_int.mpr rfl)) (evd_fld (d := .int (S k).term) (ev_var rfl) hpk T_Keeper.cl (T_Keeper.na _ (by simp)) rfl (dq_int.mpr rfl)) rfl)) (fun hb B3 H3 g3 => ?_) fun hb B3 H3 g3 => ?_
    · have hT : (S k).term < (S o).term := of_decide_eq_true hb
      rw [Rf.handR_lo hT] at q
      refine q_hear (R2.gr g3) g3.bh hk (ev_var rfl) (evd_fld (d := .int (S o).term) (ev_var rfl) (g3.hh _ _ hpo) T_Keeper.cl (T_Keeper.na _ (by simp)) rfl (dq_int.mpr rfl)) fun B4 H4 g4 R4 => ?_
      refine G.s_ret (K := K) g4.bh evd_cB fun v B5 H5 g5 p => ?_
      cases dq_bool.mp p
      exact q.use0 rfl hF (((g12.trans g3).fr.trans g4).trans g5.fr) (hFx (.p k) hk) (R4.gr g5)
    · have hT : ¬ (S k).term < (S o).term := of_decide_eq_false hb
      refine q_hear (R2.gr g3) g3.bh ho (ev_var rfl) (evd_fld (d := .int (S k).term) (ev_var rfl) (g3.hh _ _ hpk) T_Keeper.cl (T_Keeper.na _ (by simp)) rfl (dq_int.mpr rfl)) fun B4 H4 g4 R4 => ?_
      have G4 : GrF F B H B4 H4 := ((g12.trans g3).fr).trans (g4.mono (hFx (.p o) ho))
      generalize hX1 : Rf.put S o (Rf.hear (S o) (S k).term) = X1 at R4
      have x1k : X1 k = S k := by rw [← hX1, Rf.put_ne (fun z => hne z.symm)]
      have x1o : X1 o = Rf.hear (S o) (S k).term := by rw [← hX1, Rf.put_same]
      have row_o : (Rf.hear (S o) (S k).term).row = (S o).row := Rf.hear_row
      have mk1 : (X1 k).leads = true := by rw [x1k]; exact hl
      have hnx : (S k).next o ≤ (S k).row.length := ft.next k hk hl o ho hne
      -- the place
      obtain ⟨dr, hrm⟩ := R4.room
      refine q_asgI (K := K) (i := ((S k).next o : Int)) G4.bh (evd_ixM (ev_ixM (ev_fld (ev_var rfl) hrm T_Room.cl (T_Room.na _ (by simp)) rfl) R4.places (evd_vI rfl) (atI_refs hk)) (R4.next hk mk1) intsV_dq (evd_vI rfl) (atI_nat (by rw [map_range_get _ ho, x1k]))) fun B5 H5 g5 => ?_
      have R5 := R4.gr g5
      obtain ⟨dk, hpk⟩ := (R5.kp hk).ex
      obtain ⟨do_, hpo⟩ := (R5.kp ho).ex
      obtain ⟨xk, hlk, ddk⟩ := R5.row hk
      obtain ⟨xo, hlo, ddo⟩ := R5.row ho
      rw [x1k] at ddk
      rw [x1o, row_o] at ddo
      have keeps := kept_ex (ls := [ad (.l k), ad (.l o)]) g5.bh
      have keptIn := kept_in (ls := [ad (.l k), ad (.l o)]) g5.bh
      refine q_when (K := K) (b := !Rf.agr (S o).row ((S k).next o) (Rf.lastT ((S k).row.take ((S k).next o)))) g5.bh (et_not (et_B (evd_tmp keeps keptIn (evd_call (ea_cons (evd_fld (ev_var rfl) hpo T_Keeper.cl (T_Keeper.na _ (by simp)) rfl (kept_dq g5.bh hlo (by simp) ddo)) (ea_cons (evd_vI rfl)
        (ea_cons (d := .int (lastT ((S k).row.take ((S k).next o)))) (evd_call (ds := [rowD ((S k).row.take ((S k).next o))]) (ea_cons (EvD.is (evd_sl (ds := (S k).row.map entD) (evd_fld (ev_var rfl) hpk T_Keeper.cl (T_Keeper.na _ (by simp)) rfl (kept_dq g5.bh hlk (by simp) ddk)) eo_none (eo_some (evd_vI rfl))) (by rw [cut_take (by omega), Int.toNat_natCast, ← List.map_take]; rfl)) ea_nil) ⟨_, rfl, rfl⟩) ea_nil)))
        ⟨(S o).row, _, _, rfl, by rw [agrees_rf, lastT_rf]⟩)))) (fun hb B6 H6 g6 => ?_) fun hb B6 H6 g6 => ?_
      · have hA : ¬ Rf.agr (Rf.hear (S o) (S k).term).row ((S k).next o) (Rf.lastT ((S k).row.take ((S k).next o))) = true := fun z => by rw [row_o] at z; rw [z] at hb; cases hb
        rw [Rf.handR_un hT hA] at q
        have hpos : 1 ≤ (S k).next o := by
          rcases Nat.eq_zero_or_pos ((S k).next o) with z | z
          · rw [z] at hA
            exact absurd (Rf.agr_iff.mpr (.inl rfl)) hA
          · exact z
        have R6 := R5.gr g6
        obtain ⟨dr6, hrm6⟩ := R6.room
        refine q_setL (K := K) (d := .int (((S k).next o - 1 : Nat) : Int)) g6.bh (EvD.is (evd_I0 (evd_vI rfl) evd_cI rfl) (congrArg PyData.int (by show (((S k).next o : Nat) : Int) - 1 = _; omega))) (ev_ixM (ev_fld (ev_var rfl) hrm6 T_Room.cl (T_Room.na _ (by simp)) rfl) R6.places (evd_vI rfl) (atI_refs hk)) (R6.next hk mk1) (evd_vI rfl) (ixN_of (by rw [len_ints]; exact ho)) fun v B7 H7 g7 dv => ?_
        cases dq_int.mp dv
        have R7 := R6.putNext (M := Mfull X1) hk g7 (f := Rf.setF (S k).next o ((S k).next o - 1)) (o := o) (a := (S k).next o - 1) mk1 (fun v hv => by rw [x1k]; rfl)
        have G7 : GrF F B H B7 (upd H7 (ad (.P k)) (.lst ((intsV n (X1 k).next).set o (.int (((S k).next o - 1 : Nat) : Int))))) := (G4.trans ((g5.trans g6).trans g7).fr).upd (hFx (.P k) hk _ rfl) (g7.out (R6.b (.P k) hk) (R6.next hk mk1))
        refine G.s_ret (K := K) G7.bh evd_cB fun v B8 H8 g8 p => ?_
        cases dq_bool.mp p
        refine q.use0 rfl hF (G7.trans g8.fr) (fun a z => z) ?_
        have e : Rf.put X1 k { X1 k with next := Rf.setF (S k).next o ((S k).next o - 1) } = Rf.put (Rf.put S o (Rf.hear (S o) (S k).term)) k { S k with next := Rf.setF (S k).next o ((S k).next o - 1) } := by rw [hX1, x1k]
        rw [← e]
        refine (R7.gr g8).weak fun x z => ?_
        cases x with
        | P v =>
          have z : (Rf.put X1 k { X1 k with next := Rf.setF (S k).next o ((S k).next o - 1) } v).leads = true := z
          by_cases hv : v = k
          · subst hv; exact mk1
          · rw [Rf.put_ne hv] at z; exact z
        | Q v =>
          have z : (Rf.put X1 k { X1 k with next := Rf.setF (S k).next o ((S k).next o - 1) } v).leads = true := z
          by_cases hv : v = k
          · subst hv; exact mk1
          · rw [Rf.put_ne hv] at z; exact z
        | _ => trivial
      · have hA : Rf.agr (Rf.hear (S o) (S k).term).row ((S k).next o) (Rf.lastT ((S k).row.take ((S k).next o))) = true := by
          rw [row_o]
          cases h : Rf.agr (S o).row ((S k).next o) (Rf.lastT ((S k).row.take ((S k).next o))) with
          | true => rfl
          | false => rw [h] at hb; cases hb
        rw [Rf.handR_ok hT hA] at q
        have hao : (S k).next o ≤ (S o).row.length := by
          rw [row_o] at hA
          rcases Rf.agr_iff.mp hA with z | ⟨e, z, z0, _⟩
          · omega
          · have := (List.getElem?_eq_some_iff.mp z).1
            omega
        have R6 := R5.gr g6
        have g56 := g5.trans g6
        generalize hsome : ((S k).row.drop ((S k).next o)).take m = some_ at q
        have slen : some_.length ≤ (S k).row.length - (S k).next o := by rw [← hsome, List.length_take, List.length_drop]; omega
        -- what is handed on
        refine q_asgD (K := K) (d := rowD some_) g6.bh (EvD.is (evd_slM (ev_fld (ev_var rfl) (g6.hh _ _ hpk) T_Keeper.cl (T_Keeper.na _ (by simp)) rfl) (g6.hh _ _ hlk) (ddk.mono g6.bb) (eo_some (evd_vI rfl)) (eo_some (EvD.is (evd_I0 (evd_vI rfl) (evd_max2 (evd_vI rfl) evd_cI) rfl) (congrArg PyData.int (show _ = ((S k).next o : Int) + (m : Int) by
          split <;> omega))))) (by
          rw [cut_both (by omega) (by omega), Int.toNat_natCast, Int.toNat_natCast, ← List.map_drop, ← List.map_take, hsome]
          rfl)) fun vh B7 H7 g7 dh => ?_
        have R7 := R6.gr g7
        obtain ⟨do7, hpo7⟩ := (R7.kp ho).ex
        obtain ⟨xo7, hlo7, ddo7⟩ := R7.row ho
        rw [x1o, row_o] at ddo7
        -- the row is filled
        refine q_fldM (K := K) g7.bh (evm_fill (es := (S o).row) (fs := some_) (a := (S k).next o) (R7.b (.l o) ho) hlo7 ddo7 (ev_fld (ev_var rfl) hpo7 T_Keeper.cl (T_Keeper.na _ (by simp)) rfl) (evd_vI rfl) (evd_v rfl dh) hao (ft.ok o ho).2.1 (by have := (ft.ok k hk).2.1; omega)) (ev_var rfl) hpo7 T_Keeper.cl (T_Keeper.na _ (by simp)) (by show 4 < 1000; decide) fun pn ys B8 H8 g8 p1 p2 p3 p4 => ?_
        have R8 := R7.setRow ho g8 p1 p2 p3 p4 hpo7
        have G7 : GrF F B H B7 H7 := G4.trans ((g56.trans g7).fr)
        have hpnH : H pn = none := G7.back p1
        have G8 : GrF F B H B8 (upd H8 (ad (.p o)) (.ins C_Keeper do7 (kf (X1 o).term pn (X1 o).leads ((X1 o).settled : Int)))) := (G7.trans g8.fr).upd (hFx (.p o) ho _ rfl) (g8.out (R7.b (.p o) ho) hpo7)
        have dh8 := dh.mono g8.bb
        show tSeq _ _ _ _ (upd H8 (ad (.p o)) (.ins C_Keeper do7 (kf (X1 o).term pn (X1 o).leads ((X1 o).settled : Int))))
        generalize upd H8 (ad (.p o)) (.ins C_Keeper do7 (kf (X1 o).term pn (X1 o).leads ((X1 o).settled : Int))) = H8' at *
        generalize hX2 : Rf.put X1 o { X1 o with row := fillM (S o).row ((S k).next o) some_ } = X2 at R8
        have x2k : X2 k = S k := by rw [← hX2, Rf.put_ne (fun z => hne z.symm), x1k]
        have x2o : X2 o = { X1 o with row := fillM (S o).row ((S k).next o) some_ } := by rw [← hX2, Rf.put_same]
        generalize hb2 : (S k).next o + some_.length = b at *
        refine q_asgI (K := K) (i := (b : Int)) G8.bh (EvD.is (evd_I0 (evd_vI rfl) (evd_len (evd_v rfl dh8)) rfl) (congrArg PyData.int (by rw [List.length_map]; omega))) fun B9 H9 g9 => ?_
        have R9 := R8.gr g9
        obtain ⟨dr9, hrm9⟩ := R9.room
        -- the places
        refine q_setL (K := K) (d := .int (b : Int)) g9.bh (evd_vI rfl) (ev_ixM (ev_fld (ev_var rfl) hrm9 T_Room.cl (T_Room.na _ (by simp)) rfl) R9.places (evd_vI rfl) (atI_refs hk)) (R9.next hk mk1) (evd_vI rfl) (ixN_of (by rw [len_ints]; exact ho)) fun v B10 H10 g10 dv => ?_
        cases dq_int.mp dv
        have R10 := R9.putNext (M := Mfull X1) hk g10 (f := Rf.setF (S k).next o b) (o := o) (a := b) mk1 (fun v hv => by rw [x2k]; rfl)
        have aPk : reL ad (.l o) pn (.P k) = ad (.P k) := rfl
        have G10 : GrF F B H B10 (upd H10 (reL ad (.l o) pn (.P k)) (.lst ((intsV n (X2 k).next).set o (.int (b : Int))))) := (G8.trans (g9.trans g10).fr).upd (hFx (.P k) hk _ aPk) (g10.out (R9.b (.P k) hk) (R9.next hk mk1))
        generalize upd H10 (reL ad (.l o) pn (.P k)) (.lst ((intsV n (X2 k).next).set o (.int (b : Int)))) = H10' at *
        generalize hX3 : Rf.put X2 k { X2 k with next := Rf.setF (S k).next o b } = X3 at R10
        have x3k : X3 k = { S k with next := Rf.setF (S k).next o b } := by rw [← hX3, Rf.put_same, x2k]
        have x3o : X3 o = X2 o := by rw [← hX3, Rf.put_ne hne]
        obtain ⟨dr10, hrm10⟩ := R10.room
        refine q_setL (K := K) (d := .int (b : Int)) G10.bh (evd_vI rfl) (ev_ixM (ev_fld (ev_var rfl) hrm10 T_Room.cl (T_Room.na _ (by simp)) rfl) R10.helds (evd_vI rfl) (atI_refs hk)) (R10.held hk mk1) (evd_vI rfl) (ixN_of (by rw [len_ints]; exact ho)) fun v B11 H11 g11 dv => ?_
        cases dq_int.mp dv
        have R11 := R10.putHeld (M := Mfull X1) hk g11 (f := Rf.setF (S k).held o b) (o := o) (a := b) mk1 (fun v hv => by rw [x3k]; rfl)
        have aQk : reL ad (.l o) pn (.Q k) = ad (.Q k) := rfl
        have G11 : GrF F B H B11 (upd H11 (reL ad (.l o) pn (.Q k)) (.lst ((intsV n (X3 k).held).set o (.int (b : Int))))) := (G10.trans g11.fr).upd (hFx (.Q k) hk _ aQk) (g11.out (R10.b (.Q k) hk) (R10.held hk mk1))
        generalize upd H11 (reL ad (.l o) pn (.Q k)) (.lst ((intsV n (X3 k).held).set o (.int (b : Int)))) = H11' at *
        generalize hX4 : Rf.put X3 k { X3 k with held := Rf.setF (S k).held o b } = X4 at R11
        have x4k : X4 k = { S k with next := Rf.setF (S k).next o b, held := Rf.setF (S k).held o b } := by rw [← hX4, Rf.put_same, x3k]
        have x4o : X4 o = { Rf.hear (S o) (S k).term with row := fillM (S o).row ((S k).next o) some_ } := by rw [← hX4, Rf.put_ne hne, x3o, x2o, x1o]
        have K11 := R11.kp ho
        obtain ⟨do11, hpo11⟩ := K11.ex
        obtain ⟨dk11, hpk11⟩ := (R11.kp hk).ex
        -- what it knows to be settled
        refine q_fld (K := K) (d := .int ((max (X4 o).settled (min (S k).settled b) : Nat) : Int)) G11.bh (EvD.is (evd_max2 (evd_fld (d := .int ((X4 o).settled : Int)) (ev_var rfl) hpo11 T_Keeper.cl (T_Keeper.na _ (by simp)) rfl (dq_int.mpr rfl)) (evd_min2 (evd_fld (d := .int ((S k).settled : Int)) (ev_var rfl) hpk11 T_Keeper.cl (T_Keeper.na _ (by simp)) (by rw [x4k]; rfl) (dq_int.mpr rfl)) (evd_vI rfl))) (congrArg PyData.int (by
          split <;> split at * <;> omega))) (ev_var rfl) hpo11 T_Keeper.cl (T_Keeper.na _ (by simp)) (by show 4 < 1000; decide) fun v B12 H12 g12' dv => ?_
        cases dq_int.mp dv
        have K12 := (K11.gr g12').put (dx := do11) (t' := (X4 o).term) (ld' := (X4 o).leads) (s' := ((max (X4 o).settled (min (S k).settled b) : Nat) : Int))
        have G12 : GrF (fun a => a = reL ad (.l o) pn (.p o)) B11 H11' B12 (upd H12 (reL ad (.l o) pn (.p o)) (.ins C_Keeper do11 (kf (X4 o).term (reL ad (.l o) pn (.l o)) (X4 o).leads ((max (X4 o).settled (min (S k).settled b) : Nat) : Int)))) := g12'.fr.upd rfl (K11.gr g12').bp
        have R12 := R11.setKp (M' := Mfull (Rf.put X4 o { X4 o with settled := max (X4 o).settled (min (S k).settled b) })) (y := { X4 o with settled := max (X4 o).settled (min (S k).settled b) }) ho G12 K12 (fun z => by
            have z : (Rf.put X4 o { X4 o with settled := max (X4 o).settled (min (S k).settled b) } o).leads = true := z
            rw [Rf.put_same] at z
            refine ⟨?_, rfl⟩
            show (X1 o).leads = true
            rw [x1o]
            have z : (X4 o).leads = true := z
            rw [x4o] at z
            exact z) (fun z => by
            have z : (Rf.put X4 o { X4 o with settled := max (X4 o).settled (min (S k).settled b) } o).leads = true := z
            rw [Rf.put_same] at z
            refine ⟨?_, rfl⟩
            show (X1 o).leads = true
            rw [x1o]
            have z : (X4 o).leads = true := z
            rw [x4o] at z
            exact z) fun v hv => by
            have same : ∀ z : (Rf.put X4 o { X4 o with settled := max (X4 o).settled (min (S k).settled b) } v).leads = true, (X1 v).leads = true := fun z => by
              rw [Rf.put_ne hv] at z
              by_cases hvk : v = k
              · subst hvk; exact mk1
              · rw [← hX4, Rf.put_ne hvk, ← hX3, Rf.put_ne hvk, ← hX2, Rf.put_ne hv] at z
                exact z
            exact ⟨same, same⟩
        have G13 : GrF F B H B12 _ := G11.trans (G12.mono (hFx (.p o) ho))
        refine G.s_ret (K := K) G12.bh evd_cB fun v B13 H13 g13 p => ?_
        cases dq_bool.mp p
        have e : Rf.put X4 o { X4 o with settled := max (X4 o).settled (min (S k).settled b) } = Rf.put (Rf.put S o { Rf.hear (S o) (S k).term with row := Rf.fillM (Rf.hear (S o) (S k).term).row ((S k).next o) some_, settled := max (Rf.hear (S o) (S k).term).settled (min (S k).settled b) }) k { S k with next := Rf.setF (S k).next o b, held := Rf.setF (S k).held o b } := by
          funext j
          by_cases hj : j = k
          · rw [hj, Rf.put_same, Rf.put_ne (fun z => hne z.symm), x4k]
          · rw [Rf.put_ne hj]
            by_cases hjo : j = o
            · rw [hjo, Rf.put_same, Rf.put_same, x4o, fillM_rf, row_o]
            · rw [Rf.put_ne hjo, Rf.put_ne hjo, ← hX4, Rf.put_ne hj, ← hX3, Rf.put_ne hj, ← hX2, Rf.put_ne hjo, ← hX1, Rf.put_ne hjo]
        rw [← e] at q
        refine q.use rfl hF (G13.trans g13.fr) (fun a z => z) (R12.gr g13) rfl fun x ok => ?_
        by_cases ex : x = .l o
        · rw [ex, reL_same]
          exact .inr hpnH
        · rw [reL_ne ex]
          exact .inl rfl
theorem settM_due {n : Nat} {h : Nat → Nat} {es : List Ent} {t : Int} {hs : List Int} (e : hs = (List.range n).map fun v => (h v : Int)) : ∀ m, m ≤ es.length → (Rf.settM n h es t m : Int) = dueM es t hs m
  | 0, _ => rfl
  | m + 1, hm => by
    have ih := settM_due (es := es) (t := t) e m (by omega)
    have hx : es[m]? = some es[m] := List.getElem?_eq_getElem (by omega)
    have hl : hs.length = n := by rw [e, List.length_map, List.length_range]
    have hc : reach hs ((m + 1 : Nat) : Int) = Rf.cnt n (fun v => decide (m + 1 ≤ h v)) := by
      unfold reach Rf.cnt
      rw [e, List.countP_map]
      refine List.countP_congr fun v hv => ?_
      show decide (((m + 1 : Nat) : Int) ≤ (h v : Int)) = true ↔ _
      rw [decide_eq_true_eq, decide_eq_true_eq]
      omega
    unfold Rf.settM
    rw [hx]
    show ((if n < 2 * Rf.cnt n (fun v => decide (m + 1 ≤ h v)) ∧ es[m].1 = t then m + 1 else Rf.settM n h es t m : Nat) : Int) = if hs.length < 2 * reach hs ((m + 1 : Nat) : Int) ∧ termAt es (m : Int) = t then ((m + 1 : Nat) : Int) else dueM es t hs m
    rw [hl, hc, termAt_some hx]
    split
    · rfl
    · exact ih
theorem settled_rf {n : Nat} (n1 : 0 < n) {h : Nat → Nat} {es : List Ent} {t : Int} : settledM es t ((List.range n).map fun v => (h v : Int)) = (Rf.settM n h es t es.length : Int) := by
  rw [settM_due rfl es.length (Nat.le_refl _), due_set (fun z => by
    have := congrArg List.length z
    rw [List.length_map, List.length_range] at this
    exact absurd this (by show ¬ n = 0; omega))]
  rfl
theorem okN_Room_settle {f f1 f2 : Addr} {fd fd1 fd2 : FuncData} {Z : Bi mg} {T_Room : ClsAt K mg "Room" C_Room ["keepers", "places", "held"]} {T_Keeper : ClsAt K mg "Keeper" C_Keeper ["term", "row", "leads", "settled"]}
    {x_Room_leader : CalleeM P w K mg base (L2N.CX P w) 2 C_Room "leader" ["self", "k"] (spLead K C_Room C_Keeper C_NotLeading) f1 fd1}
    {c_settled_by : Callee P w K mg base 2 "settled_by" ["row", "term", "held"] (spD K R_settled) f2 fd2}
    {D : MethAt K C_Room "settle" "Room.settle" s_Room_settle ["self", "k"] f fd} : CalleeM P w K mg base (L2N.CX P w) 3 C_Room "settle" ["self", "k"] (spSettle (RA K C_Room C_Keeper) C_NotLeading) f fd := by
  refine D.okN sc_Room_settle (fun vs H Q E h => by obtain ⟨B, r, n, S, F, k, rfl, _⟩ := h; rfl) fun cdv A outer s H vs Q E hr h => ?_
  obtain ⟨B, r, n, S, F, k, rfl, eb, ⟨ad, R, rfl, hF⟩, ft, n9, hk, q1, q2⟩ := h
  refine ⟨_, (pss_cons (ps_set (i := 2) sc_Room_settle.nd rfl (.inl rfl) (pe_meth (pv 0) T_Room.cl x_Room_leader.M x_Room_leader.G (hr.mono (by decide)) x_Room_leader.b .nil (L2N.passes_call (L2N.takes_of rfl rfl rfl rfl) (fun _ _ _ _ h => h)) (pa_cons (pv 1) pa_nil)))
      (PSs.nox (pss_cons (ps_set (i := 3) sc_Room_settle.nd rfl (.inl rfl) (pe_callTy call_list_of (by rfl) Z.z_list (by decide +kernel) (pa_cons (pe_ix ix_list (pe_fld (pv 0) rfl) (pv 1) (fun _ _ => rfl)) pa_nil)))
      (pss_cons (ps_asg (pe_callB call_len_seq (by rfl) Z.z_len (by decide +kernel) (pa_cons (pe_fld (pv 2) rfl) pa_nil)) (pg_sub (pv 3) (pv 1) set_list))
      (pss_cons (ps_fld (pv 2) (pe_callB (call_max2 rfl) (by rfl) Z.z_max (by decide +kernel) (pa_cons (pe_fld (pv 2) rfl) (pa_cons (pe_call c_settled_by.G (hr.mono (by decide)) (by rfl) c_settled_by.g c_settled_by.kp c_settled_by.b .nil pass0 (pa_cons (pe_fld (pv 2) rfl) (pa_cons (pe_fld (pv 2) rfl) (pa_cons (pv 3) pa_nil)))) pa_nil))) rfl)
      (pss_one (ps_ret (pe_fld (pv 2) rfl)))))))), ?_⟩
  cases hl : (S k).leads with
  | false => exact q_noLead R eb hk hl (ev_var rfl) (evd_vI rfl) fun B2 H2 g2 => (q2 hl).use0 rfl hF (g2.fr (F := fun _ => False)) (fun _ z => z.elim) (R.gr g2)
  | true =>
    have q := q1 hl
    clear q1 q2
    refine q_asgV eb (ev_lead R hk hl (ev_var rfl) (evd_vI rfl)) fun B1 H1 g1 => ?_
    have R1 := R.gr g1
    obtain ⟨dr, hrm⟩ := R1.room
    refine q_asgM (K := K) g1.bh (evm_listV (ev_ixM (ev_fld (ev_var rfl) hrm T_Room.cl (T_Room.na _ (by simp)) rfl) R1.helds (evd_vI rfl) (atI_refs hk)) (R1.held hk hl) (intsV_dq (B := B1))) fun lh xh B2 H2 g2 a1 a2 a3 a4 => ?_
    have hxh : xh = intsV n (S k).held := dqa_ints_eq (f := fun v => ((S k).held v : Int)) a4
    subst hxh
    have R2 := R1.gr g2
    obtain ⟨dk, hpk⟩ := (R2.kp hk).ex
    obtain ⟨xk, hlk, ddk⟩ := R2.row hk
    refine q_setL (K := K) (d := .int ((S k).row.length : Int)) g2.bh (EvD.is (evd_lenM (ev_fld (ev_var rfl) hpk T_Keeper.cl (T_Keeper.na _ (by simp)) rfl) hlk) (by rw [ddk.len, List.length_map])) (ev_var rfl) a3 (evd_vI rfl) (ixN_of (by rw [len_ints]; exact hk)) fun v B3 H3 g3 dv => ?_
    cases dq_int.mp dv
    rw [ints_set (g := Rf.heldM S k) (k := k) (fun v hv => rfl)]
    have nlh : ∀ x, Lab.ok n x → ad x ≠ lh := fun x ok z => R1.there ok (by rw [z]; exact a1)
    have b3 := g3.out a2 a3
    have G3 : GrF (fun a => a = lh) B2 H2 B3 (upd H3 lh (.lst (intsV n (Rf.heldM S k)))) := g3.fr.upd rfl b3
    have R3 := R2.same G3 nlh
    have GN : Gr B H B3 (upd H3 lh (.lst (intsV n (Rf.heldM S k)))) := ((g1.trans g2).trans g3).mut (ex_none g1.hh a1) b3
    have hlh : upd H3 lh (.lst (intsV n (Rf.heldM S k))) lh = some (.lst (intsV n (Rf.heldM S k))) := upd_same
    generalize upd H3 lh (.lst (intsV n (Rf.heldM S k))) = H4 at *
    have K4 := R3.kp hk
    obtain ⟨dk4, hpk4⟩ := K4.ex
    obtain ⟨xk4, hlk4, ddk4⟩ := R3.row hk
    have keeps := kept_ex (ls := [ad (.l k), lh]) GN.bh
    have keptIn := kept_in (ls := [ad (.l k), lh]) GN.bh
    have hset : max (S k).settled (Rf.settM n (Rf.heldM S k) (S k).row (S k).term (S k).row.length) = (Rf.settleR n S k k).settled := by
      unfold Rf.settleR
      rw [Rf.put_same]
    refine q_fld (K := K) (d := .int (((Rf.settleR n S k k).settled : Nat) : Int)) GN.bh (EvD.is (evd_max2 (evd_fld (d := .int ((S k).settled : Int)) (ev_var rfl) hpk4 T_Keeper.cl (T_Keeper.na _ (by simp)) rfl (dq_int.mpr rfl)) (j := (Rf.settM n (Rf.heldM S k) (S k).row (S k).term (S k).row.length : Int)) (evd_tmpJ keeps keptIn (evd_call (ds := [rowD (S k).row, .int (S k).term, intsD ((List.range n).map fun v => (Rf.heldM S k v : Int))])
      (ea_cons (evd_fld (ev_var rfl) hpk4 T_Keeper.cl (T_Keeper.na _ (by simp)) rfl (kept_dq GN.bh hlk4 (by simp) ddk4)) (ea_cons (evd_fld (d := .int (S k).term) (ev_var rfl) hpk4 T_Keeper.cl (T_Keeper.na _ (by simp)) rfl (dq_int.mpr rfl)) (ea_cons (evd_v rfl (by
        unfold intsD
        rw [List.map_map]
        exact kept_dq GN.bh hlh (by simp) (intsV_dq (B := B3)))) ea_nil)))
      ⟨(S k).row, (S k).term, _, rfl, (ft.ok k hk).2.1, by rw [List.length_map, List.length_range]; omega, (fun x hx => by
        obtain ⟨v, _, rfl⟩ := List.mem_map.mp hx
        exact Int.natCast_nonneg _), by rw [settled_rf (by omega)]⟩))) (congrArg PyData.int (by rw [← hset]; split <;> omega))) (ev_var rfl) hpk4 T_Keeper.cl (T_Keeper.na _ (by simp)) (by show 4 < 1000; decide) fun v B5 H5 g5 dv => ?_
    cases dq_int.mp dv
    have K5 := (K4.gr g5).put (dx := dk4) (t' := (S k).term) (ld' := (S k).leads) (s' := (((Rf.settleR n S k k).settled : Nat) : Int))
    have G5 : GrF (fun a => a = ad (.p k)) B3 H4 B5 (upd H5 (ad (.p k)) (.ins C_Keeper dk4 (kf (S k).term (ad (.l k)) (S k).leads (((Rf.settleR n S k k).settled : Nat) : Int)))) := g5.fr.upd rfl (K4.gr g5).bp
    have R5 := R3.setKpF (y := { S k with settled := max (S k).settled (Rf.settM n (Rf.heldM S k) (S k).row (S k).term (S k).row.length) }) hk G5 (by rw [hset]; exact K5) fun z => ⟨hl, rfl, rfl⟩
    obtain ⟨dk6, hpk6⟩ := (R5.kp hk).ex
    refine G.s_ret (K := K) (d := .int (((Rf.settleR n S k k).settled : Nat) : Int)) G5.bh (evd_fld (ev_var rfl) hpk6 T_Keeper.cl (T_Keeper.na _ (by simp)) (by rw [Rf.put_same, hset]; rfl) (dq_int.mpr rfl)) fun v B6 H6 g6 p => ?_
    cases dq_int.mp p
    exact q.use0 rfl hF (((GN.fr).trans (G5.mono (fun a z => (hF a).mpr ⟨.p k, hk, z⟩))).trans g6.fr) (fun a z => z) (R5.gr g6)
end

section
variable {P : Program} {w : World} {K : PySem.W.Frag} {mg : Str → Option Value} {base : Heap} {C_Room C_Keeper C_NoRoom C_NoKeeper C_NotLeading C_OutOfPlace : Addr}
/-! ### the room's refusals -/
theorem first_wrong {n : Nat} : ∀ (os : List Int), (∃ o ∈ os, wrongN n o) → ∃ (w : Nat) (o : Int), os[w]? = some o ∧ wrongN n o ∧ ∀ (i : Nat) (x : Int), i < w → os[i]? = some x → ¬ wrongN n x
  | [], ⟨_, h, _⟩ => nomatch h
  | y :: os, ⟨o, ho, hw⟩ => by
    by_cases hy : wrongN n y
    · exact ⟨0, y, rfl, hy, fun i x h => absurd h (Nat.not_lt_zero _)⟩
    · have ho' : o ∈ os := by
        rcases List.mem_cons.mp ho with e | h
        · rw [e] at hw; exact absurd hw hy
        · exact h
      obtain ⟨w, o', h1, h2, h3⟩ := first_wrong os ⟨o, ho', hw⟩
      refine ⟨w + 1, o', h1, h2, fun i x hi hx => ?_⟩
      cases i with
      | zero => cases hx; exact hy
      | succ i => exact h3 i x (by omega) hx
/-- counts that no room has -/
def badCount : PyData → Prop
  | .int i => i < 1 ∨ 9 < i
  | .bool _ => True
  | .none => True
  | .str _ => True
  | .list _ => True
  | .tuple _ => True
  | _ => False
def spNoNew (K : PySem.W.Frag) (CE : Addr) : Sp := fun vs H _ E => ∃ (B : Hp) (p : Addr) (d : PyData) (v : V), vs = [.ref p, v] ∧ Evl.Ex B H ∧ Dq K B d v ∧ badCount d ∧ ∀ B1 H1, Gr B H B1 H1 → E (.ref CE) none H1
theorem okR_Room_rest {f f1 : Addr} {fd fd1 : FuncData} {Z : Bi mg} {T_Room : ClsAt K mg "Room" C_Room ["keepers", "places", "held"]} {T_Keeper : ClsAt K mg "Keeper" C_Keeper ["term", "row", "leads", "settled"]}
    {x_Room_keeper : CalleeM P w K mg base (L2N.CX P w) 1 C_Room "keeper" ["self", "k"] (spKeep K C_Room C_Keeper C_NoKeeper) f1 fd1}
    {D : MethAt K C_Room "rest" "Room.rest" s_Room_rest ["self", "k"] f fd} : CalleeM P w K mg base (L2N.CX P w) 2 C_Room "rest" ["self", "k"] (spNoA (RA K C_Room C_Keeper) C_NoKeeper aOne) f fd := by
  refine D.okN sc_Room_rest (fun vs H Q E h => by obtain ⟨B, r, n, S, F, ws, rfl, eb, R, ⟨i, rfl, hi⟩, q⟩ := h; rfl) fun cdv A outer s H vs Q E hr h => ?_
  obtain ⟨B, r, n, S, F, ws, rfl, eb, ⟨ad, R, rfl, hF⟩, ⟨i, rfl, hi⟩, q⟩ := h
  refine ⟨_, (pss_cons (ps_set (i := 2) sc_Room_rest.nd rfl (.inl rfl) (pe_meth (pv 0) T_Room.cl x_Room_keeper.M x_Room_keeper.G (hr.mono (by decide)) x_Room_keeper.b .nil (L2N.passes_call (L2N.takes_of rfl rfl rfl rfl) (fun _ _ _ _ h => h)) (pa_cons (pv 1) pa_nil)))
      (PSs.nox (pss_cons (ps_fld (pv 2) pe_bl rfl)
      (pss_one (ps_fld (pv 2) pe_int rfl))))), ?_⟩
  exact q_asgX (m_keepR R eb (ev_var rfl) (evd_vI rfl) hi q)
theorem okR_Room_term_of {f f1 : Addr} {fd fd1 : FuncData} {Z : Bi mg} {T_Room : ClsAt K mg "Room" C_Room ["keepers", "places", "held"]} {T_Keeper : ClsAt K mg "Keeper" C_Keeper ["term", "row", "leads", "settled"]}
    {x_Room_keeper : CalleeM P w K mg base (L2N.CX P w) 1 C_Room "keeper" ["self", "k"] (spKeep K C_Room C_Keeper C_NoKeeper) f1 fd1}
    {D : MethAt K C_Room "term_of" "Room.term_of" s_Room_term_of ["self", "k"] f fd} : CalleeM P w K mg base (L2N.CX P w) 2 C_Room "term_of" ["self", "k"] (spNoA (RA K C_Room C_Keeper) C_NoKeeper aOne) f fd := by
  refine D.okN sc_Room_term_of (fun vs H Q E h => by obtain ⟨B, r, n, S, F, ws, rfl, eb, R, ⟨i, rfl, hi⟩, q⟩ := h; rfl) fun cdv A outer s H vs Q E hr h => ?_
  obtain ⟨B, r, n, S, F, ws, rfl, eb, ⟨ad, R, rfl, hF⟩, ⟨i, rfl, hi⟩, q⟩ := h
  refine ⟨_, (pss_one (ps_ret (pe_fld (pe_meth (pv 0) T_Room.cl x_Room_keeper.M x_Room_keeper.G (hr.mono (by decide)) x_Room_keeper.b .nil (L2N.passes_call (L2N.takes_of rfl rfl rfl rfl) (fun _ _ _ _ h => h)) (pa_cons (pv 1) pa_nil)) rfl))), ?_⟩
  exact s_retX (m_keepR R eb (ev_var rfl) (evd_vI rfl) hi q)
theorem okR_Room_leading {f f1 : Addr} {fd fd1 : FuncData} {Z : Bi mg} {T_Room : ClsAt K mg "Room" C_Room ["keepers", "places", "held"]} {T_Keeper : ClsAt K mg "Keeper" C_Keeper ["term", "row", "leads", "settled"]}
    {x_Room_keeper : CalleeM P w K mg base (L2N.CX P w) 1 C_Room "keeper" ["self", "k"] (spKeep K C_Room C_Keeper C_NoKeeper) f1 fd1}
    {D : MethAt K C_Room "leading" "Room.leading" s_Room_leading ["self", "k"] f fd} : CalleeM P w K mg base (L2N.CX P w) 2 C_Room "leading" ["self", "k"] (spNoA (RA K C_Room C_Keeper) C_NoKeeper aOne) f fd := by
  refine D.okN sc_Room_leading (fun vs H Q E h => by obtain ⟨B, r, n, S, F, ws, rfl, eb, R, ⟨i, rfl, hi⟩, q⟩ := h; rfl) fun cdv A outer s H vs Q E hr h => ?_
  obtain ⟨B, r, n, S, F, ws, rfl, eb, ⟨ad, R, rfl, hF⟩, ⟨i, rfl, hi⟩, q⟩ := h
  refine ⟨_, (pss_one (ps_ret (pe_fld (pe_meth (pv 0) T_Room.cl x_Room_keeper.M x_Room_keeper.G (hr.mono (by decide)) x_Room_keeper.b .nil (L2N.passes_call (L2N.takes_of rfl rfl rfl rfl) (fun _ _ _ _ h => h)) (pa_cons (pv 1) pa_nil)) rfl))), ?_⟩
  exact s_retX (m_keepR R eb (ev_var rfl) (evd_vI rfl) hi q)
theorem okR_Room_row_of {f f1 : Addr} {fd fd1 : FuncData} {Z : Bi mg} {T_Room : ClsAt K mg "Room" C_Room ["keepers", "places", "held"]} {T_Keeper : ClsAt K mg "Keeper" C_Keeper ["term", "row", "leads", "settled"]}
    {x_Room_keeper : CalleeM P w K mg base (L2N.CX P w) 1 C_Room "keeper" ["self", "k"] (spKeep K C_Room C_Keeper C_NoKeeper) f1 fd1}
    {D : MethAt K C_Room "row_of" "Room.row_of" s_Room_row_of ["self", "k"] f fd} : CalleeM P w K mg base (L2N.CX P w) 2 C_Room "row_of" ["self", "k"] (spNoA (RA K C_Room C_Keeper) C_NoKeeper aOne) f fd := by
  refine D.okN sc_Room_row_of (fun vs H Q E h => by obtain ⟨B, r, n, S, F, ws, rfl, eb, R, ⟨i, rfl, hi⟩, q⟩ := h; rfl) fun cdv A outer s H vs Q E hr h => ?_
  obtain ⟨B, r, n, S, F, ws, rfl, eb, ⟨ad, R, rfl, hF⟩, ⟨i, rfl, hi⟩, q⟩ := h
  refine ⟨_, (pss_one (ps_ret (pe_callTy call_list_of (by rfl) Z.z_list (by decide +kernel) (pa_cons (pe_fld (pe_meth (pv 0) T_Room.cl x_Room_keeper.M x_Room_keeper.G (hr.mono (by decide)) x_Room_keeper.b .nil (L2N.passes_call (L2N.takes_of rfl rfl rfl rfl) (fun _ _ _ _ h => h)) (pa_cons (pv 1) pa_nil)) rfl) pa_nil)))), ?_⟩
  exact s_retX (m_keepR R eb (ev_var rfl) (evd_vI rfl) hi q)
theorem okR_Room_settled_of {f f1 : Addr} {fd fd1 : FuncData} {Z : Bi mg} {T_Room : ClsAt K mg "Room" C_Room ["keepers", "places", "held"]} {T_Keeper : ClsAt K mg "Keeper" C_Keeper ["term", "row", "leads", "settled"]}
    {x_Room_keeper : CalleeM P w K mg base (L2N.CX P w) 1 C_Room "keeper" ["self", "k"] (spKeep K C_Room C_Keeper C_NoKeeper) f1 fd1}
    {D : MethAt K C_Room "settled_of" "Room.settled_of" s_Room_settled_of ["self", "k"] f fd} : CalleeM P w K mg base (L2N.CX P w) 2 C_Room "settled_of" ["self", "k"] (spNoA (RA K C_Room C_Keeper) C_NoKeeper aOne) f fd := by
  refine D.okN sc_Room_settled_of (fun vs H Q E h => by obtain ⟨B, r, n, S, F, ws, rfl, eb, R, ⟨i, rfl, hi⟩, q⟩ := h; rfl) fun cdv A outer s H vs Q E hr h => ?_
  obtain ⟨B, r, n, S, F, ws, rfl, eb, ⟨ad, R, rfl, hF⟩, ⟨i, rfl, hi⟩, q⟩ := h
  refine ⟨_, (pss_cons (ps_set (i := 2) sc_Room_settled_of.nd rfl (.inl rfl) (pe_meth (pv 0) T_Room.cl x_Room_keeper.M x_Room_keeper.G (hr.mono (by decide)) x_Room_keeper.b .nil (L2N.passes_call (L2N.takes_of rfl rfl rfl rfl) (fun _ _ _ _ h => h)) (pa_cons (pv 1) pa_nil)))
      (PSs.nox (pss_one (ps_ret (pe_slice sl_list (pe_fld (pv 2) rfl) po_none (po_some (pe_fld (pv 2) rfl))))))), ?_⟩
  exact q_asgX (m_keepR R eb (ev_var rfl) (evd_vI rfl) hi q)
theorem okR_Room_leader {f f1 : Addr} {fd fd1 : FuncData} {Z : Bi mg} {T_Room : ClsAt K mg "Room" C_Room ["keepers", "places", "held"]} {T_Keeper : ClsAt K mg "Keeper" C_Keeper ["term", "row", "leads", "settled"]} {E_NotLeading : ErrC K mg "NotLeading" C_NotLeading}
    {X_NotLeading : PySem.W.excIn K C_NotLeading [.type "ValueError", .type "Exception", .type "BaseException", .type "object"] "ValueError.__new__" = true}
    {x_Room_keeper : CalleeM P w K mg base (L2N.CX P w) 1 C_Room "keeper" ["self", "k"] (spKeep K C_Room C_Keeper C_NoKeeper) f1 fd1}
    {D : MethAt K C_Room "leader" "Room.leader" s_Room_leader ["self", "k"] f fd} : CalleeM P w K mg base (L2N.CX P w) 2 C_Room "leader" ["self", "k"] (spNo K C_Room C_Keeper C_NoKeeper aOne) f fd := by
  refine D.okN sc_Room_leader (fun vs H Q E h => by obtain ⟨B, n, S, M, ad, ws, rfl, eb, R, ⟨i, rfl, hi⟩, q⟩ := h; rfl) fun cdv A outer s H vs Q E hr h => ?_
  obtain ⟨B, n, S, M, ad, ws, rfl, eb, R, ⟨i, rfl, hi⟩, q⟩ := h
  refine ⟨_, (pss_cons (ps_set (i := 2) sc_Room_leader.nd rfl (.inl rfl) (pe_meth (pv 0) T_Room.cl x_Room_keeper.M x_Room_keeper.G (hr.mono (by decide)) x_Room_keeper.b .nil (L2N.passes_call (L2N.takes_of rfl rfl rfl rfl) (fun _ _ _ _ h => h)) (pa_cons (pv 1) pa_nil)))
      (pss_cons (ps_if (pt_not (pt_val (pe_fld (pv 2) rfl))) (pss_one (L2N.ps_raise rfl (L2N.takes_of rfl rfl rfl rfl) (L2N.pmk_own PySem.F.excBase_ValueError X_NotLeading E_NotLeading.g E_NotLeading.k (raises_own E_NotLeading.b E_NotLeading.t) (by exact rfl)))) pss_nil)
      (PSs.nox (pss_one (ps_ret (pv 2)))))), ?_⟩
  exact q_asgX (m_keepR R eb (ev_var rfl) (evd_vI rfl) hi q)
theorem okR_Room_other_keeper {f f1 : Addr} {fd fd1 : FuncData} {Z : Bi mg} {T_Room : ClsAt K mg "Room" C_Room ["keepers", "places", "held"]} {E_NoKeeper : ErrC K mg "NoKeeper" C_NoKeeper}
    {X_NoKeeper : PySem.W.excIn K C_NoKeeper [.type "ValueError", .type "Exception", .type "BaseException", .type "object"] "ValueError.__new__" = true}
    {x_Room_keeper : CalleeM P w K mg base (L2N.CX P w) 1 C_Room "keeper" ["self", "k"] (spKeep K C_Room C_Keeper C_NoKeeper) f1 fd1}
    {D : MethAt K C_Room "other_keeper" "Room.other_keeper" s_Room_other_keeper ["self", "k", "other"] f fd} : CalleeM P w K mg base (L2N.CX P w) 2 C_Room "other_keeper" ["self", "k", "other"] (spNo K C_Room C_Keeper C_NoKeeper aPair) f fd := by
  refine D.okN sc_Room_other_keeper (fun vs H Q E h => by obtain ⟨B, n, S, M, ad, ws, rfl, eb, R, ⟨i, j, rfl, hi⟩, q⟩ := h; rfl) fun cdv A outer s H vs Q E hr h => ?_
  obtain ⟨B, n, S, M, ad, ws, rfl, eb, R, ⟨i, j, rfl, hi⟩, q⟩ := h
  refine ⟨_, (pss_cons (ps_expr (pe_meth (pv 0) T_Room.cl x_Room_keeper.M x_Room_keeper.G (hr.mono (by decide)) x_Room_keeper.b .nil (L2N.passes_call (L2N.takes_of rfl rfl rfl rfl) (fun _ _ _ _ h => h)) (pa_cons (pv 1) pa_nil)))
      (pss_cons (ps_set (i := 3) sc_Room_other_keeper.nd rfl (.inl rfl) (pe_meth (pv 0) T_Room.cl x_Room_keeper.M x_Room_keeper.G (hr.mono (by decide)) x_Room_keeper.b .nil (L2N.passes_call (L2N.takes_of rfl rfl rfl rfl) (fun _ _ _ _ h => h)) (pa_cons (pv 2) pa_nil)))
      (pss_cons (ps_if (pt_cmpR op_eq (pv 2) (pv 1) (nomark _)) (pss_one (L2N.ps_raise rfl (L2N.takes_of rfl rfl rfl rfl) (L2N.pmk_own PySem.F.excBase_ValueError X_NoKeeper E_NoKeeper.g E_NoKeeper.k (raises_own E_NoKeeper.b E_NoKeeper.t) (by exact rfl)))) pss_nil)
      (PSs.nox (pss_one (ps_ret (pv 3))))))), ?_⟩
  rcases hi with hi | ⟨k, rfl, hk, hi⟩
  · exact q_dropX (m_keepR R eb (ev_var rfl) (evd_vI rfl) hi q)
  · refine q_drop eb (ev_keep R hk (ev_var rfl) (evd_vI rfl)) fun B1 H1 g1 => ?_
    have R1 := R.gr g1
    rcases hi with hi | rfl
    · exact q_asgX (m_keepR R1 g1.bh (ev_var rfl) (evd_vI rfl) hi fun B2 H2 g2 => q B2 H2 (g1.trans g2))
    · refine q_asgV g1.bh (ev_keep R1 hk (ev_var rfl) (evd_vI rfl)) fun B2 H2 g2 => ?_
      exact q_when (K := K) (b := true) g2.bh (et_test (EvD.is (evd_eqI (evd_vI rfl) (evd_vI rfl)) (congrArg PyData.bool (decide_eq_true rfl)))) (fun _ B3 H3 g3 => q B3 H3 ((g1.trans g2).trans g3)) fun z => nomatch z
theorem okR_Room_write {f f1 : Addr} {fd fd1 : FuncData} {Z : Bi mg} {T_Room : ClsAt K mg "Room" C_Room ["keepers", "places", "held"]} {T_Keeper : ClsAt K mg "Keeper" C_Keeper ["term", "row", "leads", "settled"]}
    {r_Room_leader : CalleeM P w K mg base (L2N.CX P w) 2 C_Room "leader" ["self", "k"] (spNo K C_Room C_Keeper C_NoKeeper aOne) f1 fd1}
    {D : MethAt K C_Room "write" "Room.write" s_Room_write ["self", "k", "word"] f fd} : CalleeM P w K mg base (L2N.CX P w) 3 C_Room "write" ["self", "k", "word"] (spNoA (RA K C_Room C_Keeper) C_NoKeeper aTwo) f fd := by
  refine D.okN sc_Room_write (fun vs H Q E h => by obtain ⟨B, r, n, S, F, ws, rfl, eb, R, ⟨i, v, rfl, hi⟩, q⟩ := h; rfl) fun cdv A outer s H vs Q E hr h => ?_
  obtain ⟨B, r, n, S, F, ws, rfl, eb, ⟨ad, R, rfl, hF⟩, ⟨i, v, rfl, hi⟩, q⟩ := h
  refine ⟨_, (pss_cons (ps_set (i := 3) sc_Room_write.nd rfl (.inl rfl) (pe_meth (pv 0) T_Room.cl r_Room_leader.M r_Room_leader.G (hr.mono (by decide)) r_Room_leader.b .nil (L2N.passes_call (L2N.takes_of rfl rfl rfl rfl) (fun _ _ _ _ h => h)) (pa_cons (pv 1) pa_nil)))
      (PSs.nox (pss_cons (ps_expr (pe_bm PySem.F.plainAttrs_list PySem.F.slot_list_append PySem.F.type_list_append mt_append (pe_fld (pv 3) rfl) (pa_cons (pe_tup (pa_cons (pe_fld (pv 3) rfl) (pa_cons (pv 2) pa_nil))) pa_nil)))
      (pss_one (ps_ret (pe_op op_sub (pe_callB call_len_seq (by rfl) Z.z_len (by decide +kernel) (pa_cons (pe_fld (pv 3) rfl) pa_nil)) pe_int)))))), ?_⟩
  exact q_asgX (m_no R eb (ev_var rfl) (P := fun B1 vs => DqAll K B1 [.int i] vs) (ea_cons (evd_vI rfl) ea_nil) (fun B1 vs hv => by obtain ⟨w0, vs, rfl, e0, hv⟩ := dqa_cons.mp hv; cases dqa_nil.mp hv; cases dq_int.mp e0; exact ⟨i, rfl, hi⟩) q)
theorem okR_Room_settle {f f1 f2 : Addr} {fd fd1 fd2 : FuncData} {Z : Bi mg} {T_Room : ClsAt K mg "Room" C_Room ["keepers", "places", "held"]} {T_Keeper : ClsAt K mg "Keeper" C_Keeper ["term", "row", "leads", "settled"]}
    {r_Room_leader : CalleeM P w K mg base (L2N.CX P w) 2 C_Room "leader" ["self", "k"] (spNo K C_Room C_Keeper C_NoKeeper aOne) f1 fd1}
    {c_settled_by : Callee P w K mg base 2 "settled_by" ["row", "term", "held"] (spD K R_settled) f2 fd2}
    {D : MethAt K C_Room "settle" "Room.settle" s_Room_settle ["self", "k"] f fd} : CalleeM P w K mg base (L2N.CX P w) 3 C_Room "settle" ["self", "k"] (spNoA (RA K C_Room C_Keeper) C_NoKeeper aOne) f fd := by
  refine D.okN sc_Room_settle (fun vs H Q E h => by obtain ⟨B, r, n, S, F, ws, rfl, eb, R, ⟨i, rfl, hi⟩, q⟩ := h; rfl) fun cdv A outer s H vs Q E hr h => ?_
  obtain ⟨B, r, n, S, F, ws, rfl, eb, ⟨ad, R, rfl, hF⟩, ⟨i, rfl, hi⟩, q⟩ := h
  refine ⟨_, (pss_cons (ps_set (i := 2) sc_Room_settle.nd rfl (.inl rfl) (pe_meth (pv 0) T_Room.cl r_Room_leader.M r_Room_leader.G (hr.mono (by decide)) r_Room_leader.b .nil (L2N.passes_call (L2N.takes_of rfl rfl rfl rfl) (fun _ _ _ _ h => h)) (pa_cons (pv 1) pa_nil)))
      (PSs.nox (pss_cons (ps_set (i := 3) sc_Room_settle.nd rfl (.inl rfl) (pe_callTy call_list_of (by rfl) Z.z_list (by decide +kernel) (pa_cons (pe_ix ix_list (pe_fld (pv 0) rfl) (pv 1) (fun _ _ => rfl)) pa_nil)))
      (pss_cons (ps_asg (pe_callB call_len_seq (by rfl) Z.z_len (by decide +kernel) (pa_cons (pe_fld (pv 2) rfl) pa_nil)) (pg_sub (pv 3) (pv 1) set_list))
      (pss_cons (ps_fld (pv 2) (pe_callB (call_max2 rfl) (by rfl) Z.z_max (by decide +kernel) (pa_cons (pe_fld (pv 2) rfl) (pa_cons (pe_call c_settled_by.G (hr.mono (by decide)) (by rfl) c_settled_by.g c_settled_by.kp c_settled_by.b .nil pass0 (pa_cons (pe_fld (pv 2) rfl) (pa_cons (pe_fld (pv 2) rfl) (pa_cons (pv 3) pa_nil)))) pa_nil))) rfl)
      (pss_one (ps_ret (pe_fld (pv 2) rfl)))))))), ?_⟩
  exact q_asgX (m_no R eb (ev_var rfl) (P := fun B1 vs => DqAll K B1 [.int i] vs) (ea_cons (evd_vI rfl) ea_nil) (fun B1 vs hv => by obtain ⟨w0, vs, rfl, e0, hv⟩ := dqa_cons.mp hv; cases dqa_nil.mp hv; cases dq_int.mp e0; exact ⟨i, rfl, hi⟩) q)
theorem okR_Room_hand {f f1 f2 f3 f4 f5 f6 : Addr} {fd fd1 fd2 fd3 fd4 fd5 fd6 : FuncData} {Z : Bi mg} {T_Room : ClsAt K mg "Room" C_Room ["keepers", "places", "held"]} {T_Keeper : ClsAt K mg "Keeper" C_Keeper ["term", "row", "leads", "settled"]}
    {r_Room_other_keeper : CalleeM P w K mg base (L2N.CX P w) 2 C_Room "other_keeper" ["self", "k", "other"] (spNo K C_Room C_Keeper C_NoKeeper aPair) f1 fd1}
    {x_Room_leader : CalleeM P w K mg base (L2N.CX P w) 2 C_Room "leader" ["self", "k"] (spLead K C_Room C_Keeper C_NotLeading) f2 fd2}
    {c_Keeper_hear : CalleeM P w K mg base CX0 1 C_Keeper "hear" ["self", "term"] (spHear K C_Keeper) f3 fd3}
    {c_agrees : Callee P w K mg base 1 "agrees" ["row", "at", "term"] (spD K R_agrees) f4 fd4}
    {c_last_term : Callee P w K mg base 1 "last_term" ["row"] (spD K R_last) f5 fd5}
    {x_filled : CalleeX P w K mg base (L2N.CX P w) 1 "filled" ["row", "at", "some"] (spFill K C_OutOfPlace) f6 fd6}
    {D : MethAt K C_Room "hand" "Room.hand" s_Room_hand ["self", "k", "other", "many"] f fd} : CalleeM P w K mg base (L2N.CX P w) 3 C_Room "hand" ["self", "k", "other", "many"] (spNoA (RA K C_Room C_Keeper) C_NoKeeper aHand) f fd := by
  refine D.okN sc_Room_hand (fun vs H Q E h => by obtain ⟨B, r, n, S, F, ws, rfl, eb, R, ⟨i, j, m, rfl, hi⟩, q⟩ := h; rfl) fun cdv A outer s H vs Q E hr h => ?_
  obtain ⟨B, r, n, S, F, ws, rfl, eb, ⟨ad, R, rfl, hF⟩, ⟨i, j, m, rfl, hi⟩, q⟩ := h
  refine ⟨_, (pss_cons (ps_set (i := 4) sc_Room_hand.nd rfl (.inl rfl) (pe_meth (pv 0) T_Room.cl r_Room_other_keeper.M r_Room_other_keeper.G (hr.mono (by decide)) r_Room_other_keeper.b .nil (L2N.passes_call (L2N.takes_of rfl rfl rfl rfl) (fun _ _ _ _ h => h)) (pa_cons (pv 1) (pa_cons (pv 2) pa_nil))))
      (pss_cons (ps_set (i := 5) sc_Room_hand.nd rfl (.inl rfl) (pe_meth (pv 0) T_Room.cl x_Room_leader.M x_Room_leader.G (hr.mono (by decide)) x_Room_leader.b .nil (L2N.passes_call (L2N.takes_of rfl rfl rfl rfl) (fun _ _ _ _ h => h)) (pa_cons (pv 1) pa_nil)))
      (pss_cons (ps_if (pt_cmpR op_gt (pe_fld (pv 4) rfl) (pe_fld (pv 5) rfl) (nomark _)) (PSs.nox (pss_cons (ps_expr (pe_meth (pv 5) T_Keeper.cl c_Keeper_hear.M c_Keeper_hear.G (hr.mono (by decide)) c_Keeper_hear.b .nil pass0 (pa_cons (pe_fld (pv 4) rfl) pa_nil)))
      (pss_one (ps_ret pe_bl)))) pss_nil)
      (pss_cons (ps_expr (pe_meth (pv 4) T_Keeper.cl c_Keeper_hear.M c_Keeper_hear.G (hr.mono (by decide)) c_Keeper_hear.b .nil pass0 (pa_cons (pe_fld (pv 5) rfl) pa_nil)))
      (pss_cons (ps_set (i := 6) sc_Room_hand.nd rfl (.inl rfl) (pe_ix ix_list (pe_ix ix_list (pe_fld (pv 0) rfl) (pv 1) (fun _ _ => rfl)) (pv 2) (fun _ _ => rfl)))
      (pss_cons (ps_if (pt_not (pt_val (pe_call c_agrees.G (hr.mono (by decide)) (by rfl) c_agrees.g c_agrees.kp c_agrees.b .nil pass0 (pa_cons (pe_fld (pv 4) rfl) (pa_cons (pv 6) (pa_cons (pe_call c_last_term.G (hr.mono (by decide)) (by rfl) c_last_term.g c_last_term.kp c_last_term.b .nil pass0 (pa_cons (pe_slice sl_list (pe_fld (pv 5) rfl) po_none (po_some (pv 6))) pa_nil)) pa_nil)))))) (PSs.nox (pss_cons (ps_asg (pe_op op_sub (pv 6) pe_int) (pg_sub (pe_ix ix_list (pe_fld (pv 0) rfl) (pv 1) (fun _ _ => rfl)) (pv 2) set_list))
      (pss_one (ps_ret pe_bl)))) pss_nil)
      (pss_cons (ps_set (i := 7) sc_Room_hand.nd rfl (.inl rfl) (pe_slice sl_list (pe_fld (pv 5) rfl) (po_some (pv 6)) (po_some (pe_op op_add (pv 6) (pe_callB (call_max2 rfl) (by rfl) Z.z_max (by decide +kernel) (pa_cons (pv 3) (pa_cons pe_int pa_nil)))))))
      (pss_cons (ps_fld (pv 4) (pe_call x_filled.G (hr.mono (by decide)) (by rfl) x_filled.g x_filled.kp x_filled.b .nil passN0 (pa_cons (pe_fld (pv 4) rfl) (pa_cons (pv 6) (pa_cons (pv 7) pa_nil)))) rfl)
      (PSs.nox (pss_cons (ps_set (i := 8) sc_Room_hand.nd rfl (.inl rfl) (pe_op op_add (pv 6) (pe_callB call_len_seq (by rfl) Z.z_len (by decide +kernel) (pa_cons (pv 7) pa_nil))))
      (pss_cons (ps_asg (pv 8) (pg_sub (pe_ix ix_list (pe_fld (pv 0) rfl) (pv 1) (fun _ _ => rfl)) (pv 2) set_list))
      (pss_cons (ps_asg (pv 8) (pg_sub (pe_ix ix_list (pe_fld (pv 0) rfl) (pv 1) (fun _ _ => rfl)) (pv 2) set_list))
      (pss_cons (ps_fld (pv 4) (pe_callB (call_max2 rfl) (by rfl) Z.z_max (by decide +kernel) (pa_cons (pe_fld (pv 4) rfl) (pa_cons (pe_callB (call_min2 rfl) (by rfl) Z.z_min (by decide +kernel) (pa_cons (pe_fld (pv 5) rfl) (pa_cons (pv 8) pa_nil))) pa_nil))) rfl)
      (pss_one (ps_ret pe_bl))))))))))))))), ?_⟩
  exact q_asgX (m_no R eb (ev_var rfl) (P := fun B1 vs => DqAll K B1 [.int i, .int j] vs) (ea_cons (evd_vI rfl) (ea_cons (evd_vI rfl) ea_nil)) (fun B1 vs hv => by obtain ⟨w0, vs, rfl, e0, hv⟩ := dqa_cons.mp hv; obtain ⟨w1, vs, rfl, e1, hv⟩ := dqa_cons.mp hv; cases dqa_nil.mp hv; cases dq_int.mp e0; cases dq_int.mp e1; exact ⟨i, j, rfl, hi⟩) q)
theorem okR_Room_stand {f f1 f2 f3 f4 : Addr} {fd fd1 fd2 fd3 fd4 : FuncData} {Z : Bi mg} {T_Room : ClsAt K mg "Room" C_Room ["keepers", "places", "held"]} {T_Keeper : ClsAt K mg "Keeper" C_Keeper ["term", "row", "leads", "settled"]}
    {x_Room_keeper : CalleeM P w K mg base (L2N.CX P w) 1 C_Room "keeper" ["self", "k"] (spKeep K C_Room C_Keeper C_NoKeeper) f1 fd1}
    {c_Keeper_hear : CalleeM P w K mg base CX0 1 C_Keeper "hear" ["self", "term"] (spHear K C_Keeper) f2 fd2}
    {c_Keeper_asked : CalleeM P w K mg base CX0 3 C_Keeper "asked" ["self", "term", "row"] (spAsked K C_Keeper) f3 fd3}
    {c_Room_begin : CalleeM P w K mg base CX0 1 C_Room "begin" ["self", "k"] (spBegin K C_Room C_Keeper) f4 fd4}
    {D : MethAt K C_Room "stand" "Room.stand" s_Room_stand ["self", "k", "others"] f fd} : CalleeM P w K mg base (L2N.CX P w) 4 C_Room "stand" ["self", "k", "others"] (spNoA (RA K C_Room C_Keeper) C_NoKeeper (aStand K)) f fd := by
  refine D.okN sc_Room_stand (fun vs H Q E h => by obtain ⟨B, r, n, S, F, ws, rfl, eb, R, ⟨i, v, rfl, hi⟩, q⟩ := h; rfl) fun cdv A outer s H vs Q E hr h => ?_
  obtain ⟨B, r, n, S, F, ws, rfl, eb, ⟨ad, R, rfl, hF⟩, ⟨i, v, rfl, hi⟩, q⟩ := h
  refine ⟨_, (pss_cons (ps_set (i := 3) sc_Room_stand.nd rfl (.inl rfl) (pe_meth (pv 0) T_Room.cl x_Room_keeper.M x_Room_keeper.G (hr.mono (by decide)) x_Room_keeper.b .nil (L2N.passes_call (L2N.takes_of rfl rfl rfl rfl) (fun _ _ _ _ h => h)) (pa_cons (pv 1) pa_nil)))
      (pss_cons (L2N.ps_setLcX (i := 4) (own := [("other", 7)]) (g := gName 7) (tt := tYes) rfl rfl (L2N.takes_of rfl rfl rfl rfl) rfl sc_Room_stand.nd rfl rfl (sw_true rfl rfl rfl (by decide +kernel)) (pi_list (pv 2)) (blkOk_by (own := [("other", 7)]) (N := ["self", "k", "others", "keeper", "voters", "voices", "voter", "other"]) (sc := defScope s_Room_stand) (by decide +kernel)) (fun _ _ _ _ _ => pg_name (i := 7) sc_Room_stand.nd rfl (Or.inl rfl)) (fun _ _ _ _ _ => pts_nil) (fun _ _ _ _ _ pn xe hx => (pe_meth (pv 0) T_Room.cl x_Room_keeper.M x_Room_keeper.G (hr.mono (by decide)) x_Room_keeper.b .nil hx (pa_cons (pv 7) pa_nil))))
      (PSs.nox (pss_cons (ps_expr (pe_meth (pv 3) T_Keeper.cl c_Keeper_hear.M c_Keeper_hear.G (hr.mono (by decide)) c_Keeper_hear.b .nil pass0 (pa_cons (pe_op op_add (pe_fld (pv 3) rfl) pe_int) pa_nil)))
      (pss_cons (ps_set (i := 5) sc_Room_stand.nd rfl (.inl rfl) pe_int)
      (pss_cons (ps_for PassesOwn.never rfl (pi_list (pv 4)) (pg_name (i := 6) sc_Room_stand.nd rfl (.inl rfl)) (pss_one (ps_if (pt_val (pe_meth (pv 6) T_Keeper.cl c_Keeper_asked.M c_Keeper_asked.G (hr.mono (by decide)) c_Keeper_asked.b .nil pass0 (pa_cons (pe_fld (pv 3) rfl) (pa_cons (pe_fld (pv 3) rfl) pa_nil)))) (pss_one (ps_aug (i := 5) sc_Room_stand.nd rfl (.inl rfl) pe_int ip_add)) pss_nil)))
      (pss_cons (ps_if (pt_cmpR op_gt (pe_op op_mul pe_int (pv 5)) (pe_callB call_len_seq (by rfl) Z.z_len (by decide +kernel) (pa_cons (pe_fld (pv 0) rfl) pa_nil)) (nomark _)) (pss_one (ps_expr (pe_meth (pv 0) T_Room.cl c_Room_begin.M c_Room_begin.G (hr.mono (by decide)) c_Room_begin.b .nil pass0 (pa_cons (pv 1) pa_nil)))) pss_nil)
      (pss_one (ps_ret (pe_fld (pv 3) rfl)))))))))), ?_⟩
  rcases hi with hi | ⟨k, os, rfl, hk, dv, hl, ho⟩
  · exact q_asgX (m_keepR R eb (ev_var rfl) (evd_vI rfl) hi q)
  · refine q_asgV eb (ev_keep R hk (ev_var rfl) (evd_vI rfl)) fun B1 H1 g1 => ?_
    have R1 := R.gr g1
    obtain ⟨w, o, h1, h2, h3⟩ := first_wrong os ho
    refine q_asgX (m_lcNo (K := K) (w := w) (fun i => .ref (ad (.p (os.getD i 0).toNat))) g1.bh (evd_v rfl (dv.mono g1.bb)) (by rw [List.length_map]; omega) (fun _ => rfl) (by rw [List.length_map]; exact (List.getElem?_eq_some_iff.mp h1).1) (fun i d v B2 H2 g2 hlt hd dd => ?_) fun d v B2 H2 g2 hd dd Q' => ?_)
    · rw [List.getElem?_map] at hd
      obtain ⟨x, e1, rfl⟩ := Option.map_eq_some_iff.mp hd
      cases dq_int.mp dd
      have e2 : os.getD i 0 = x := by rw [List.getD_eq_getElem?_getD, e1]; rfl
      have hx := h3 i x hlt e1
      rw [e2]
      unfold wrongN at hx
      exact ev_keep (k := x.toNat) (R1.gr g2) (by omega) (ev_var rfl) (by rw [Int.toNat_of_nonneg (by omega)]; exact evd_vI rfl)
    · rw [List.getElem?_map, h1] at hd
      cases hd
      cases dq_int.mp dd
      exact m_keepR (R1.gr g2) g2.bh (ev_var rfl) (evd_vI rfl) h2 fun B3 H3 g3 => q B3 H3 ((g1.trans g2).trans g3)
theorem okR_Room___init__ {f f1 : Addr} {fd fd1 : FuncData} {Z : Bi mg} {tk_MOST : Tok} {gM_MOST : mg "MOST" = some (.int 9 tk_MOST)} {T_Room : ClsAt K mg "Room" C_Room ["keepers", "places", "held"]} {T_Keeper : ClsAt K mg "Keeper" C_Keeper ["term", "row", "leads", "settled"]} {E_NoRoom : ErrC K mg "NoRoom" C_NoRoom}
    {X_NoRoom : PySem.W.excIn K C_NoRoom [.type "ValueError", .type "Exception", .type "BaseException", .type "object"] "ValueError.__new__" = true}
    {c_Keeper___init__ : CalleeM P w K mg base CX0 1 C_Keeper "__init__" ["self", "row"] (spKInit K C_Keeper) f1 fd1}
    {D : MethAt K C_Room "__init__" "Room.__init__" s_Room___init__ ["self", "count"] f fd} : CalleeM P w K mg base (L2N.CX P w) 3 C_Room "__init__" ["self", "count"] (spNoNew K C_NoRoom) f fd := by
  refine D.okN sc_Room___init__ (fun vs H Q E h => by obtain ⟨B, p, d, v, rfl, _⟩ := h; rfl) fun cdv A outer s H vs Q E hr h => ?_
  obtain ⟨B, p, d, v, rfl, eb, dv, hd, q⟩ := h
  refine ⟨_, (pss_cons (ps_if (PW.pt (pw_or (pt_val (pe_callB call_isi (by rfl) Z.z_isinstance (by decide +kernel) (pa_cons (pv 1) (pa_cons (pe_bltn (v := .ty "bool") (u := .type "bool") (by rfl) Z.z_bool (by decide +kernel) rfl) pa_nil)))) (pw_or1 (pt_not (pt_val (pe_callB call_isi (by rfl) Z.z_isinstance (by decide +kernel) (pa_cons (pv 1) (pa_cons (pe_bltn (v := .ty "int") (u := .type "int") (by rfl) Z.z_int (by decide +kernel) rfl) pa_nil)))))))) (pss_one (L2N.ps_raise rfl (L2N.takes_of rfl rfl rfl rfl) (L2N.pmk_own PySem.F.excBase_ValueError X_NoRoom E_NoRoom.g E_NoRoom.k (raises_own E_NoRoom.b E_NoRoom.t) (by exact rfl)))) pss_nil)
      (pss_cons (ps_if (PW.pt (pw_or (pt_cmpR op_lt (pv 1) pe_int (nomark _)) (pw_or1 (pt_cmpR op_gt (pv 1) (pe_glob (v := .int 9) (by rfl) gM_MOST ⟨_, rfl⟩) (nomark _))))) (pss_one (L2N.ps_raise rfl (L2N.takes_of rfl rfl rfl rfl) (L2N.pmk_own PySem.F.excBase_ValueError X_NoRoom E_NoRoom.g E_NoRoom.k (raises_own E_NoRoom.b E_NoRoom.t) (by exact rfl)))) pss_nil)
      (PSs.nox (pss_cons (ps_fld (pv 0) (pe_lc (own := [("k", 2)]) (g := gName 2) (tt := tYes) rfl sc_Room___init__.nd (pi_range1 (by rfl) Z.z_range (pa_cons (pv 1) pa_nil)) (blkOk_by (own := [("k", 2)]) (N := ["self", "count", "k"]) (sc := defScope s_Room___init__) (by decide +kernel)) (fun _ _ _ _ _ => pg_name (i := 2) sc_Room___init__.nd rfl (Or.inl rfl)) (fun _ _ _ _ _ => pts_nil) (fun _ _ _ _ _ => (pe_make (T_Keeper.Mk c_Keeper___init__.M) c_Keeper___init__.G (hr.mono (by decide)) (by rfl) T_Keeper.g c_Keeper___init__.b .nil pass0 (pa_cons (pe_lst pa_nil) pa_nil)))) rfl)
      (pss_cons (ps_fld (pv 0) (pe_lc (own := [("k", 2)]) (g := gName 2) (tt := tYes) rfl sc_Room___init__.nd (pi_range1 (by rfl) Z.z_range (pa_cons (pv 1) pa_nil)) (blkOk_by (own := [("k", 2)]) (N := ["self", "count", "k"]) (sc := defScope s_Room___init__) (by decide +kernel)) (fun _ _ _ _ _ => pg_name (i := 2) sc_Room___init__.nd rfl (Or.inl rfl)) (fun _ _ _ _ _ => pts_nil) (fun _ _ _ _ _ => (pe_lst pa_nil))) rfl)
      (pss_one (ps_fld (pv 0) (pe_lc (own := [("k", 2)]) (g := gName 2) (tt := tYes) rfl sc_Room___init__.nd (pi_range1 (by rfl) Z.z_range (pa_cons (pv 1) pa_nil)) (blkOk_by (own := [("k", 2)]) (N := ["self", "count", "k"]) (sc := defScope s_Room___init__) (by decide +kernel)) (fun _ _ _ _ _ => pg_name (i := 2) sc_Room___init__.nd rfl (Or.inl rfl)) (fun _ _ _ _ _ => pts_nil) (fun _ _ _ _ _ => (pe_lst pa_nil))) rfl))))))), ?_⟩
  cases d with
  | int i =>
    have hd : i < 1 ∨ 9 < i := hd
    cases dq_int.mp dv
    refine q_when (K := K) (b := false) eb (et_or0 (et_B (evd_isi (evd_vI rfl) (by decide +kernel : kitB "int" "bool" = some false))) (et_not (b := true) (et_B (evd_isi (evd_vI rfl) (by decide +kernel : kitB "int" "int" = some true))))) (fun z => nomatch z) fun _ B1 H1 g1 => ?_
    refine q_when (K := K) (b := true) g1.bh (EvT.is (et_or (et_test (evd_B0 (evd_vI rfl) evd_cI rfl)) fun _ => et_test (evd_B0 (evd_vI rfl) evd_cI rfl)) ?_) (fun _ B2 H2 g2 => q B2 H2 (g1.trans g2)) fun z => nomatch z
    by_cases h1 : i < 1
    · rw [decide_eq_true h1]; rfl
    · rw [decide_eq_false h1, decide_eq_true (by omega)]; rfl
  | bool b => exact q_when (K := K) (b := true) eb (EvT.is (et_or (b := true) (c := true) (et_B (evd_isi (evd_v rfl dv) (by decide +kernel : kitB "bool" "bool" = some true))) fun z => nomatch z) rfl) (fun _ B1 H1 g1 => q B1 H1 g1) fun z => nomatch z
  | none => exact q_when (K := K) (b := true) eb (et_or0 (et_B (evd_isi (evd_v rfl dv) (by decide +kernel : kitB "NoneType" "bool" = some false))) (et_not (b := false) (et_B (evd_isi (evd_v rfl dv) (by decide +kernel : kitB "NoneType" "int" = some false))))) (fun _ B1 H1 g1 => q B1 H1 g1) fun z => nomatch z
  | str s => exact q_when (K := K) (b := true) eb (et_or0 (et_B (evd_isi (evd_v rfl dv) (by decide +kernel : kitB "str" "bool" = some false))) (et_not (b := false) (et_B (evd_isi (evd_v rfl dv) (by decide +kernel : kitB "str" "int" = some false))))) (fun _ B1 H1 g1 => q B1 H1 g1) fun z => nomatch z
  | list s => exact q_when (K := K) (b := true) eb (et_or0 (et_B (evd_isi (evd_v rfl dv) (by decide +kernel : kitB "list" "bool" = some false))) (et_not (b := false) (et_B (evd_isi (evd_v rfl dv) (by decide +kernel : kitB "list" "int" = some false))))) (fun _ B1 H1 g1 => q B1 H1 g1) fun z => nomatch z
  | tuple s => exact q_when (K := K) (b := true) eb (et_or0 (et_B (evd_isi (evd_v rfl dv) (by decide +kernel : kitB "tuple" "bool" = some false))) (et_not (b := false) (et_B (evd_isi (evd_v rfl dv) (by decide +kernel : kitB "tuple" "int" = some false))))) (fun _ B1 H1 g1 => q B1 H1 g1) fun z => nomatch z
  | _ => exact hd.elim
end

section
variable {P : Program} {w : World} {K : PySem.W.Frag} {mg : Str → Option Value} {base : Heap}
/-! ### what is drawn -/
def drawnOf : Int → List Int → List Int
  | _, [] => []
  | n, s :: ss => n % s :: drawnOf (n / s) ss
def leftOf : Int → List Int → Int
  | n, [] => n
  | n, s :: ss => leftOf (n / s) ss
theorem drawnOf_snoc : ∀ (n : Int) (ss : List Int) (s : Int), drawnOf n (ss ++ [s]) = drawnOf n ss ++ [leftOf n ss % s] ∧ leftOf n (ss ++ [s]) = leftOf n ss / s
  | n, [], s => ⟨rfl, rfl⟩
  | n, t :: ss, s => by
    obtain ⟨h1, h2⟩ := drawnOf_snoc (n / t) ss s
    exact ⟨by show n % t :: drawnOf (n / t) (ss ++ [s]) = _; rw [h1]; rfl, h2⟩
theorem drawnOf_len : ∀ (n : Int) (ss : List Int), (drawnOf n ss).length = ss.length
  | _, [] => rfl
  | n, s :: ss => by show (drawnOf (n / s) ss).length + 1 = _; rw [drawnOf_len]; rfl
def R_drawn : List PyData → PyData → Prop := fun ds d => ∃ n ss, ds = [.int n, .list (ss.map .int)] ∧ (∀ s ∈ ss, 0 < s ∧ s ≤ 1000) ∧ ss.length ≤ 20 ∧ d = .list ((drawnOf n ss).map .int)
theorem ok_law_drawn {f : Addr} {fd : FuncData} {Z : Bi mg} {D : DefAt K mg "_law_drawn" s_law_drawn ["_law_number", "_law_sizes"] f fd} : Callee P w K mg base 1 "_law_drawn" ["_law_number", "_law_sizes"] (spD K R_drawn) f fd := by
  refine D.run sc_law_drawn (fun ds d h => by obtain ⟨n, s, rfl, _⟩ := h; rfl) fun cdv A outer s B H vs ds d Q E hr h eb hv q => ?_
  obtain ⟨n, ss, rfl, hs, hl, rfl⟩ := h
  obtain ⟨v0, vs, rfl, d0, hv⟩ := dqa_cons.mp hv
  obtain ⟨v1, vs, rfl, d1, hv⟩ := dqa_cons.mp hv
  cases dqa_nil.mp hv
  cases dq_int.mp d0
  refine ⟨_, (pss_cons (ps_set (i := 2) sc_law_drawn.nd rfl (.inl rfl) (pe_lst pa_nil))
      (pss_cons (ps_for PassesOwn.never rfl (pi_list (pv 1)) (pg_name (i := 3) sc_law_drawn.nd rfl (.inl rfl)) (pss_cons (ps_expr (pe_bm PySem.F.plainAttrs_list PySem.F.slot_list_append PySem.F.type_list_append mt_append (pv 2) (pa_cons (pe_op op_mod (pv 0) (pv 3)) pa_nil)))
      (pss_one (ps_set (i := 0) sc_law_drawn.nd rfl (.inl rfl) (pe_op op_fdiv (pv 0) (pv 3))))))
      (pss_one (ps_ret (pv 2))))), ?_⟩
  refine q_newL eb fun l l1 l2 e1 => ?_
  have G1 := Gr.newM (o := .lst []) eb l1
  refine q_forD (K := K) e1 (evd_v rfl d1) fun B2 H2 g2 => ⟨fun i σ' B3 H3 => Gr B H B3 H3 ∧ Evl.Ex B2 B3 ∧ B3 l = none ∧ ∃ y xs, σ' = [some (.int (leftOf n (ss.take i))), some v1, some (.ref l), y] ∧ H3 l = some (.lst xs) ∧ DqAll K B3 ((drawnOf n (ss.take i)).map .int) xs, ⟨G1.trans g2, Evl.Ex.refl _, g2.out l2 upd_same, none, [], rfl, g2.hh _ _ upd_same, dqa_nil.mpr rfl⟩, fun i σ' B3 H3 h => ⟨h.2.1, h.1.bh⟩, ?_, ?_⟩
  · rintro i d v σ' B3 H3 hi hd ⟨gg, eb3, b3, y, xs, rfl, hL, hx⟩
    rw [List.getElem?_map] at hi
    obtain ⟨s, he, rfl⟩ := Option.map_eq_some_iff.mp hi
    cases dq_int.mp hd
    obtain ⟨s0, s1⟩ := hs s (List.mem_of_getElem? he)
    have hi2 : i < ss.length := (List.getElem?_eq_some_iff.mp he).1
    have et : ss.take (i + 1) = ss.take i ++ [s] := by rw [List.take_add_one, he]; rfl
    obtain ⟨t1, t2⟩ := drawnOf_snoc n (ss.take i) s
    refine q_app (K := K) (d := .int (leftOf n (ss.take i) % s)) gg.bh b3 hL rfl (evd_IC (evd_vI rfl) (evd_vI rfl) rfl s0) ?_ fun u B4 H4 g4 du b4 e4 => ?_
    · rw [hx.len, List.length_map, drawnOf_len, List.length_take]
      omega
    cases dq_int.mp du
    refine s_asgI (K := K) e4 (evd_IC (evd_vI rfl) (evd_vI rfl) rfl ⟨by omega, by omega⟩) fun B5 H5 g5 => ?_
    have G4 : Gr B H B4 (L2.upd H4 l (.lst (xs ++ [.int (leftOf n (ss.take i) % s)]))) := (gg.trans g4).mut l1 b4
    exact ⟨B5, G4.trans g5, eb3.trans (g4.bb.trans g5.bb), g5.out b4 upd_same, _, _, by rw [et, t2]; rfl, g5.hh _ _ upd_same, by rw [et, t1, List.map_append]; exact (((hx.mono g4.bb).append (DqAll.one du)).mono g5.bb)⟩
  · rintro σ' B3 H3 ⟨gg, eb3, b3, y, xs, rfl, hL, hx⟩
    rw [List.length_map, List.take_length] at *
    have F := gg.froz l1 b3 hL
    refine G.s_ret (K := K) (d := .list ((drawnOf n ss).map .int)) F.bh (evd_v rfl (dq_list.mpr ⟨l, xs, rfl, upd_same, hx.mono (Evl.Ex.new b3)⟩)) fun v B4 H4 g4 p => q v B4 H4 (F.trans g4) p
end

section
variable {P : Program} {w : World} {K : PySem.W.Frag} {mg : Str → Option Value} {base : Heap} {RA : RoomP} {C_Room C_NoRoom C_NoKeeper C_NotLeading C_OutOfPlace C_RoomError : Addr}
/-! ### what is done wrongly -/
theorem evd_abs {σ : L2.St} {B H : Hp} {ta : TE} {i : Int} (h : EvD K ta σ B H (.int i)) : EvD K (tCB (fun xs H Q => ∃ i, xs = [V.int i] ∧ Q (.int (if i < 0 then -i else i)) H) (tCons ta tNil)) σ B H (.int (if i < 0 then -i else i)) :=
  evd_cb (ea_cons h ea_nil) fun vs B1 H1 g p Q q => by
    obtain ⟨v, vs', rfl, p1, p2⟩ := dqa_cons.mp p
    cases dqa_nil.mp p2
    exact ⟨i, by rw [dq_int.mp p1], q _ B1 H1 g.le (dq_int.mpr rfl)⟩
def askedL (k o wr : Int) (pl : Nat) : List Int := ([k, o, o, k, o].take pl ++ [wr]) ++ [k, o, o, k, o].drop pl
def R_asked : List PyData → PyData → Prop := fun ds d => ∃ (k o wr : Int) (pl : Nat), ds = [.int k, .int o, .int wr, .int (pl : Int)] ∧ pl < 6 ∧ d = .list ((askedL k o wr pl).map .int)
theorem ok_law_asked {f : Addr} {fd : FuncData} {Z : Bi mg} {D : DefAt K mg "_law_asked" s_law_asked ["_law_k", "_law_other", "_law_wrong", "_law_place"] f fd} : Callee P w K mg base 1 "_law_asked" ["_law_k", "_law_other", "_law_wrong", "_law_place"] (spD K R_asked) f fd := by
  refine D.run sc_law_asked (fun ds d h => by obtain ⟨k, o, wr, pl, rfl, _⟩ := h; rfl) fun cdv A outer s B H vs ds d Q E hr h eb hv q => ?_
  obtain ⟨k, o, wr, pl, rfl, hp, rfl⟩ := h
  obtain ⟨v0, vs, rfl, d0, hv⟩ := dqa_cons.mp hv
  obtain ⟨v1, vs, rfl, d1, hv⟩ := dqa_cons.mp hv
  obtain ⟨v2, vs, rfl, d2, hv⟩ := dqa_cons.mp hv
  obtain ⟨v3, vs, rfl, d3, hv⟩ := dqa_cons.mp hv
  cases dqa_nil.mp hv
  cases dq_int.mp d0
  cases dq_int.mp d1
  cases dq_int.mp d2
  cases dq_int.mp d3
  refine ⟨_, (pss_cons (ps_set (i := 4) sc_law_asked.nd rfl (.inl rfl) (pe_lst (pa_cons (pv 0) (pa_cons (pv 1) (pa_cons (pv 1) (pa_cons (pv 0) (pa_cons (pv 1) pa_nil)))))))
      (pss_one (ps_ret (pe_op op_cat (pe_op op_cat (pe_slice sl_list (pv 4) po_none (po_some (pv 3))) (pe_lst (pa_cons (pv 2) pa_nil))) (pe_slice sl_list (pv 4) (po_some (pv 3)) po_none))))), ?_⟩
  refine q_asgD (K := K) (d := .list [.int k, .int o, .int o, .int k, .int o]) eb (evd_lst (ea_cons (evd_vI rfl) (ea_cons (evd_vI rfl) (ea_cons (evd_vI rfl) (ea_cons (evd_vI rfl) (ea_cons (evd_vI rfl) ea_nil))))) (show 5 ≤ 100000 by decide)) fun v B1 H1 g1 dv => ?_
  have hc : pl = 0 ∨ pl = 1 ∨ pl = 2 ∨ pl = 3 ∨ pl = 4 ∨ pl = 5 := by omega
  refine G.s_ret (K := K) (d := .list ((askedL k o wr pl).map .int)) g1.bh (EvD.is (evd_cat (evd_cat (evd_sl (evd_v rfl dv) eo_none (eo_some (evd_vI rfl))) (evd_lst (ea_cons (evd_vI rfl) ea_nil) (show 1 ≤ 100000 by decide)) ?_) (evd_sl (evd_v rfl dv) (eo_some (evd_vI rfl)) eo_none) ?_) ?_) fun v B2 H2 g2 p => q v B2 H2 (g1.trans g2) p
  · rcases hc with rfl | rfl | rfl | rfl | rfl | rfl <;> exact Nat.le_of_ble_eq_true rfl
  · rcases hc with rfl | rfl | rfl | rfl | rfl | rfl <;> exact Nat.le_of_ble_eq_true rfl
  · rcases hc with rfl | rfl | rfl | rfl | rfl | rfl <;> rfl
section
variable {CE : Addr} {σ : L2.St} {B H : Hp} {ta tb tc td : TE} {n : Nat} {r : Addr} {S : Rf.Room Str} {F : Addr → Prop} {Q : VK} {m : Str} {E : XK} {i j l : Int} {d : PyData}
theorem no1 (O : RoomOk C_Room RA) (R : RA B H r n S F) (hm : m ∈ roomNames) (g0 : Evl.Ex B H) (h : EvV ta σ B H (.ref r)) (hb : EvD K tb σ B H (.int i)) (hi : wrongN n i) (q : ∀ B1 H1, Gr B H B1 H1 → E (.ref CE) none H1) : tMeth C_Room m (spNoA RA CE aOne) [] E ta (tCons tb tNil) σ H Q :=
  m_noA O R hm g0 h (P := fun B1 vs => DqAll K B1 [.int i] vs) (ea_cons hb ea_nil) (fun B1 vs hv => by
    obtain ⟨w0, vs, rfl, e0, hv⟩ := dqa_cons.mp hv
    cases dqa_nil.mp hv
    cases dq_int.mp e0
    exact ⟨i, rfl, hi⟩) q
theorem no2 (O : RoomOk C_Room RA) (R : RA B H r n S F) (hm : m ∈ roomNames) (g0 : Evl.Ex B H) (h : EvV ta σ B H (.ref r)) (hb : EvD K tb σ B H (.int i)) (hc : EvD K tc σ B H d) (hi : wrongN n i) (q : ∀ B1 H1, Gr B H B1 H1 → E (.ref CE) none H1) : tMeth C_Room m (spNoA RA CE aTwo) [] E ta (tCons tb (tCons tc tNil)) σ H Q :=
  m_noA O R hm g0 h (P := fun B1 vs => DqAll K B1 [.int i, d] vs) (ea_cons hb (ea_cons hc ea_nil)) (fun B1 vs hv => by
    obtain ⟨w0, vs, rfl, e0, hv⟩ := dqa_cons.mp hv
    obtain ⟨w1, vs, rfl, e1, hv⟩ := dqa_cons.mp hv
    cases dqa_nil.mp hv
    cases dq_int.mp e0
    exact ⟨i, w1, rfl, hi⟩) q
theorem noS {os : List Int} (O : RoomOk C_Room RA) (R : RA B H r n S F) (hm : m ∈ roomNames) (g0 : Evl.Ex B H) (h : EvV ta σ B H (.ref r)) (hb : EvD K tb σ B H (.int i)) (hc : EvD K tc σ B H (.list (os.map .int))) (hi : wrongN n i ∨ ((∃ k : Nat, i = (k : Int) ∧ k < n) ∧ os.length ≤ 100 ∧ ∃ o ∈ os, wrongN n o)) (q : ∀ B1 H1, Gr B H B1 H1 → E (.ref CE) none H1) : tMeth C_Room m (spNoA RA CE (aStand K)) [] E ta (tCons tb (tCons tc tNil)) σ H Q :=
  m_noA O R hm g0 h (P := fun B1 vs => DqAll K B1 [.int i, .list (os.map .int)] vs) (ea_cons hb (ea_cons hc ea_nil)) (fun B1 vs hv => by
    obtain ⟨w0, vs, rfl, e0, hv⟩ := dqa_cons.mp hv
    obtain ⟨w1, vs, rfl, e1, hv⟩ := dqa_cons.mp hv
    cases dqa_nil.mp hv
    cases dq_int.mp e0
    refine ⟨i, w1, rfl, hi.imp id fun ⟨⟨k, e, hk⟩, h1, h2⟩ => ⟨k, os, e, hk, e1, h1, h2⟩⟩) q
theorem no3 (O : RoomOk C_Room RA) (R : RA B H r n S F) (hm : m ∈ roomNames) (g0 : Evl.Ex B H) (h : EvV ta σ B H (.ref r)) (hb : EvD K tb σ B H (.int i)) (hc : EvD K tc σ B H (.int j)) (hd : EvD K td σ B H (.int l)) (hi : badPair n i j) (q : ∀ B1 H1, Gr B H B1 H1 → E (.ref CE) none H1) : tMeth C_Room m (spNoA RA CE aHand) [] E ta (tCons tb (tCons tc (tCons td tNil))) σ H Q :=
  m_noA O R hm g0 h (P := fun B1 vs => DqAll K B1 [.int i, .int j, .int l] vs) (ea_cons hb (ea_cons hc (ea_cons hd ea_nil))) (fun B1 vs hv => by
    obtain ⟨w0, vs, rfl, e0, hv⟩ := dqa_cons.mp hv
    obtain ⟨w1, vs, rfl, e1, hv⟩ := dqa_cons.mp hv
    obtain ⟨w2, vs, rfl, e2, hv⟩ := dqa_cons.mp hv
    cases dqa_nil.mp hv
    cases dq_int.mp e0
    cases dq_int.mp e1
    cases dq_int.mp e2
    exact ⟨i, j, l, rfl, hi⟩) q
theorem no3E {E : L2.St → XK} (O : RoomOk C_Room RA) (R : RA B H r n S F) (hm : m ∈ roomNames) (g0 : Evl.Ex B H) (h : EvV ta σ B H (.ref r)) (hb : EvD K tb σ B H (.int i)) (hc : EvD K tc σ B H (.int j)) (hd : EvD K td σ B H (.int l)) (hi : badPair n i j) (q : ∀ B1 H1, Gr B H B1 H1 → E σ (.ref CE) none H1) : L2H.tMethH C_Room m (spNoA RA CE aHand) E ta (tCons tb (tCons tc (tCons td tNil))) σ H Q :=
  m_noE O R hm g0 h (P := fun B1 vs => DqAll K B1 [.int i, .int j, .int l] vs) (ea_cons hb (ea_cons hc (ea_cons hd ea_nil))) (fun B1 vs hv => by
    obtain ⟨w0, vs, rfl, e0, hv⟩ := dqa_cons.mp hv
    obtain ⟨w1, vs, rfl, e1, hv⟩ := dqa_cons.mp hv
    obtain ⟨w2, vs, rfl, e2, hv⟩ := dqa_cons.mp hv
    cases dqa_nil.mp hv
    cases dq_int.mp e0
    cases dq_int.mp e1
    cases dq_int.mp e2
    exact ⟨i, j, l, rfl, hi⟩) q
theorem q_way {K : PySem.W.Frag} {D : Ends} {tu tz : TS} {wy c : Int} {x : Nat} (g0 : Evl.Ex B H) (hv : σ[x]? = some (some (.int wy))) (h1 : wy = c → ∀ B1 H1, Gr B H B1 H1 → tu { D with nx := tz D } σ H1) (h2 : wy ≠ c → ∀ B1 H1, Gr B H B1 H1 → tz D σ H1) : tSeq (tIfS (tTest (tOp rEq (tVar x) (tC (.int c)))) tu tNext) tz D σ H :=
  q_when (K := K) g0 (et_test (evd_eqI (evd_vI hv) evd_cI)) (fun hb => h1 (of_decide_eq_true hb)) fun hb => h2 (of_decide_eq_false hb)
end
def spDone (RA : RoomP) (CE : Addr) : Sp := fun vs H _ E => ∃ (B : Hp) (r : Addr) (n : Nat) (S : Rf.Room Str) (F : Addr → Prop) (wy : Int) (k o : Nat) (wr : Int), vs = [.ref r, .int wy, .int (k : Int), .int (o : Int), .int wr] ∧ Evl.Ex B H ∧ RA B H r n S F ∧ k < n ∧ o < n ∧ wrongN n wr ∧ ∀ B1 H1, Gr B H B1 H1 → E (.ref CE) none H1
theorem okX_law_done {f f0 f1 f2 f3 f4 f5 f6 f7 f8 f9 : Addr} {fd fd0 fd1 fd2 fd3 fd4 fd5 fd6 fd7 fd8 fd9 : FuncData} {Z : Bi mg} {T_Room : ClsAt K mg "Room" C_Room ["keepers", "places", "held"]} {O_Room : RoomOk C_Room RA} {D : DefAt K mg "_law_done" s_law_done ["_law_room", "_law_way", "_law_k", "_law_other", "_law_wrong"] f fd}
    {c_law_asked : Callee P w K mg base 1 "_law_asked" ["_law_k", "_law_other", "_law_wrong", "_law_place"] (spD K R_asked) f0 fd0}
    {r_Room_stand : CalleeM P w K mg base (L2N.CX P w) 4 C_Room "stand" ["self", "k", "others"] (spNoA RA C_NoKeeper (aStand K)) f1 fd1}
    {r_Room_write : CalleeM P w K mg base (L2N.CX P w) 3 C_Room "write" ["self", "k", "word"] (spNoA RA C_NoKeeper aTwo) f2 fd2}
    {r_Room_hand : CalleeM P w K mg base (L2N.CX P w) 3 C_Room "hand" ["self", "k", "other", "many"] (spNoA RA C_NoKeeper aHand) f3 fd3}
    {r_Room_settle : CalleeM P w K mg base (L2N.CX P w) 3 C_Room "settle" ["self", "k"] (spNoA RA C_NoKeeper aOne) f4 fd4}
    {r_Room_rest : CalleeM P w K mg base (L2N.CX P w) 2 C_Room "rest" ["self", "k"] (spNoA RA C_NoKeeper aOne) f5 fd5}
    {r_Room_term_of : CalleeM P w K mg base (L2N.CX P w) 2 C_Room "term_of" ["self", "k"] (spNoA RA C_NoKeeper aOne) f6 fd6}
    {r_Room_row_of : CalleeM P w K mg base (L2N.CX P w) 2 C_Room "row_of" ["self", "k"] (spNoA RA C_NoKeeper aOne) f7 fd7}
    {r_Room_leading : CalleeM P w K mg base (L2N.CX P w) 2 C_Room "leading" ["self", "k"] (spNoA RA C_NoKeeper aOne) f8 fd8}
    {r_Room_settled_of : CalleeM P w K mg base (L2N.CX P w) 2 C_Room "settled_of" ["self", "k"] (spNoA RA C_NoKeeper aOne) f9 fd9} :
    CalleeX P w K mg base (L2N.CX P w) 5 "_law_done" ["_law_room", "_law_way", "_law_k", "_law_other", "_law_wrong"] (spDone RA C_NoKeeper) f fd := by
  refine D.okN sc_law_done (fun vs H Q E h => by obtain ⟨B, r, n, S, F, wy, k, o, wr, rfl, _⟩ := h; rfl) fun cdv A outer s H vs Q E hr h => ?_
  obtain ⟨B, r, n, S, F, wy, k, o, wr, rfl, eb, R, hk, ho, hw, q⟩ := h
  refine ⟨_, (pss_cons (ps_if (pt_cmpR op_eq (pv 1) pe_int (nomark _)) (pss_one (ps_ret (pe_meth (pv 0) T_Room.cl r_Room_stand.M r_Room_stand.G (hr.mono (by decide)) r_Room_stand.b .nil (L2N.passes_call (L2N.takes_of rfl rfl rfl rfl) (fun _ _ _ _ h => h)) (pa_cons (pv 4) (pa_cons (pe_lst pa_nil) pa_nil))))) pss_nil)
      (pss_cons (ps_if (pt_cmpR op_eq (pv 1) pe_int (nomark _)) (pss_one (ps_ret (pe_meth (pv 0) T_Room.cl r_Room_stand.M r_Room_stand.G (hr.mono (by decide)) r_Room_stand.b .nil (L2N.passes_call (L2N.takes_of rfl rfl rfl rfl) (fun _ _ _ _ h => h)) (pa_cons (pv 2) (pa_cons (pe_call c_law_asked.G (hr.mono (by decide)) (by rfl) c_law_asked.g c_law_asked.kp c_law_asked.b .nil pass0 (pa_cons (pv 2) (pa_cons (pv 3) (pa_cons (pv 4) (pa_cons (pe_op op_mod (pe_callB call_abs (by rfl) Z.z_abs (by decide +kernel) (pa_cons (pv 4) pa_nil)) pe_int) pa_nil))))) pa_nil))))) pss_nil)
      (pss_cons (ps_if (pt_cmpR op_eq (pv 1) pe_int (nomark _)) (pss_one (ps_ret (pe_meth (pv 0) T_Room.cl r_Room_write.M r_Room_write.G (hr.mono (by decide)) r_Room_write.b .nil (L2N.passes_call (L2N.takes_of rfl rfl rfl rfl) (fun _ _ _ _ h => h)) (pa_cons (pv 4) (pa_cons pe_str pa_nil))))) pss_nil)
      (pss_cons (ps_if (pt_cmpR op_eq (pv 1) pe_int (nomark _)) (pss_one (ps_ret (pe_meth (pv 0) T_Room.cl r_Room_hand.M r_Room_hand.G (hr.mono (by decide)) r_Room_hand.b .nil (L2N.passes_call (L2N.takes_of rfl rfl rfl rfl) (fun _ _ _ _ h => h)) (pa_cons (pv 4) (pa_cons (pv 2) (pa_cons pe_int pa_nil)))))) pss_nil)
      (pss_cons (ps_if (pt_cmpR op_eq (pv 1) pe_int (nomark _)) (pss_one (ps_ret (pe_meth (pv 0) T_Room.cl r_Room_hand.M r_Room_hand.G (hr.mono (by decide)) r_Room_hand.b .nil (L2N.passes_call (L2N.takes_of rfl rfl rfl rfl) (fun _ _ _ _ h => h)) (pa_cons (pv 2) (pa_cons (pv 4) (pa_cons pe_int pa_nil)))))) pss_nil)
      (pss_cons (ps_if (pt_cmpR op_eq (pv 1) pe_int (nomark _)) (pss_one (ps_ret (pe_meth (pv 0) T_Room.cl r_Room_hand.M r_Room_hand.G (hr.mono (by decide)) r_Room_hand.b .nil (L2N.passes_call (L2N.takes_of rfl rfl rfl rfl) (fun _ _ _ _ h => h)) (pa_cons (pv 2) (pa_cons (pv 2) (pa_cons pe_int pa_nil)))))) pss_nil)
      (pss_cons (ps_if (pt_cmpR op_eq (pv 1) pe_int (nomark _)) (pss_one (ps_ret (pe_meth (pv 0) T_Room.cl r_Room_settle.M r_Room_settle.G (hr.mono (by decide)) r_Room_settle.b .nil (L2N.passes_call (L2N.takes_of rfl rfl rfl rfl) (fun _ _ _ _ h => h)) (pa_cons (pv 4) pa_nil)))) pss_nil)
      (pss_cons (ps_if (pt_cmpR op_eq (pv 1) pe_int (nomark _)) (pss_one (ps_ret (pe_meth (pv 0) T_Room.cl r_Room_rest.M r_Room_rest.G (hr.mono (by decide)) r_Room_rest.b .nil (L2N.passes_call (L2N.takes_of rfl rfl rfl rfl) (fun _ _ _ _ h => h)) (pa_cons (pv 4) pa_nil)))) pss_nil)
      (pss_cons (ps_if (pt_cmpR op_eq (pv 1) pe_int (nomark _)) (pss_one (ps_ret (pe_meth (pv 0) T_Room.cl r_Room_term_of.M r_Room_term_of.G (hr.mono (by decide)) r_Room_term_of.b .nil (L2N.passes_call (L2N.takes_of rfl rfl rfl rfl) (fun _ _ _ _ h => h)) (pa_cons (pv 4) pa_nil)))) pss_nil)
      (pss_cons (ps_if (pt_cmpR op_eq (pv 1) pe_int (nomark _)) (pss_one (ps_ret (pe_meth (pv 0) T_Room.cl r_Room_row_of.M r_Room_row_of.G (hr.mono (by decide)) r_Room_row_of.b .nil (L2N.passes_call (L2N.takes_of rfl rfl rfl rfl) (fun _ _ _ _ h => h)) (pa_cons (pv 4) pa_nil)))) pss_nil)
      (pss_cons (ps_if (pt_cmpR op_eq (pv 1) pe_int (nomark _)) (pss_one (ps_ret (pe_meth (pv 0) T_Room.cl r_Room_leading.M r_Room_leading.G (hr.mono (by decide)) r_Room_leading.b .nil (L2N.passes_call (L2N.takes_of rfl rfl rfl rfl) (fun _ _ _ _ h => h)) (pa_cons (pv 4) pa_nil)))) pss_nil)
      (pss_one (ps_ret (pe_meth (pv 0) T_Room.cl r_Room_settled_of.M r_Room_settled_of.G (hr.mono (by decide)) r_Room_settled_of.b .nil (L2N.passes_call (L2N.takes_of rfl rfl rfl rfl) (fun _ _ _ _ h => h)) (pa_cons (pv 4) pa_nil))))))))))))))), ?_⟩
  have g := Gr.refl eb
  refine q_way (K := K) eb rfl (fun _ B1 H1 g1 => s_retX (noS (os := []) O_Room (O_Room.gr R g1) (by decide +kernel) g1.bh (ev_var rfl) (evd_vI rfl) (evd_lst ea_nil (Nat.zero_le _)) (.inl hw) fun B2 H2 g2 => q B2 H2 (g1.trans g2))) fun _ Ba Ha ga => ?_
  refine q_way (K := K) ga.bh rfl (fun _ B1 H1 g1 => s_retX (noS (os := askedL k o wr ((if wr < 0 then -wr else wr) % 6).toNat) O_Room (O_Room.gr R (ga.trans g1)) (by decide +kernel) g1.bh (ev_var rfl) (evd_vI rfl) (evd_call (ea_cons (evd_vI rfl) (ea_cons (evd_vI rfl) (ea_cons (evd_vI rfl) (ea_cons (evd_IC (evd_abs (evd_vI rfl)) evd_cI rfl (by decide)) ea_nil)))) ⟨_, _, _, _, by rw [Int.toNat_of_nonneg (Int.emod_nonneg _ (by decide))], by omega, rfl⟩) (.inr ⟨⟨k, rfl, hk⟩, ?_, wr, ?_, hw⟩) fun B2 H2 g2 => q B2 H2 ((ga.trans g1).trans g2))) fun _ Bb Hb gb => ?_
  · unfold askedL
    simp only [List.length_append, List.length_take, List.length_drop, List.length_cons, List.length_nil]
    omega
  · unfold askedL
    exact List.mem_append_left _ (List.mem_append_right _ (List.mem_singleton.mpr rfl))
  have gab := ga.trans gb
  refine q_way (K := K) gb.bh rfl (fun _ B1 H1 g1 => s_retX (no2 (K := K) O_Room (O_Room.gr R (gab.trans g1)) (by decide +kernel) g1.bh (ev_var rfl) (evd_vI rfl) evd_cS hw fun B2 H2 g2 => q B2 H2 ((gab.trans g1).trans g2))) fun _ Bc Hc gc => ?_
  have gac := gab.trans gc
  refine q_way (K := K) gc.bh rfl (fun _ B1 H1 g1 => s_retX (no3 (K := K) O_Room (O_Room.gr R (gac.trans g1)) (by decide +kernel) g1.bh (ev_var rfl) (evd_vI rfl) (evd_vI rfl) evd_cI (.inl hw) fun B2 H2 g2 => q B2 H2 ((gac.trans g1).trans g2))) fun _ Bd Hd gd => ?_
  have gad := gac.trans gd
  refine q_way (K := K) gd.bh rfl (fun _ B1 H1 g1 => s_retX (no3 (K := K) O_Room (O_Room.gr R (gad.trans g1)) (by decide +kernel) g1.bh (ev_var rfl) (evd_vI rfl) (evd_vI rfl) evd_cI (.inr ⟨k, rfl, hk, .inl hw⟩) fun B2 H2 g2 => q B2 H2 ((gad.trans g1).trans g2))) fun _ Be He ge => ?_
  have gae := gad.trans ge
  refine q_way (K := K) ge.bh rfl (fun _ B1 H1 g1 => s_retX (no3 (K := K) O_Room (O_Room.gr R (gae.trans g1)) (by decide +kernel) g1.bh (ev_var rfl) (evd_vI rfl) (evd_vI rfl) evd_cI (.inr ⟨k, rfl, hk, .inr rfl⟩) fun B2 H2 g2 => q B2 H2 ((gae.trans g1).trans g2))) fun _ Bf Hf gf => ?_
  have gaf := gae.trans gf
  refine q_way (K := K) gf.bh rfl (fun _ B1 H1 g1 => s_retX (no1 (K := K) O_Room (O_Room.gr R (gaf.trans g1)) (by decide +kernel) g1.bh (ev_var rfl) (evd_vI rfl) hw fun B2 H2 g2 => q B2 H2 ((gaf.trans g1).trans g2))) fun _ Bg Hg gg => ?_
  have gag := gaf.trans gg
  refine q_way (K := K) gg.bh rfl (fun _ B1 H1 g1 => s_retX (no1 (K := K) O_Room (O_Room.gr R (gag.trans g1)) (by decide +kernel) g1.bh (ev_var rfl) (evd_vI rfl) hw fun B2 H2 g2 => q B2 H2 ((gag.trans g1).trans g2))) fun _ Bh Hh gh => ?_
  have gah := gag.trans gh
  refine q_way (K := K) gh.bh rfl (fun _ B1 H1 g1 => s_retX (no1 (K := K) O_Room (O_Room.gr R (gah.trans g1)) (by decide +kernel) g1.bh (ev_var rfl) (evd_vI rfl) hw fun B2 H2 g2 => q B2 H2 ((gah.trans g1).trans g2))) fun _ Bi Hi gi => ?_
  have gai := gah.trans gi
  refine q_way (K := K) gi.bh rfl (fun _ B1 H1 g1 => s_retX (no1 (K := K) O_Room (O_Room.gr R (gai.trans g1)) (by decide +kernel) g1.bh (ev_var rfl) (evd_vI rfl) hw fun B2 H2 g2 => q B2 H2 ((gai.trans g1).trans g2))) fun _ Bj Hj gj => ?_
  have gaj := gai.trans gj
  refine q_way (K := K) gj.bh rfl (fun _ B1 H1 g1 => s_retX (no1 (K := K) O_Room (O_Room.gr R (gaj.trans g1)) (by decide +kernel) g1.bh (ev_var rfl) (evd_vI rfl) hw fun B2 H2 g2 => q B2 H2 ((gaj.trans g1).trans g2))) fun _ Bk Hk gk => ?_
  have gak := gaj.trans gk
  exact s_retX (no1 (K := K) O_Room (O_Room.gr R gak) (by decide +kernel) gk.bh (ev_var rfl) (evd_vI rfl) hw fun B2 H2 g2 => q B2 H2 (gak.trans g2))
/-! ### by one that does not lead -/
section
variable {CN : Addr} {σ : L2.St} {B H : Hp} {ta tb tc td : TE} {n k o m : Nat} {r : Addr} {S : Rf.Room Str} {F : Addr → Prop} {Q : VK} {E : XK} {wd : Str}
theorem m_writeN (O : RoomOk C_Room RA) (g0 : Evl.Ex B H) (h : EvV ta σ B H (.ref r)) (hk : EvD K tb σ B H (.int (k : Int))) (hw : EvD K tc σ B H (.str wd)) (R : RA B H r n S F) (ft : Fit n S) (n9 : n ≤ 9) (kn : k < n) (ow : PyData.strOk wd = true) (hl : (S k).leads = false)
    (q : After RA B H r n F S (E (.ref CN) none)) : tMeth C_Room "write" (spWrite RA CN) [] E ta (tCons tb (tCons tc tNil)) σ H Q := by
  obtain ⟨dx, fs, hp, hll⟩ := O.ins R
  refine m_meth (P := fun B2 vs => DqAll K B2 [.int (k : Int), .str wd] vs) g0 h hp (hll _ (by decide +kernel)) (ea_cons hk (ea_cons hw ea_nil)) fun vs B2 H2 g2 hv => ?_
  obtain ⟨w0, vs, rfl, e0, hv⟩ := dqa_cons.mp hv
  obtain ⟨w1, vs, rfl, e1, hv⟩ := dqa_cons.mp hv
  cases dqa_nil.mp hv
  cases dq_int.mp e0
  cases dq_str.mp e1
  exact ⟨B2, r, n, S, F, k, wd, rfl, g2.bh, O.gr R g2, ft, n9, kn, ow, (fun z => by rw [hl] at z; cases z), fun _ => q.gr g2⟩
theorem m_handN (O : RoomOk C_Room RA) (g0 : Evl.Ex B H) (h : EvV ta σ B H (.ref r)) (hk : EvD K tb σ B H (.int (k : Int))) (hc : EvD K tc σ B H (.int (o : Int))) (hd : EvD K td σ B H (.int (m : Int))) (R : RA B H r n S F) (ft : Fit n S) (n9 : n ≤ 9) (kn : k < n) (on : o < n) (ne : o ≠ k) (hl : (S k).leads = false)
    (q : After RA B H r n F S (E (.ref CN) none)) : tMeth C_Room "hand" (spHand RA CN) [] E ta (tCons tb (tCons tc (tCons td tNil))) σ H Q := by
  obtain ⟨dx, fs, hp, hll⟩ := O.ins R
  refine m_meth (P := fun B2 vs => DqAll K B2 [.int (k : Int), .int (o : Int), .int (m : Int)] vs) g0 h hp (hll _ (by decide +kernel)) (ea_cons hk (ea_cons hc (ea_cons hd ea_nil))) fun vs B2 H2 g2 hv => ?_
  obtain ⟨w0, vs, rfl, e0, hv⟩ := dqa_cons.mp hv
  obtain ⟨w1, vs, rfl, e1, hv⟩ := dqa_cons.mp hv
  obtain ⟨w2, vs, rfl, e2, hv⟩ := dqa_cons.mp hv
  cases dqa_nil.mp hv
  cases dq_int.mp e0
  cases dq_int.mp e1
  cases dq_int.mp e2
  exact ⟨B2, r, n, S, F, k, o, m, rfl, g2.bh, O.gr R g2, ft, n9, kn, on, ne, (fun z => by rw [hl] at z; cases z), fun _ => q.gr g2⟩
theorem m_settleN (O : RoomOk C_Room RA) (g0 : Evl.Ex B H) (h : EvV ta σ B H (.ref r)) (hk : EvD K tb σ B H (.int (k : Int))) (R : RA B H r n S F) (ft : Fit n S) (n9 : n ≤ 9) (kn : k < n) (hl : (S k).leads = false)
    (q : After RA B H r n F S (E (.ref CN) none)) : tMeth C_Room "settle" (spSettle RA CN) [] E ta (tCons tb tNil) σ H Q := by
  obtain ⟨dx, fs, hp, hll⟩ := O.ins R
  refine m_meth (P := fun B2 vs => DqAll K B2 [.int (k : Int)] vs) g0 h hp (hll _ (by decide +kernel)) (ea_cons hk ea_nil) fun vs B2 H2 g2 hv => ?_
  obtain ⟨w0, vs, rfl, e0, hv⟩ := dqa_cons.mp hv
  cases dqa_nil.mp hv
  cases dq_int.mp e0
  exact ⟨B2, r, n, S, F, k, rfl, g2.bh, O.gr R g2, ft, n9, kn, (fun z => by rw [hl] at z; cases z), fun _ => q.gr g2⟩
theorem m_settleNE {E : L2.St → XK} (O : RoomOk C_Room RA) (g0 : Evl.Ex B H) (h : EvV ta σ B H (.ref r)) (hk : EvD K tb σ B H (.int (k : Int))) (R : RA B H r n S F) (ft : Fit n S) (n9 : n ≤ 9) (kn : k < n) (hl : (S k).leads = false)
    (q : After RA B H r n F S (E σ (.ref CN) none)) : L2H.tMethH C_Room "settle" (spSettle RA CN) E ta (tCons tb tNil) σ H Q := by
  obtain ⟨dx, fs, hp, hll⟩ := O.ins R
  refine m_methE (P := fun B2 vs => DqAll K B2 [.int (k : Int)] vs) g0 h hp (hll _ (by decide +kernel)) (ea_cons hk ea_nil) fun vs B2 H2 g2 hv => ?_
  obtain ⟨w0, vs, rfl, e0, hv⟩ := dqa_cons.mp hv
  cases dqa_nil.mp hv
  cases dq_int.mp e0
  exact ⟨B2, r, n, S, F, k, rfl, g2.bh, O.gr R g2, ft, n9, kn, (fun z => by rw [hl] at z; cases z), fun _ => q.gr g2⟩
end
def spIdle (RA : RoomP) (CN : Addr) : Sp := fun vs H _ E => ∃ (B : Hp) (r : Addr) (n : Nat) (S : Rf.Room Str) (F : Addr → Prop) (wy : Int) (k o : Nat), vs = [.ref r, .int wy, .int (k : Int), .int (o : Int)] ∧ Evl.Ex B H ∧ RA B H r n S F ∧ Fit n S ∧ n ≤ 9 ∧ k < n ∧ o < n ∧ (S k).leads = false ∧ After RA B H r n F S (E (.ref CN) none)
theorem okX_law_idle {f f1 f2 f3 : Addr} {fd fd1 fd2 fd3 : FuncData} {Z : Bi mg} {T_Room : ClsAt K mg "Room" C_Room ["keepers", "places", "held"]} {O_Room : RoomOk C_Room RA} {D : DefAt K mg "_law_idle" s_law_idle ["_law_room", "_law_way", "_law_k", "_law_other"] f fd}
    {x_Room_write : CalleeM P w K mg base (L2N.CX P w) 3 C_Room "write" ["self", "k", "word"] (spWrite RA C_NotLeading) f1 fd1}
    {x_Room_hand : CalleeM P w K mg base (L2N.CX P w) 3 C_Room "hand" ["self", "k", "other", "many"] (spHand RA C_NotLeading) f2 fd2}
    {x_Room_settle : CalleeM P w K mg base (L2N.CX P w) 3 C_Room "settle" ["self", "k"] (spSettle RA C_NotLeading) f3 fd3} :
    CalleeX P w K mg base (L2N.CX P w) 4 "_law_idle" ["_law_room", "_law_way", "_law_k", "_law_other"] (spIdle RA C_NotLeading) f fd := by
  refine D.okN sc_law_idle (fun vs H Q E h => by obtain ⟨B, r, n, S, F, wy, k, o, rfl, _⟩ := h; rfl) fun cdv A outer s H vs Q E hr h => ?_
  obtain ⟨B, r, n, S, F, wy, k, o, rfl, eb, R, ft, n9, hk, ho, hl, q⟩ := h
  refine ⟨_, (pss_cons (ps_if (pt_cmpR op_eq (pv 1) pe_int (nomark _)) (pss_one (ps_ret (pe_meth (pv 0) T_Room.cl x_Room_write.M x_Room_write.G (hr.mono (by decide)) x_Room_write.b .nil (L2N.passes_call (L2N.takes_of rfl rfl rfl rfl) (fun _ _ _ _ h => h)) (pa_cons (pv 2) (pa_cons pe_str pa_nil))))) pss_nil)
      (pss_cons (ps_if (PW.pt (pw_and (pt_cmpR op_eq (pv 1) pe_int (nomark _)) (pw_and1 (pt_cmpR op_ne (pv 3) (pv 2) (nomark _))))) (pss_one (ps_ret (pe_meth (pv 0) T_Room.cl x_Room_hand.M x_Room_hand.G (hr.mono (by decide)) x_Room_hand.b .nil (L2N.passes_call (L2N.takes_of rfl rfl rfl rfl) (fun _ _ _ _ h => h)) (pa_cons (pv 2) (pa_cons (pv 3) (pa_cons pe_int pa_nil)))))) pss_nil)
      (pss_one (ps_ret (pe_meth (pv 0) T_Room.cl x_Room_settle.M x_Room_settle.G (hr.mono (by decide)) x_Room_settle.b .nil (L2N.passes_call (L2N.takes_of rfl rfl rfl rfl) (fun _ _ _ _ h => h)) (pa_cons (pv 2) pa_nil)))))), ?_⟩
  refine q_way (K := K) eb rfl (fun _ B1 H1 g1 => s_retX (m_writeN (K := K) (wd := PySem.Str.ofString "word") O_Room g1.bh (ev_var rfl) (evd_vI rfl) evd_cS (O_Room.gr R g1) ft n9 hk (by decide +kernel) hl (q.gr g1))) fun _ Ba Ha ga => ?_
  refine q_when (K := K) (b := decide (wy = 1) && !decide ((o : Int) = (k : Int))) ga.bh (et_and (et_test (evd_eqI (evd_vI rfl) evd_cI)) fun _ => et_test (evd_neI (evd_vI rfl) (evd_vI rfl))) (fun hb B1 H1 g1 => ?_) fun _ B1 H1 g1 => ?_
  · have ne : o ≠ k := fun z => by
      obtain ⟨_, h2⟩ := Bool.and_eq_true_iff.mp hb
      rw [decide_eq_true (show (o : Int) = (k : Int) by rw [z])] at h2
      cases h2
    exact s_retX (m_handN (K := K) (m := 1) O_Room g1.bh (ev_var rfl) (evd_vI rfl) (evd_vI rfl) evd_cI (O_Room.gr R (ga.trans g1)) ft n9 hk ho ne hl (q.gr (ga.trans g1)))
  · exact s_retX (m_settleN (K := K) O_Room g1.bh (ev_var rfl) (evd_vI rfl) (O_Room.gr R (ga.trans g1)) ft n9 hk hl (q.gr (ga.trans g1)))
/-! ### of which class -/
def bI (b : Bool) : Int := if b then 1 else 0
def spcKind (K : PySem.W.Frag) (C_NoRoom C_NoKeeper C_NotLeading C_OutOfPlace C_RoomError : Addr) : SpC := fun cls d H Q => ∃ (B : Hp) (D : Addr) (b1 b2 b3 : Bool), Evl.Ex B H ∧ cls = .ref D ∧ d = none ∧ ExcC K D ∧
  PySem.W.kitOne K (.ref D) (.ref C_NoKeeper) = some b1 ∧ PySem.W.kitOne K (.ref D) (.ref C_NotLeading) = some b2 ∧ PySem.W.kitOne K (.ref D) (.ref C_NoRoom) = some b3 ∧ PySem.W.kitOne K (.ref D) (.ref C_OutOfPlace) = some false ∧ PySem.W.kitOne K (.ref D) (.type "ValueError") = some true ∧ PySem.W.kitOne K (.ref D) (.ref C_RoomError) = some true ∧
  ∀ B1 H1, Gr B H B1 H1 → Q (.int (bI b1 + 2 * bI b2 + 4 * bI b3 + 48)) H1
theorem okP_law_kind {f : Addr} {fd : FuncData} {Z : Bi mg} {D : DefAt K mg "_law_kind" s_law_kind ["_law_e"] f fd} {E_NoKeeper : ErrC K mg "NoKeeper" C_NoKeeper} {E_NotLeading : ErrC K mg "NotLeading" C_NotLeading} {E_NoRoom : ErrC K mg "NoRoom" C_NoRoom} {E_OutOfPlace : ErrC K mg "OutOfPlace" C_OutOfPlace} {E_RoomError : ErrC K mg "RoomError" C_RoomError} :
    CalleeP P w K mg base CX0 1 "_law_kind" ["_law_e"] (spcKind K C_NoRoom C_NoKeeper C_NotLeading C_OutOfPlace C_RoomError) f fd := by
  refine D.okP sc_law_kind rfl fun cdv A outer s H Q E p cls d hot hz hf hr h => ?_
  obtain ⟨B, D, b1, b2, b3, eb, rfl, rfl, hE, k1, k2, k3, k4, k5, k6, q⟩ := h
  refine ⟨_, (pss_cons (ps_set (i := 1) sc_law_kind.nd rfl (.inl rfl) (pe_op op_add (pe_op op_add (pe_callTy call_int1 (by rfl) Z.z_int (by decide +kernel) (pa_cons (pe_callB (G.call_isP (p := p) List.mem_cons_self hz hf) (by rfl) Z.z_isinstance (by decide +kernel) (pa_cons (pv 0) (pa_cons (pe_glob (v := .ref C_NoKeeper) (by rfl) E_NoKeeper.g rfl) pa_nil))) pa_nil)) (pe_op op_mul pe_int (pe_callTy call_int1 (by rfl) Z.z_int (by decide +kernel) (pa_cons (pe_callB (G.call_isP (p := p) List.mem_cons_self hz hf) (by rfl) Z.z_isinstance (by decide +kernel) (pa_cons (pv 0) (pa_cons (pe_glob (v := .ref C_NotLeading) (by rfl) E_NotLeading.g rfl) pa_nil))) pa_nil)))) (pe_op op_mul pe_int (pe_callTy call_int1 (by rfl) Z.z_int (by decide +kernel) (pa_cons (pe_callB (G.call_isP (p := p) List.mem_cons_self hz hf) (by rfl) Z.z_isinstance (by decide +kernel) (pa_cons (pv 0) (pa_cons (pe_glob (v := .ref C_NoRoom) (by rfl) E_NoRoom.g rfl) pa_nil))) pa_nil)))))
      (pss_cons (ps_set (i := 1) sc_law_kind.nd rfl (.inl rfl) (pe_op op_add (pe_op op_add (pv 1) (pe_op op_mul pe_int (pe_callTy call_int1 (by rfl) Z.z_int (by decide +kernel) (pa_cons (pe_callB (G.call_isP (p := p) List.mem_cons_self hz hf) (by rfl) Z.z_isinstance (by decide +kernel) (pa_cons (pv 0) (pa_cons (pe_glob (v := .ref C_OutOfPlace) (by rfl) E_OutOfPlace.g rfl) pa_nil))) pa_nil)))) (pe_op op_mul pe_int (pe_callTy call_int1 (by rfl) Z.z_int (by decide +kernel) (pa_cons (pe_callB (G.call_isP (p := p) List.mem_cons_self hz hf) (by rfl) Z.z_isinstance (by decide +kernel) (pa_cons (pv 0) (pa_cons (pe_bltn (v := .ty "ValueError") (u := .type "ValueError") (by rfl) Z.z_ValueError (by decide +kernel) rfl) pa_nil))) pa_nil)))))
      (pss_one (ps_ret (pe_op op_add (pv 1) (pe_op op_mul pe_int (pe_callTy call_int1 (by rfl) Z.z_int (by decide +kernel) (pa_cons (pe_callB (G.call_isP (p := p) List.mem_cons_self hz hf) (by rfl) Z.z_isinstance (by decide +kernel) (pa_cons (pv 0) (pa_cons (pe_glob (v := .ref C_RoomError) (by rfl) E_RoomError.g rfl) pa_nil))) pa_nil)))))))), ?_⟩
  refine q_asgI (K := K) (i := bI b1 + 2 * bI b2 + 4 * bI b3) eb (evd_I0 (evd_I0 (evd_intB (evd_isX hE rfl k1)) (evd_IC evd_cI (evd_intB (evd_isX hE rfl k2)) rfl (.inl (by decide))) rfl) (evd_IC evd_cI (evd_intB (evd_isX hE rfl k3)) rfl (.inl (by decide))) rfl) fun B1 H1 g1 => ?_
  refine q_asgI (K := K) (i := bI b1 + 2 * bI b2 + 4 * bI b3 + 8 * 0 + 16 * 1) g1.bh (evd_I0 (evd_I0 (evd_vI rfl) (evd_IC evd_cI (evd_intB (evd_isX hE rfl k4)) rfl (.inl (by decide))) rfl) (evd_IC evd_cI (evd_intB (evd_isXT hE rfl k5)) rfl (.inl (by decide))) rfl) fun B2 H2 g2 => ?_
  refine G.s_ret (K := K) (d := .int (bI b1 + 2 * bI b2 + 4 * bI b3 + 8 * 0 + 16 * 1 + 32 * 1)) g2.bh (evd_I0 (evd_vI rfl) (evd_IC evd_cI (evd_intB (evd_isX hE rfl k6)) rfl (.inl (by decide))) rfl) fun v B3 H3 g3 pv => ?_
  have e : bI b1 + 2 * bI b2 + 4 * bI b3 + 8 * 0 + 16 * 1 + 32 * 1 = bI b1 + 2 * bI b2 + 4 * bI b3 + 48 := by omega
  rw [e] at pv
  cases dq_int.mp pv
  exact q B3 H3 ((g1.trans g2).trans g3)
/-- of which class an error is, all that is asked -/
structure KindC (K : PySem.W.Frag) (C_NoRoom C_NoKeeper C_NotLeading C_OutOfPlace C_RoomError D : Addr) (b1 b2 b3 : Bool) : Prop where
  h : ExcC K D
  k1 : PySem.W.kitOne K (.ref D) (.ref C_NoKeeper) = some b1
  k2 : PySem.W.kitOne K (.ref D) (.ref C_NotLeading) = some b2
  k3 : PySem.W.kitOne K (.ref D) (.ref C_NoRoom) = some b3
  k4 : PySem.W.kitOne K (.ref D) (.ref C_OutOfPlace) = some false
  k5 : PySem.W.kitOne K (.ref D) (.type "ValueError") = some true
  k6 : PySem.W.kitOne K (.ref D) (.ref C_RoomError) = some true
theorem evd_kind {σ : L2.St} {B H : Hp} {x : Nat} {a D : Addr} {b1 b2 b3 : Bool} (h : KindC K C_NoRoom C_NoKeeper C_NotLeading C_OutOfPlace C_RoomError D b1 b2 b3) (hs : σ[x]? = some (some (.ref a))) :
    EvD K (tCallP (spcKind K C_NoRoom C_NoKeeper C_NotLeading C_OutOfPlace C_RoomError) a (.ref D) none (tCons (tVar x) tNil)) σ B H (.int (bI b1 + 2 * bI b2 + 4 * bI b3 + 48)) := fun B1 H1 g Q q =>
  ⟨.ref a, hs, rfl, B1, D, b1, b2, b3, g.bh, rfl, rfl, h.h, h.k1, h.k2, h.k3, h.k4, h.k5, h.k6, fun B2 H2 g2 => q _ B2 H2 g2 (dq_int.mpr rfl)⟩
theorem exm2 {cls c1 c2 : Value} {b1 b2 : Bool} (h1 : PySem.W.exmOne K cls c1 = some b1) (h2 : PySem.W.exmOne K cls c2 = some b2) : PySem.W.exmAny K cls [c1, c2] = some (b1 || (b2 || false)) := by
  simp only [PySem.W.exmAny, h1, h2]
theorem exm3 {cls c1 c2 c3 : Value} {b1 b2 b3 : Bool} (h1 : PySem.W.exmOne K cls c1 = some b1) (h2 : PySem.W.exmOne K cls c2 = some b2) (h3 : PySem.W.exmOne K cls c3 = some b3) : PySem.W.exmAny K cls [c1, c2, c3] = some (b1 || (b2 || (b3 || false))) := by
  simp only [PySem.W.exmAny, h1, h2, h3]
theorem q_tupCall {sp : Sp} {t : TA} {cs : List Value} {i : Nat} {ts : Addr → Value → Option Addr → TS} {Wout : WX} {D : Ends} {tz : TS} {σ : L2.St} {H : Hp} (h : t σ H fun vs H1 => sp vs H1 (fun _ H2 => tz D σ H2) fun cls d H2 => L2N.wAsT K cs i ts Wout { D with nx := tz D } cls d σ H2) :
    tSeq (fun D σ H => tDrop (tCallS sp (WE (L2N.wAsT K cs i ts Wout D)) t) D σ H) tz D σ H := h
theorem q_tupMake {C : Addr} {sp : Sp} {t : TA} {cs : List Value} {i n : Nat} {ts : Addr → Value → Option Addr → TS} {Wout : WX} {D : Ends} {tz : TS} {σ : L2.St} {H : Hp} (h : tMake C sp [] (fun cls d H2 => ∀ σ' : L2.St, σ'.length = n → L2N.wAsT K cs i ts Wout { D with nx := tz D } cls d σ' H2) t σ H fun _ H2 => tz D σ H2) :
    tSeq (fun D σ H => tDrop (tMake C sp [] (fun cls d H2 => ∀ σ' : L2.St, σ'.length = n → L2N.wAsT K cs i ts Wout D cls d σ' H2) t) D σ H) tz D σ H := h
def spKindOf (RA : RoomP) : Sp := fun vs H Q _ => ∃ (B : Hp) (r : Addr) (n : Nat) (S : Rf.Room Str) (F : Addr → Prop) (wy : Int) (k o : Nat) (wr : Int), vs = [.ref r, .int wy, .int (k : Int), .int (o : Int), .int wr] ∧ Evl.Ex B H ∧ RA B H r n S F ∧ k < n ∧ o < n ∧ wrongN n wr ∧ ∀ B1 H1, Gr B H B1 H1 → Q (.int 49) H1
theorem ok_law_kind_of {f f1 f2 : Addr} {fd fd1 fd2 : FuncData} {Z : Bi mg} {T_Room : ClsAt K mg "Room" C_Room ["keepers", "places", "held"]} {O_Room : RoomOk C_Room RA} {D : DefAt K mg "_law_kind_of" s_law_kind_of ["_law_room", "_law_way", "_law_k", "_law_other", "_law_wrong"] f fd}
    {E_RoomError : ErrC K mg "RoomError" C_RoomError} {E_NoKeeper : ErrC K mg "NoKeeper" C_NoKeeper} {E_NotLeading : ErrC K mg "NotLeading" C_NotLeading} {Q_NoKeeper : KindC K C_NoRoom C_NoKeeper C_NotLeading C_OutOfPlace C_RoomError C_NoKeeper true false false}
    {M_NoKeeper : PySem.W.exmAny K (.ref C_NoKeeper) [.ref C_RoomError, .ref C_NoKeeper, .ref C_NotLeading] = some true}
    {x_law_done : CalleeX P w K mg base (L2N.CX P w) 5 "_law_done" ["_law_room", "_law_way", "_law_k", "_law_other", "_law_wrong"] (spDone RA C_NoKeeper) f1 fd1}
    {p_law_kind : CalleeP P w K mg base CX0 1 "_law_kind" ["_law_e"] (spcKind K C_NoRoom C_NoKeeper C_NotLeading C_OutOfPlace C_RoomError) f2 fd2} :
    Callee P w K mg base 6 "_law_kind_of" ["_law_room", "_law_way", "_law_k", "_law_other", "_law_wrong"] (spKindOf RA) f fd := by
  refine D.okC sc_law_kind_of (fun vs H Q E h => by obtain ⟨B, r, n, S, F, wy, k, o, wr, rfl, _⟩ := h; rfl) fun cdv A outer s H vs Q E hr h => ?_
  obtain ⟨B, r, n, S, F, wy, k, o, wr, rfl, eb, R, hk, ho, hw, q⟩ := h
  refine ⟨_, (pss_cons (L2N.ps_try_tup (i := 5) rfl rfl sc_law_kind_of.nd rfl rfl (.cons ⟨rfl, by decide, .inl E_RoomError.g⟩ (.cons ⟨rfl, by decide, .inl E_NoKeeper.g⟩ (.cons ⟨rfl, by decide, .inl E_NotLeading.g⟩ .nil))) L2N.looksT3 (Evl.sz_of (show 3 ≤ 100000 by decide)) takesN0 (fun W pn xe tk _ => (pss_one (ps_expr (pe_callS x_law_done.G (hr.mono (by decide)) (by rfl) x_law_done.g x_law_done.kp x_law_done.b (fun σ => L2N.passAt tk σ) (pa_cons (pv 0) (pa_cons (pv 1) (pa_cons (pv 2) (pa_cons (pv 3) (pa_cons (pv 4) pa_nil))))))))) (fun a oe cls d pn hz hf => (pss_one (ps_ret (G.pe_callHp (E := fun _ => E0) p_law_kind.G (rh_mark hr (by decide)) ⟨⟨rfl, hf.elim fun vs h => ⟨vs, h, hz.2.2 vs h⟩⟩, List.mem_cons_self⟩ hz.zc hf (by rfl) p_law_kind.g p_law_kind.kp p_law_kind.b (fun _ => pass0At) (pa_cons (pv 5) pa_nil))))))
      (pss_one (ps_ret pe_int))), ?_⟩
  refine q_tupCall (K := K) ?_
  refine (ea_consV (P := fun B1 vs => DqAll K B1 [.int wy, .int (k : Int), .int (o : Int), .int wr] vs) (ev_var rfl) (ea_cons (evd_vI rfl) (ea_cons (evd_vI rfl) (ea_cons (evd_vI rfl) (ea_cons (evd_vI rfl) ea_nil))))) B H (Gr.refl eb) _ fun ws B1 H1 g1 hv => ?_
  obtain ⟨ws, rfl, hv⟩ := hv
  obtain ⟨w0, ws, rfl, e0, hv⟩ := dqa_cons.mp hv
  obtain ⟨w1, ws, rfl, e1, hv⟩ := dqa_cons.mp hv
  obtain ⟨w2, ws, rfl, e2, hv⟩ := dqa_cons.mp hv
  obtain ⟨w3, ws, rfl, e3, hv⟩ := dqa_cons.mp hv
  cases dqa_nil.mp hv
  cases dq_int.mp e0
  cases dq_int.mp e1
  cases dq_int.mp e2
  cases dq_int.mp e3
  refine ⟨B1, r, n, S, F, wy, k, o, wr, rfl, g1.bh, O_Room.gr R g1, hk, ho, hw, fun B2 H2 g2 => ⟨true, M_NoKeeper, fun _ a na => ?_, fun z => nomatch z⟩⟩
  refine G.s_ret (K := K) g2.bh (evd_kind Q_NoKeeper rfl) fun v B3 H3 g3 p => ?_
  cases dq_int.mp p
  exact q B3 H3 ((g1.trans g2).trans g3)
def spIdleKind (RA : RoomP) : Sp := fun vs H Q _ => ∃ (B : Hp) (r : Addr) (n : Nat) (S : Rf.Room Str) (F : Addr → Prop) (wy : Int) (k o : Nat), vs = [.ref r, .int wy, .int (k : Int), .int (o : Int)] ∧ Evl.Ex B H ∧ RA B H r n S F ∧ Fit n S ∧ n ≤ 9 ∧ k < n ∧ o < n ∧ (S k).leads = false ∧ After RA B H r n F S (Q (.int 50))
theorem ok_law_idle_kind {f f1 f2 : Addr} {fd fd1 fd2 : FuncData} {Z : Bi mg} {T_Room : ClsAt K mg "Room" C_Room ["keepers", "places", "held"]} {O_Room : RoomOk C_Room RA} {D : DefAt K mg "_law_idle_kind" s_law_idle_kind ["_law_room", "_law_way", "_law_k", "_law_other"] f fd}
    {E_RoomError : ErrC K mg "RoomError" C_RoomError} {E_NoKeeper : ErrC K mg "NoKeeper" C_NoKeeper} {E_NotLeading : ErrC K mg "NotLeading" C_NotLeading} {Q_NotLeading : KindC K C_NoRoom C_NoKeeper C_NotLeading C_OutOfPlace C_RoomError C_NotLeading false true false}
    {M_NotLeading : PySem.W.exmAny K (.ref C_NotLeading) [.ref C_RoomError, .ref C_NoKeeper, .ref C_NotLeading] = some true}
    {x_law_idle : CalleeX P w K mg base (L2N.CX P w) 4 "_law_idle" ["_law_room", "_law_way", "_law_k", "_law_other"] (spIdle RA C_NotLeading) f1 fd1}
    {p_law_kind : CalleeP P w K mg base CX0 1 "_law_kind" ["_law_e"] (spcKind K C_NoRoom C_NoKeeper C_NotLeading C_OutOfPlace C_RoomError) f2 fd2} :
    Callee P w K mg base 5 "_law_idle_kind" ["_law_room", "_law_way", "_law_k", "_law_other"] (spIdleKind RA) f fd := by
  refine D.okC sc_law_idle_kind (fun vs H Q E h => by obtain ⟨B, r, n, S, F, wy, k, o, rfl, _⟩ := h; rfl) fun cdv A outer s H vs Q E hr h => ?_
  obtain ⟨B, r, n, S, F, wy, k, o, rfl, eb, R, ft, n9, hk, ho, hl, q⟩ := h
  refine ⟨_, (pss_cons (L2N.ps_try_tup (i := 4) rfl rfl sc_law_idle_kind.nd rfl rfl (.cons ⟨rfl, by decide, .inl E_RoomError.g⟩ (.cons ⟨rfl, by decide, .inl E_NoKeeper.g⟩ (.cons ⟨rfl, by decide, .inl E_NotLeading.g⟩ .nil))) L2N.looksT3 (Evl.sz_of (show 3 ≤ 100000 by decide)) takesN0 (fun W pn xe tk _ => (pss_one (ps_expr (pe_callS x_law_idle.G (hr.mono (by decide)) (by rfl) x_law_idle.g x_law_idle.kp x_law_idle.b (fun σ => L2N.passAt tk σ) (pa_cons (pv 0) (pa_cons (pv 1) (pa_cons (pv 2) (pa_cons (pv 3) pa_nil)))))))) (fun a oe cls d pn hz hf => (pss_one (ps_ret (G.pe_callHp (E := fun _ => E0) p_law_kind.G (rh_mark hr (by decide)) ⟨⟨rfl, hf.elim fun vs h => ⟨vs, h, hz.2.2 vs h⟩⟩, List.mem_cons_self⟩ hz.zc hf (by rfl) p_law_kind.g p_law_kind.kp p_law_kind.b (fun _ => pass0At) (pa_cons (pv 4) pa_nil))))))
      (pss_one (ps_ret pe_int))), ?_⟩
  refine q_tupCall (K := K) ?_
  refine (ea_consV (P := fun B1 vs => DqAll K B1 [.int wy, .int (k : Int), .int (o : Int)] vs) (ev_var rfl) (ea_cons (evd_vI rfl) (ea_cons (evd_vI rfl) (ea_cons (evd_vI rfl) ea_nil)))) B H (Gr.refl eb) _ fun ws B1 H1 g1 hv => ?_
  obtain ⟨ws, rfl, hv⟩ := hv
  obtain ⟨w0, ws, rfl, e0, hv⟩ := dqa_cons.mp hv
  obtain ⟨w1, ws, rfl, e1, hv⟩ := dqa_cons.mp hv
  obtain ⟨w2, ws, rfl, e2, hv⟩ := dqa_cons.mp hv
  cases dqa_nil.mp hv
  cases dq_int.mp e0
  cases dq_int.mp e1
  cases dq_int.mp e2
  refine ⟨B1, r, n, S, F, wy, k, o, rfl, g1.bh, O_Room.gr R g1, ft, n9, hk, ho, hl, fun B2 H2 F2 g2 hF2 R2 => ⟨true, M_NotLeading, fun _ a na => ?_, fun z => nomatch z⟩⟩
  refine G.s_ret (K := K) g2.bh (evd_kind Q_NotLeading rfl) fun v B3 H3 g3 p => ?_
  cases dq_int.mp p
  exact q B3 H3 F2 ((g1.fr.trans g2).trans g3.fr) (fun a z => (hF2 a z).imp id (ex_none g1.hh)) (O_Room.gr R2 g3)
def spCaught (RA : RoomP) : Sp := fun vs H Q _ => ∃ (B : Hp) (r : Addr) (n : Nat) (S : Rf.Room Str) (F : Addr → Prop) (k o : Nat) (wr : Int), vs = [.ref r, .int (k : Int), .int (o : Int), .int wr] ∧ Evl.Ex B H ∧ RA B H r n S F ∧ Fit n S ∧ n ≤ 9 ∧ k < n ∧ wrongN n wr ∧ (S k).leads = false ∧ After RA B H r n F S (Q (.int 2))
theorem ok_law_caught {f f1 f2 : Addr} {fd fd1 fd2 : FuncData} {Z : Bi mg} {T_Room : ClsAt K mg "Room" C_Room ["keepers", "places", "held"]} {O_Room : RoomOk C_Room RA} {D : DefAt K mg "_law_caught" s_law_caught ["_law_room", "_law_k", "_law_other", "_law_wrong"] f fd}
    {E_RoomError : ErrC K mg "RoomError" C_RoomError} {E_NoKeeper : ErrC K mg "NoKeeper" C_NoKeeper} {E_NotLeading : ErrC K mg "NotLeading" C_NotLeading}
    {S_NoKeeper_NoKeeper : PySem.W.subIn K (.ref C_NoKeeper) (.ref C_NoKeeper) = some true} {S_NotLeading_NotLeading : PySem.W.subIn K (.ref C_NotLeading) (.ref C_NotLeading) = some true}
    {r_Room_hand : CalleeM P w K mg base (L2N.CX P w) 3 C_Room "hand" ["self", "k", "other", "many"] (spNoA RA C_NoKeeper aHand) f1 fd1}
    {x_Room_settle : CalleeM P w K mg base (L2N.CX P w) 3 C_Room "settle" ["self", "k"] (spSettle RA C_NotLeading) f2 fd2} :
    Callee P w K mg base 4 "_law_caught" ["_law_room", "_law_k", "_law_other", "_law_wrong"] (spCaught RA) f fd := by
  refine D.okC sc_law_caught (fun vs H Q E h => by obtain ⟨B, r, n, S, F, k, o, wr, rfl, _⟩ := h; rfl) fun cdv A outer s H vs Q E hr h => ?_
  obtain ⟨B, r, n, S, F, k, o, wr, rfl, eb, R, ft, n9, hk, hw, hl, q⟩ := h
  refine ⟨_, (pss_cons (ps_set (i := 4) sc_law_caught.nd rfl (.inl rfl) pe_int)
      (pss_cons (L2N.ps_try_many rfl rfl takesN0 (fun W pn xe tk _ => (pss_one (ps_expr (G.pe_methE (pv 0) T_Room.cl r_Room_hand.M r_Room_hand.G (hr.mono (by decide)) r_Room_hand.b (fun σ => L2N.passAt tk σ) (pa_cons (pv 1) (pa_cons (pv 3) (pa_cons pe_int pa_nil))))))) (.cons ⟨rfl, by decide, .inl E_NoKeeper.g⟩ (fun a oe cls d pn hz hf => (pss_one (ps_set (i := 4) sc_law_caught.nd rfl (.inl rfl) (pe_op op_add (pv 4) pe_int)))) (.cons ⟨rfl, by decide, .inl E_RoomError.g⟩ (fun a oe cls d pn hz hf => (pss_one (ps_ret pe_int))) .nil)))
      (pss_cons (L2N.ps_try_many rfl rfl takesN0 (fun W pn xe tk _ => (pss_one (ps_expr (G.pe_methE (pv 0) T_Room.cl x_Room_settle.M x_Room_settle.G (hr.mono (by decide)) x_Room_settle.b (fun σ => L2N.passAt tk σ) (pa_cons (pv 1) pa_nil))))) (.cons ⟨rfl, by decide, .inl E_NotLeading.g⟩ (fun a oe cls d pn hz hf => (pss_one (ps_set (i := 4) sc_law_caught.nd rfl (.inl rfl) (pe_op op_add (pv 4) pe_int)))) .nil))
      (pss_one (ps_ret (pv 4)))))), ?_⟩
  refine q_asgI (K := K) (i := 0) eb evd_cI fun B1 H1 g1 => ?_
  refine no3E (K := K) O_Room (O_Room.gr R g1) (by decide +kernel) g1.bh (ev_var rfl) (evd_vI rfl) (evd_vI rfl) evd_cI (.inr ⟨k, rfl, hk, .inl hw⟩) fun B2 H2 g2 => ⟨true, E_NoKeeper.exm S_NoKeeper_NoKeeper, fun _ a na => ?_, fun z => nomatch z⟩
  refine s_asgI (K := K) (i := 1) g2.bh (evd_I0 (evd_vI rfl) evd_cI rfl) fun B3 H3 g3 => ?_
  have g13 := (g1.trans g2).trans g3
  refine m_settleNE (K := K) O_Room g3.bh (ev_var rfl) (evd_vI rfl) (O_Room.gr R g13) ft n9 hk hl fun B4 H4 F4 g4 hF4 R4 => ⟨true, E_NotLeading.exm S_NotLeading_NotLeading, fun _ a na => ?_, fun z => nomatch z⟩
  refine s_asgI (K := K) (i := 2) g4.bh (evd_I0 (evd_vI rfl) evd_cI rfl) fun B5 H5 g5 => ?_
  refine G.s_ret (K := K) (d := .int 2) g5.bh (evd_vI rfl) fun v B6 H6 g6 p => ?_
  cases dq_int.mp p
  have g56 := g5.trans g6
  exact q B6 H6 F4 ((g13.fr.trans g4).trans g56.fr) (fun a z => (hF4 a z).imp id (ex_none g13.hh)) (O_Room.gr R4 g56)
def R_noRoom : List PyData → PyData → Prop := fun ds d => ∃ x, ds = [x] ∧ badCount x ∧ d = .bool true
theorem ok_law_no_room {f f1 f2 : Addr} {fd fd1 fd2 : FuncData} {Z : Bi mg} {T_Room : ClsAt K mg "Room" C_Room ["keepers", "places", "held"]} {D : DefAt K mg "_law_no_room" s_law_no_room ["_law_count"] f fd}
    {E_RoomError : ErrC K mg "RoomError" C_RoomError} {E_NoRoom : ErrC K mg "NoRoom" C_NoRoom} {Q_NoRoom : KindC K C_NoRoom C_NoKeeper C_NotLeading C_OutOfPlace C_RoomError C_NoRoom false false true}
    {M_NoRoom : PySem.W.exmAny K (.ref C_NoRoom) [.ref C_RoomError, .ref C_NoRoom] = some true}
    {r_Room___init__ : CalleeM P w K mg base (L2N.CX P w) 3 C_Room "__init__" ["self", "count"] (spNoNew K C_NoRoom) f1 fd1}
    {p_law_kind : CalleeP P w K mg base CX0 1 "_law_kind" ["_law_e"] (spcKind K C_NoRoom C_NoKeeper C_NotLeading C_OutOfPlace C_RoomError) f2 fd2} :
    Callee P w K mg base 5 "_law_no_room" ["_law_count"] (spD K R_noRoom) f fd := by
  refine D.run sc_law_no_room (fun ds d h => by obtain ⟨x, rfl, _⟩ := h; rfl) fun cdv A outer s B H vs ds d Q E hr h eb hv q => ?_
  obtain ⟨x, rfl, hb, rfl⟩ := h
  obtain ⟨v0, vs, rfl, d0, hv⟩ := dqa_cons.mp hv
  cases dqa_nil.mp hv
  refine ⟨_, (pss_cons (L2N.ps_try_tup (i := 1) rfl rfl sc_law_no_room.nd rfl rfl (.cons ⟨rfl, by decide, .inl E_RoomError.g⟩ (.cons ⟨rfl, by decide, .inl E_NoRoom.g⟩ .nil)) L2N.looksT2 (Evl.sz_of (show 2 ≤ 100000 by decide)) takesN0 (fun W pn xe tk _ => (pss_one (ps_expr (pe_make (T_Room.Mk r_Room___init__.M) r_Room___init__.G (hr.mono (by decide)) (by rfl) T_Room.g r_Room___init__.b .nil (G.pass_len 2 tk rfl) (pa_cons (pv 0) pa_nil))))) (fun a oe cls d pn hz hf => (pss_one (ps_ret (pe_cmpR op_eq (G.pe_callHp (E := fun _ => E0) p_law_kind.G (rh_mark hr (by decide)) ⟨⟨rfl, hf.elim fun vs h => ⟨vs, h, hz.2.2 vs h⟩⟩, List.mem_cons_self⟩ hz.zc hf (by rfl) p_law_kind.g p_law_kind.kp p_law_kind.b (fun _ => pass0At) (pa_cons (pv 1) pa_nil)) pe_int (nomark _))))))
      (pss_one (ps_ret pe_bl))), ?_⟩
  refine q_tupMake (K := K) ?_
  refine m_make (P := fun B1 vs => DqAll K B1 [x] vs) eb (ea_cons (evd_v rfl d0) ea_nil) fun vs B2 H2 p dx g2 hv np ndx ne => ?_
  obtain ⟨v1, vs, rfl, d1, hv⟩ := dqa_cons.mp hv
  cases dqa_nil.mp hv
  have X := made_gr (o := .ins C_Room dx []) (o' := .own p) g2.bh np ndx
  refine ⟨B2, p, x, v1, rfl, X.bh, d1, hb, fun B3 H3 g3 σ' hσ => ⟨true, M_NoRoom, fun _ a na => ?_, fun z => nomatch z⟩⟩
  have h2 : σ'.length = 2 := hσ
  exact G.s_ret (K := K) (d := .bool true) g3.bh (EvD.is (evd_eqI (evd_kind Q_NoRoom (List.getElem?_set_self (by rw [h2]; decide))) evd_cI) rfl) fun v B4 H4 g4 p => q v B4 H4 (((g2.trans X).trans g3).trans g4) p
/-! ### all that is told -/
def allD (n : Nat) (S : Rf.Room Str) : PyData := .list ((List.range n).map fun v => .list [.int (S v).term, rowD (S v).row, .bool (S v).leads, rowD (Rf.part (S v))])
def spAllOf (K : PySem.W.Frag) (RA : RoomP) : Sp := fun vs H Q _ => ∃ (B : Hp) (r : Addr) (n : Nat) (S : Rf.Room Str) (F : Addr → Prop), vs = [.ref r, .int (n : Int)] ∧ Evl.Ex B H ∧ RA B H r n S F ∧ Fit n S ∧ n ≤ 9 ∧ ∀ v B1 H1, Gr B H B1 H1 → Dq K B1 (allD n S) v → Q v H1
theorem ok_law_all_of {f f1 f2 f3 f4 : Addr} {fd fd1 fd2 fd3 fd4 : FuncData} {Z : Bi mg} {T_Room : ClsAt K mg "Room" C_Room ["keepers", "places", "held"]} {O_Room : RoomOk C_Room RA} {D : DefAt K mg "_law_all_of" s_law_all_of ["_law_room", "_law_count"] f fd}
    {x_Room_leading : CalleeM P w K mg base (L2N.CX P w) 2 C_Room "leading" ["self", "k"] (spTell K RA fun x => .bool x.leads) f1 fd1}
    {x_Room_term_of : CalleeM P w K mg base (L2N.CX P w) 2 C_Room "term_of" ["self", "k"] (spTell K RA fun x => .int x.term) f2 fd2}
    {x_Room_row_of : CalleeM P w K mg base (L2N.CX P w) 2 C_Room "row_of" ["self", "k"] (spGive K RA fun x => x.row) f3 fd3}
    {x_Room_settled_of : CalleeM P w K mg base (L2N.CX P w) 2 C_Room "settled_of" ["self", "k"] (spGive K RA Rf.part) f4 fd4} :
    Callee P w K mg base 3 "_law_all_of" ["_law_room", "_law_count"] (spAllOf K RA) f fd := by
  refine D.okC sc_law_all_of (fun vs H Q E h => by obtain ⟨B, r, n, S, F, rfl, _⟩ := h; rfl) fun cdv A outer s H vs Q E hr h => ?_
  obtain ⟨B, r, n, S, F, rfl, eb, R, ft, n9, q⟩ := h
  refine ⟨_, (pss_one (ps_ret (pe_lc (own := [("_law_k", 2)]) (g := gName 2) (tt := tYes) rfl sc_law_all_of.nd (pi_range1 (by rfl) Z.z_range (pa_cons (pv 1) pa_nil)) (blkOk_by (own := [("_law_k", 2)]) (N := ["_law_room", "_law_count", "_law_k"]) (sc := defScope s_law_all_of) (by decide +kernel)) (fun _ _ _ _ _ => pg_name (i := 2) sc_law_all_of.nd rfl (Or.inl rfl)) (fun _ _ _ _ _ => pts_nil) (fun _ _ _ _ _ => (pe_lst (pa_cons (pe_meth (pv 0) T_Room.cl x_Room_term_of.M x_Room_term_of.G (hr.mono (by decide)) x_Room_term_of.b .nil passN0 (pa_cons (pv 2) pa_nil)) (pa_cons (pe_meth (pv 0) T_Room.cl x_Room_row_of.M x_Room_row_of.G (hr.mono (by decide)) x_Room_row_of.b .nil passN0 (pa_cons (pv 2) pa_nil)) (pa_cons (pe_meth (pv 0) T_Room.cl x_Room_leading.M x_Room_leading.G (hr.mono (by decide)) x_Room_leading.b .nil passN0 (pa_cons (pv 2) pa_nil)) (pa_cons (pe_meth (pv 0) T_Room.cl x_Room_settled_of.M x_Room_settled_of.G (hr.mono (by decide)) x_Room_settled_of.b .nil passN0 (pa_cons (pv 2) pa_nil)) pa_nil))))))))), ?_⟩
  refine G.s_ret (K := K) (d := allD n S) eb (EvD.is (evd_lcR (m := (n : Int)) (fun v => .list [.int (S v).term, rowD (S v).row, .bool (S v).leads, rowD (Rf.part (S v))]) (ea_cons (evd_vI rfl) ea_nil) (by omega) (fun _ => rfl) fun i B1 H1 g1 hi => ?_) (by rw [Int.toNat_natCast]; rfl)) fun v B2 H2 g2 p => q v B2 H2 g2 p
  have R1 := O_Room.gr R g1
  have hi' : i < n := by omega
  exact evd_lst (ea_cons (evd_tell (f := fun x => .int x.term) (k := i) O_Room (by decide +kernel) (ev_var rfl) (evd_vI rfl) R1 ft n9 hi') (ea_cons (EvM.evd (evm_give (f := fun x => x.row) (k := i) O_Room (by decide +kernel) (ev_var rfl) (evd_vI rfl) R1 ft n9 hi')) (ea_cons (evd_tell (f := fun x => .bool x.leads) (k := i) O_Room (by decide +kernel) (ev_var rfl) (evd_vI rfl) R1 ft n9 hi') (ea_cons (EvM.evd (evm_give (f := Rf.part) (k := i) O_Room (by decide +kernel) (ev_var rfl) (evd_vI rfl) R1 ft n9 hi')) ea_nil)))) (show 4 ≤ 100000 by decide)
end

/-! ### the room in which one leads, has written three words and handed on -/
structure Led (n : Nat) (S : Rf.Room Str) (L : List Ent) (a : Nat → Nat) : Prop where
  t : ∀ v, v < n → (S v).term = 1
  l : (S 0).leads = true
  o : ∀ v, v < n → v ≠ 0 → (S v).leads = false
  r : (S 0).row = L
  x : ∀ v, v < n → v ≠ 0 → (S 0).next v = a v ∧ (S 0).held v = a v ∧ a v ≤ L.length ∧ (S v).row = L.take (a v)
abbrev w1 : Str := PySem.Str.ofString "one"
abbrev w2 : Str := PySem.Str.ofString "two"
abbrev w3 : Str := PySem.Str.ofString "three"
def L3 : List Ent := [(1, w1), (1, w2), (1, w3)]
theorem Led.stand {n : Nat} (n1 : 1 ≤ n) : Led n (Rf.standR n (Rf.room0 (α := Str)) 0 (List.range n)).1 [] fun _ => 0 := by
  have hk : 0 < n := n1
  have ho : ∀ o, o ∈ List.range n → o < n := fun o h => List.mem_range.mp h
  obtain ⟨_, e0⟩ := Rf.stand_last (S := Rf.room0 (α := Str)) hk (fun v _ _ => by show (0 : Int) < 0 + 1; decide) (fun v _ => by rfl)
  have ev : ∀ v, v < n → v ≠ 0 → (Rf.standR n (Rf.room0 (α := Str)) 0 (List.range n)).1 v = ⟨1, [], false, 0, fun _ => 0, fun _ => 0⟩ := fun v hv hne => by
    rw [Rf.standR_o hk ho hne, if_pos (List.mem_range.mpr hv)]
    rfl
  have et : ∀ v, v < n → ((Rf.standR n (Rf.room0 (α := Str)) 0 (List.range n)).1 v).term = 1 := fun v hv => by
    by_cases h : v = 0
    · rw [h, e0]; rfl
    · rw [ev v hv h]
  exact ⟨et, by rw [e0], fun v hv h => by rw [ev v hv h], by rw [e0]; rfl, fun v hv h => ⟨by rw [e0]; rfl, by rw [e0], Nat.le_refl _, by rw [ev v hv h]; rfl⟩⟩
theorem Led.write {n : Nat} {S : Rf.Room Str} {L : List Ent} (n1 : 1 ≤ n) (h : Led n S L fun _ => 0) (wd : Str) : Led n (Rf.writeR S 0 wd) (L ++ [(1, wd)]) fun _ => 0 := by
  have e0 : Rf.writeR S 0 wd 0 = { S 0 with row := (S 0).row ++ [((S 0).term, wd)] } := Rf.put_same
  have ev : ∀ v, v ≠ 0 → Rf.writeR S 0 wd v = S v := fun v hv => Rf.put_ne hv
  refine ⟨fun v hv => ?_, by rw [e0]; exact h.l, fun v hv hne => by rw [ev v hne]; exact h.o v hv hne, by rw [e0, h.r, h.t 0 n1], fun v hv hne => ?_⟩
  · by_cases e : v = 0
    · rw [e, e0]; exact h.t 0 n1
    · rw [ev v e]; exact h.t v hv
  · obtain ⟨x1, x2, x3, x4⟩ := h.x v hv hne
    exact ⟨by rw [e0]; exact x1, by rw [e0]; exact x2, Nat.zero_le _, by rw [ev v hne, x4]; rfl⟩
theorem fill16 : ∀ a m, a ≤ 3 → m ≤ 3 → Rf.fillM (L3.take a) a ((L3.drop a).take m) = L3.take (min 3 (a + m)) ∧ a + ((L3.drop a).take m).length = min 3 (a + m) ∧ Rf.agr (L3.take a) a (Rf.lastT (L3.take a)) = true := by
  intro a m ha hm
  have h1 : a = 0 ∨ a = 1 ∨ a = 2 ∨ a = 3 := by omega
  have h2 : m = 0 ∨ m = 1 ∨ m = 2 ∨ m = 3 := by omega
  rcases h1 with rfl | rfl | rfl | rfl <;> rcases h2 with rfl | rfl | rfl | rfl <;> exact ⟨rfl, rfl, rfl⟩
theorem Led.hand {n : Nat} {S : Rf.Room Str} {a : Nat → Nat} (n1 : 1 ≤ n) (h : Led n S L3 a) {o m : Nat} (ho : o < n) (hne : o ≠ 0) (hm : m ≤ 3) : (Rf.handR S 0 o m).2 = true ∧ Led n (Rf.handR S 0 o m).1 L3 fun v => if v = o then min 3 (a o + m) else a v := by
  obtain ⟨x1, x2, x3, x4⟩ := h.x o ho hne
  obtain ⟨f1, f2, f3⟩ := fill16 (a o) m x3 hm
  have hh : Rf.hear (S o) (S 0).term = S o := Rf.hear_ge (by rw [h.t 0 n1, h.t o ho]; decide)
  have e : Rf.handR S 0 o m = (Rf.put (Rf.put S o { S o with row := L3.take (min 3 (a o + m)), settled := max (S o).settled (min (S 0).settled (min 3 (a o + m))) }) 0 { S 0 with next := Rf.setF (S 0).next o (min 3 (a o + m)), held := Rf.setF (S 0).held o (min 3 (a o + m)) }, true) := by
    unfold Rf.handR
    rw [if_neg (by rw [h.t 0 n1, h.t o ho]; decide), hh]
    dsimp only
    rw [x1, x4, h.r, if_pos f3, f1, f2]
  rw [e]
  refine ⟨rfl, ?_⟩
  dsimp only
  have z0 : (0 : Nat) ≠ o := fun z => hne z.symm
  refine ⟨fun v hv => ?_, by rw [Rf.put_same]; exact h.l, fun v hv hv0 => ?_, by rw [Rf.put_same]; exact h.r, fun v hv hv0 => ?_⟩
  · by_cases e0 : v = 0
    · rw [e0, Rf.put_same]; exact h.t 0 n1
    · rw [Rf.put_ne e0]
      by_cases eo : v = o
      · rw [eo, Rf.put_same]; exact h.t o ho
      · rw [Rf.put_ne eo]; exact h.t v hv
  · rw [Rf.put_ne hv0]
    by_cases eo : v = o
    · rw [eo, Rf.put_same]; exact h.o o ho hne
    · rw [Rf.put_ne eo]; exact h.o v hv hv0
  · rw [Rf.put_same, Rf.put_ne hv0]
    obtain ⟨y1, y2, y3, y4⟩ := h.x v hv hv0
    by_cases eo : v = o
    · subst eo
      rw [Rf.put_same, if_pos rfl]
      exact ⟨(if_pos rfl : (if v = v then min 3 (a v + m) else (S 0).next v) = _), (if_pos rfl : (if v = v then min 3 (a v + m) else (S 0).held v) = _), by show _ ≤ 3; omega, rfl⟩
    · rw [Rf.put_ne eo, if_neg eo]
      exact ⟨(if_neg eo : (if v = o then min 3 (a o + m) else (S 0).next v) = _).trans y1, (if_neg eo : (if v = o then min 3 (a o + m) else (S 0).held v) = _).trans y2, y3, y4⟩
theorem Led.settle {n : Nat} {S : Rf.Room Str} {L : List Ent} {a : Nat → Nat} (h : Led n S L a) : Led n (Rf.settleR n S 0) L a := by
  have e0 : ∀ v, (Rf.settleR n S 0 v).term = (S v).term ∧ (Rf.settleR n S 0 v).leads = (S v).leads ∧ (Rf.settleR n S 0 v).row = (S v).row ∧ (Rf.settleR n S 0 v).next = (S v).next ∧ (Rf.settleR n S 0 v).held = (S v).held := fun v => by
    unfold Rf.settleR
    by_cases e : v = 0
    · rw [e, Rf.put_same]; exact ⟨rfl, rfl, rfl, rfl, rfl⟩
    · rw [Rf.put_ne e]; exact ⟨rfl, rfl, rfl, rfl, rfl⟩
  refine ⟨fun v hv => by rw [(e0 v).1]; exact h.t v hv, by rw [(e0 0).2.1]; exact h.l, fun v hv hne => by rw [(e0 v).2.1]; exact h.o v hv hne, by rw [(e0 0).2.2.1]; exact h.r, fun v hv hne => ?_⟩
  rw [(e0 0).2.2.2.1, (e0 0).2.2.2.2, (e0 v).2.2.1]
  exact h.x v hv hne
theorem Led.all {n : Nat} {S : Rf.Room Str} {G : Rf.Gh Str} {a : Nat → Nat} (n1 : 1 ≤ n) (h : Led n S L3 a) (i : Rf.Inv n G S) (ha : ∀ v, v < n → v ≠ 0 → a v = 3) : (Rf.settleR n S 0 0).settled = 3 :=
  (Rf.settle_all (G := G) (L := L3) (T := 1) ⟨i, n1, h.l, h.r, h.t 0 n1, fun v hv _ => h.t v hv, by decide, ⟨(1, w3), rfl, rfl⟩⟩ fun v hv hne => (h.x v hv hne).2.1.trans (ha v hv hne)).1
theorem Led.ext {n : Nat} {S : Rf.Room Str} {L : List Ent} {a b : Nat → Nat} (h : Led n S L a) (e : ∀ v, v < n → v ≠ 0 → b v = a v) : Led n S L b := ⟨h.t, h.l, h.o, h.r, fun v hv hne => by rw [e v hv hne]; exact h.x v hv hne⟩
section
variable {P : Program} {w : World} {K : PySem.W.Frag} {mg : Str → Option Value} {base : Heap} {RA : RoomP} {C_Room C_NotLeading : Addr}
/-- a room as it stands behind some deeds -/
structure W14 (RA : RoomP) (B H : Hp) (F : Addr → Prop) (n : Nat) (r : Addr) (c : Nat) (B' H' : Hp) (S : Rf.Room Str) (G : Rf.Gh Str) (F' : Addr → Prop) : Prop where
  g : GrF F B H B' H'
  hF : ∀ a, F' a → F a ∨ H a = none
  R : RA B' H' r n S F'
  inv : Rf.Inv n G S
  wk : Wk n S c
section
variable {B H : Hp} {F : Addr → Prop} {n : Nat} {r : Addr} {c : Nat} {B' H' : Hp} {S : Rf.Room Str} {G : Rf.Gh Str} {F' : Addr → Prop}
theorem W14.gr (O : RoomOk C_Room RA) (h : W14 RA B H F n r c B' H' S G F') {B2 H2 : Hp} (g : Gr B' H' B2 H2) : W14 RA B H F n r c B2 H2 S G F' := ⟨h.g.trans g.fr, h.hF, O.gr h.R g, h.inv, h.wk⟩
theorem W14.mono (h : W14 RA B H F n r c B' H' S G F') {c' : Nat} (e : c ≤ c') : W14 RA B H F n r c' B' H' S G F' := ⟨h.g, h.hF, h.R, h.inv, h.wk.mono e⟩
theorem W14.fit (h : W14 RA B H F n r c B' H' S G F') (e : c ≤ 10000) : Fit n S := fit_of h.inv h.wk e
/-- behind a deed -/
theorem W14.next (h : W14 RA B H F n r c B' H' S G F') {d : Rf.Deed Str} (gd : deedGood n d) {B2 H2 : Hp} {F2 : Addr → Prop} {S2 : Rf.Room Str} (e : (Rf.doR n S d).1 = S2) (g : GrF F' B' H' B2 H2) (hF2 : ∀ a, F2 a → F' a ∨ H' a = none) (R : RA B2 H2 r n S2 F2) : ∃ G2, W14 RA B H F n r (c + 1) B2 H2 S2 G2 F2 := by
  obtain ⟨G2, st⟩ := Rf.step_of h.inv gd.1
  have i2 := st.inv
  have k2 := wk_do h.inv gd h.wk
  rw [e] at i2 k2
  exact ⟨G2, h.g.trans' g h.hF, fun a z => (hF2 a z).elim (h.hF a) fun z => .inr (h.g.back z), R, i2, k2⟩
end
def aLed (held : Nat) : Nat → Nat := fun _ => 2 + held
def spLed (RA : RoomP) : Sp := fun vs H Q _ => ∃ (B : Hp) (r : Addr) (n : Nat) (F : Addr → Prop) (held : Nat), vs = [.ref r, .int (n : Int), .int (held : Int)] ∧ Evl.Ex B H ∧ RA B H r n Rf.room0 F ∧ 1 ≤ n ∧ n ≤ 9 ∧ held < 2 ∧
  ∀ B1 H1 S G F1, W14 RA B H F n r 100 B1 H1 S G F1 → Led n S L3 (aLed held) → Q .non H1
theorem ok_law_led {f f1 f2 f3 f4 : Addr} {fd fd1 fd2 fd3 fd4 : FuncData} {Z : Bi mg} {T_Room : ClsAt K mg "Room" C_Room ["keepers", "places", "held"]} {O_Room : RoomOk C_Room RA} {D : DefAt K mg "_law_led" s_law_led ["_law_room", "_law_count", "_law_all_held"] f fd}
    {x_Room_stand : CalleeM P w K mg base (L2N.CX P w) 4 C_Room "stand" ["self", "k", "others"] (spStand K RA) f1 fd1}
    {x_Room_write : CalleeM P w K mg base (L2N.CX P w) 3 C_Room "write" ["self", "k", "word"] (spWrite RA C_NotLeading) f2 fd2}
    {x_Room_hand : CalleeM P w K mg base (L2N.CX P w) 3 C_Room "hand" ["self", "k", "other", "many"] (spHand RA C_NotLeading) f3 fd3}
    {x_Room_settle : CalleeM P w K mg base (L2N.CX P w) 3 C_Room "settle" ["self", "k"] (spSettle RA C_NotLeading) f4 fd4} :
    Callee P w K mg base 5 "_law_led" ["_law_room", "_law_count", "_law_all_held"] (spLed RA) f fd := by
  refine D.okC sc_law_led (fun vs H Q E h => by obtain ⟨B, r, n, F, held, rfl, _⟩ := h; rfl) fun cdv A outer s H vs Q E hr h => ?_
  obtain ⟨B, r, n, F, held, rfl, eb, R, n1, n9, hh, q⟩ := h
  refine ⟨_, (pss_cons (ps_expr (pe_meth (pv 0) T_Room.cl x_Room_stand.M x_Room_stand.G (hr.mono (by decide)) x_Room_stand.b .nil passN0 (pa_cons pe_int (pa_cons (pe_listRg rfl (by rfl) Z.z_list (prg_1 (by rfl) Z.z_range (pv 1))) pa_nil))))
      (pss_cons (ps_for PassesOwn.never rfl (pi_list (pe_lst (pa_cons pe_str (pa_cons pe_str (pa_cons pe_str pa_nil))))) (pg_name (i := 3) sc_law_led.nd rfl (.inl rfl)) (pss_one (ps_expr (pe_meth (pv 0) T_Room.cl x_Room_write.M x_Room_write.G (hr.mono (by decide)) x_Room_write.b .nil passN0 (pa_cons pe_int (pa_cons (pv 3) pa_nil))))))
      (pss_cons (ps_for PassesOwn.never rfl (pi_range2 (by rfl) Z.z_range (pa_cons pe_int (pa_cons (pv 1) pa_nil))) (pg_name (i := 4) sc_law_led.nd rfl (.inl rfl)) (pss_one (ps_expr (pe_meth (pv 0) T_Room.cl x_Room_hand.M x_Room_hand.G (hr.mono (by decide)) x_Room_hand.b .nil passN0 (pa_cons pe_int (pa_cons (pv 4) (pa_cons (pe_op op_add pe_int (pv 2)) pa_nil)))))))
      (pss_one (ps_if (pt_cmpR op_eq (pv 2) pe_int (nomark _)) (pss_one (ps_expr (pe_meth (pv 0) T_Room.cl x_Room_settle.M x_Room_settle.G (hr.mono (by decide)) x_Room_settle.b .nil passN0 (pa_cons pe_int pa_nil)))) pss_nil))))), ?_⟩
  have W0 : W14 RA B H F n r 0 B H Rf.room0 Rf.gh0 F := ⟨GrF.refl eb, fun a z => .inl z, R, Rf.inv0 n, wk0 n⟩
  have rng : ∀ o ∈ List.range n, o < n := fun o h => List.mem_range.mp h
  refine q_dropX (m_stand (K := K) (k := 0) (os := List.range n) O_Room eb (ev_var rfl) evd_cI (EvD.is (evd_listRg (evd_vI rfl) (by omega) (by omega)) (by rw [Int.toNat_natCast])) R (W0.fit (by omega)) n9 n1 rng fun B2 H2 F2 g2 hF2 R2 => ?_)
  obtain ⟨G2, W2⟩ := W0.next (good_stand n1 rng) rfl g2 hF2 R2
  have D2 : Led n (Rf.standR n (Rf.room0 (α := Str)) 0 (List.range n)).1 [] fun _ => 0 := Led.stand n1
  have W2 : W14 RA B H F n r 1 B2 H2 (Rf.standR n (Rf.room0 (α := Str)) 0 (List.range n)).1 G2 F2 := W2
  generalize (Rf.standR n (Rf.room0 (α := Str)) 0 (List.range n)).1 = S2 at D2 W2
  -- three words
  refine q_forD (K := K) (ds := [.str w1, .str w2, .str w3]) W2.g.bh (evd_lst (ea_cons evd_cS (ea_cons evd_cS (ea_cons evd_cS ea_nil))) (show 3 ≤ 100000 by decide)) fun B3 H3 g3 => ?_
  refine ⟨fun i σ' B' H' => Evl.Ex B3 B' ∧ ∃ S G F' y3, σ' = [some (.ref r), some (.int (n : Int)), some (.int (held : Int)), y3, none] ∧ W14 RA B H F n r (1 + i) B' H' S G F' ∧ Led n S (L3.take i) fun _ => 0,
    ⟨Evl.Ex.refl _, S2, G2, F2, none, rfl, W2.gr O_Room g3, D2⟩, fun i σ' B' H' ⟨e, _, _, _, _, _, w, _⟩ => ⟨e, w.g.bh⟩, ?_, ?_⟩
  · rintro i d v σ' B4 H4 hi dv ⟨e4, S, G, F4, y3, rfl, W4, D4⟩
    have hi3 : i < 3 := (List.getElem?_eq_some_iff.mp hi).1
    obtain ⟨wd, rfl, hw, ht⟩ : ∃ wd : Str, d = .str wd ∧ PyData.strOk wd = true ∧ L3.take i ++ [(1, wd)] = L3.take (i + 1) := by
      have hc : i = 0 ∨ i = 1 ∨ i = 2 := by omega
      rcases hc with rfl | rfl | rfl
      · cases hi; exact ⟨w1, rfl, by decide +kernel, rfl⟩
      · cases hi; exact ⟨w2, rfl, by decide +kernel, rfl⟩
      · cases hi; exact ⟨w3, rfl, by decide +kernel, rfl⟩
    refine s_dropX (m_write (K := K) (k := 0) (w := wd) O_Room W4.g.bh (ev_var rfl) evd_cI (evd_v rfl dv) W4.R (W4.fit (by omega)) n9 n1 hw D4.l fun B5 H5 F5 g5 hF5 R5 => ?_)
    obtain ⟨G5, W5⟩ := W4.next (good_write n1 hw) (by simp only [Rf.doR, if_pos D4.l]) g5 hF5 R5
    exact ⟨B5, e4.trans g5.bb, _, G5, F5, _, rfl, W5.mono (by omega), by rw [← ht]; exact D4.write n1 wd⟩
  · rintro σ' B4 H4 ⟨e4, S, G, F4, y3, rfl, W4, D4⟩
    have D4 : Led n S L3 fun _ => 0 := D4
    have W4 : W14 RA B H F n r 4 B4 H4 S G F4 := W4
    -- it hands on
    refine q_forR2 (K := K) (lo := 1) (m := (n : Int)) W4.g.bh (ea_cons evd_cI (ea_cons (evd_vI rfl) ea_nil)) (by omega) fun B5 H5 g5 => ?_
    refine ⟨fun i σ' B' H' => ∃ S G F' y4, σ' = [some (.ref r), some (.int (n : Int)), some (.int (held : Int)), y3, y4] ∧ W14 RA B H F n r (4 + i) B' H' S G F' ∧ Led n S L3 (fun v => if v < 1 + i then 2 + held else 0),
      ⟨S, G, F4, none, rfl, W4.gr O_Room g5, D4.ext fun v hv hne => if_neg (by omega)⟩, ?_, ?_⟩
    · rintro i σ' B6 H6 hi ⟨S, G, F6, y4, rfl, W6, D6⟩
      have hin : 1 + i < n := by omega
      obtain ⟨told, D7⟩ := D6.hand n1 (o := 1 + i) (m := 2 + held) hin (by omega) (by omega)
      refine s_dropX (m_hand (K := K) (k := 0) (o := 1 + i) (m := 2 + held) O_Room W6.g.bh (ev_var rfl) evd_cI (EvD.is (evd_vI rfl) (congrArg PyData.int (by omega))) (EvD.is (evd_I0 evd_cI (evd_vI rfl) rfl) (congrArg PyData.int (by omega))) W6.R (W6.fit (by omega)) n9 n1 hin (by omega) D6.l fun B7 H7 F7 g7 hF7 R7 => ?_)
      obtain ⟨G7, W7⟩ := W6.next (good_hand (m := 2 + held) n1 hin (by omega)) (by simp only [Rf.doR, if_pos D6.l]) g7 hF7 R7
      refine ⟨B7, _, G7, F7, _, rfl, W7.mono (by omega), D7.ext fun v hv hne => ?_⟩
      by_cases e : v = 1 + i
      · rw [if_pos (by omega), if_pos e, if_neg (by omega)]
        omega
      · rw [if_neg e]
        by_cases e2 : v < 1 + i
        · rw [if_pos (by omega), if_pos e2]
        · rw [if_neg (by omega), if_neg e2]
    · rintro σ' B6 H6 ⟨S, G, F6, y4, rfl, W6, D6⟩
      have D6 : Led n S L3 (aLed held) := D6.ext fun v hv hne => by unfold aLed; rw [if_pos (by omega)]
      refine s_when (K := K) W6.g.bh (et_test (evd_eqI (evd_vI rfl) evd_cI)) (fun hb B7 H7 g7 => ?_) fun hb B7 H7 g7 => ?_
      · have W7 := W6.gr O_Room g7
        refine s_dropX (m_settle (K := K) (k := 0) O_Room g7.bh (ev_var rfl) evd_cI W7.R (W7.fit (by omega)) n9 n1 D6.l fun B8 H8 F8 g8 hF8 R8 => ?_)
        obtain ⟨G8, W8⟩ := W7.next (good_settle n1) (by simp only [Rf.doR, if_pos D6.l]) g8 hF8 R8
        exact q B8 H8 _ G8 F8 (W8.mono (by omega)) D6.settle
      · exact q B7 H7 S G F6 ((W6.gr O_Room g7).mono (by omega)) D6
theorem s_ifOrX {ta tb : TE} {r2 : R2} {u : TT} {tw : TS} {D : Ends} {σ : L2.St} {H : Hp} (h : ta σ H fun x H1 => tb σ H1 fun y H2 => r2 x y H2 fun z H3 => ∃ k, z = .bl k ∧ (if k = true then tw D σ H3 else tIfS u tw tNext D σ H3)) : tIfS (tOr (tTest (tOp r2 ta tb)) u) tw tNext D σ H := h
def spOn (RA : RoomP) : Sp := fun vs H Q _ => ∃ (B : Hp) (r : Addr) (n : Nat) (S : Rf.Room Str) (G : Rf.Gh Str) (F : Addr → Prop) (held : Nat), vs = [.ref r, .int (n : Int), .int (held : Int)] ∧ Evl.Ex B H ∧ RA B H r n S F ∧ Rf.Inv n G S ∧ Wk n S 100 ∧ Led n S L3 (aLed held) ∧ 1 ≤ n ∧ n ≤ 9 ∧ held < 2 ∧
  ∀ B1 H1, GrF F B H B1 H1 → Q (.bl true) H1
theorem ok_law_leads_on {f f3 f4 : Addr} {fd fd3 fd4 : FuncData} {Z : Bi mg} {T_Room : ClsAt K mg "Room" C_Room ["keepers", "places", "held"]} {O_Room : RoomOk C_Room RA} {D : DefAt K mg "_law_leads_on" s_law_leads_on ["_law_room", "_law_count", "_law_all_held"] f fd}
    {x_Room_hand : CalleeM P w K mg base (L2N.CX P w) 3 C_Room "hand" ["self", "k", "other", "many"] (spHand RA C_NotLeading) f3 fd3}
    {x_Room_settle : CalleeM P w K mg base (L2N.CX P w) 3 C_Room "settle" ["self", "k"] (spSettle RA C_NotLeading) f4 fd4} :
    Callee P w K mg base 4 "_law_leads_on" ["_law_room", "_law_count", "_law_all_held"] (spOn RA) f fd := by
  refine D.okC sc_law_leads_on (fun vs H Q E h => by obtain ⟨B, r, n, S, G, F, held, rfl, _⟩ := h; rfl) fun cdv A outer s H vs Q E hr h => ?_
  obtain ⟨B, r, n, S, G, F, held, rfl, eb, R, I, wk, D0, n1, n9, hh, q⟩ := h
  refine ⟨_, (pss_cons (ps_if (pt_cmpR op_eq (pv 2) pe_int (nomark _)) (pss_one (ps_for PassesOwn.never rfl (pi_range2 (by rfl) Z.z_range (pa_cons pe_int (pa_cons (pv 1) pa_nil))) (pg_name (i := 3) sc_law_leads_on.nd rfl (.inl rfl)) (pss_one (ps_if (PW.pt (pw_or (pt_cmpR op_notBl (pe_meth (pv 0) T_Room.cl x_Room_hand.M x_Room_hand.G (hr.mono (by decide)) x_Room_hand.b .nil passN0 (pa_cons pe_int (pa_cons (pv 3) (pa_cons pe_int pa_nil)))) pe_bl (nomark _)) (pw_or1 (pt_cmpR op_notBl (pe_meth (pv 0) T_Room.cl x_Room_hand.M x_Room_hand.G (hr.mono (by decide)) x_Room_hand.b .nil passN0 (pa_cons pe_int (pa_cons (pv 3) (pa_cons pe_int pa_nil)))) pe_bl (nomark _))))) (pss_one (ps_ret pe_bl)) pss_nil)))) pss_nil)
      (pss_one (ps_ret (pe_cmpR op_eq (pe_meth (pv 0) T_Room.cl x_Room_settle.M x_Room_settle.G (hr.mono (by decide)) x_Room_settle.b .nil passN0 (pa_cons pe_int pa_nil)) pe_int (nomark _))))), ?_⟩
  have W0 : W14 RA B H F n r 100 B H S G F := ⟨GrF.refl eb, fun a z => .inl z, R, I, wk⟩
  refine q_mid (fun σ' B' H' => ∃ S G F' y3, σ' = [some (.ref r), some (.int (n : Int)), some (.int (held : Int)), y3] ∧ W14 RA B H F n r 200 B' H' S G F' ∧ Led n S L3 fun _ => 3) (fun fin => ?_) ?_
  · refine q_when (K := K) eb (et_test (evd_eqI (evd_vI rfl) evd_cI)) (fun hb B1 H1 g1 => ?_) fun hb B1 H1 g1 => ?_
    · have h0 : held = 0 := by have := of_decide_eq_true hb; omega
      subst h0
      refine s_forR2 (K := K) (lo := 1) (m := (n : Int)) g1.bh (ea_cons evd_cI (ea_cons (evd_vI rfl) ea_nil)) (by omega) fun B5 H5 g5 => ?_
      refine ⟨fun i σ' B' H' => ∃ S G F' y3, σ' = [some (.ref r), some (.int (n : Int)), some (.int ((0 : Nat) : Int)), y3] ∧ W14 RA B H F n r (100 + 2 * i) B' H' S G F' ∧ Led n S L3 (fun v => if v < 1 + i then 3 else 2),
        ⟨S, G, F, none, rfl, (W0.gr O_Room g1).gr O_Room g5, D0.ext fun v hv hne => by unfold aLed; rw [if_neg (by omega)]⟩, ?_, ?_⟩
      · rintro i σ' B6 H6 hi ⟨S, G, F6, y3, rfl, W6, D6⟩
        have hin : 1 + i < n := by omega
        obtain ⟨told, D7⟩ := D6.hand n1 (o := 1 + i) (m := 0) hin (by omega) (by omega)
        refine s_ifOrX (m_hand (K := K) (k := 0) (o := 1 + i) (m := 0) O_Room W6.g.bh (ev_var rfl) evd_cI (EvD.is (evd_vI rfl) (congrArg PyData.int (by omega))) evd_cI W6.R (W6.fit (by omega)) n9 n1 hin (by omega) D6.l fun B7 H7 F7 g7 hF7 R7 => ?_)
        rw [told]
        refine ⟨true, true, rfl, rfl, false, rfl, ?_⟩
        rw [if_neg (by decide)]
        obtain ⟨G7, W7⟩ := W6.next (good_hand (m := 0) n1 hin (by omega)) (by simp only [Rf.doR, if_pos D6.l]) g7 hF7 R7
        obtain ⟨told8, D8⟩ := D7.hand n1 (o := 1 + i) (m := 1) hin (by omega) (by omega)
        refine s_ifOpX (m_hand (K := K) (k := 0) (o := 1 + i) (m := 1) O_Room W7.g.bh (ev_var rfl) evd_cI (EvD.is (evd_vI rfl) (congrArg PyData.int (by omega))) evd_cI W7.R (W7.fit (by omega)) n9 n1 hin (by omega) D7.l fun B8 H8 F8 g8 hF8 R8 => ?_)
        rw [told8]
        refine ⟨true, true, rfl, rfl, false, rfl, ?_⟩
        rw [if_neg (by decide)]
        obtain ⟨G8, W8⟩ := W7.next (good_hand (m := 1) n1 hin (by omega)) (by simp only [Rf.doR, if_pos D7.l]) g8 hF8 R8
        refine ⟨B8, _, G8, F8, _, rfl, W8.mono (by omega), D8.ext fun v hv hne => ?_⟩
        by_cases e : v = 1 + i
        · rw [if_pos (by omega), if_pos e, if_pos rfl, if_neg (by omega)]
          rfl
        · rw [if_neg e, if_neg e]
          by_cases e2 : v < 1 + i
          · rw [if_pos (by omega), if_pos e2]
          · rw [if_neg (by omega), if_neg e2]
      · rintro σ' B6 H6 ⟨S, G, F6, y3, rfl, W6, D6⟩
        exact fin _ B6 H6 ⟨S, G, F6, y3, rfl, W6.mono (by omega), D6.ext fun v hv hne => by rw [if_pos (by omega)]⟩
    · have h1 : held = 1 := by have := of_decide_eq_false hb; omega
      subst h1
      exact fin _ B1 H1 ⟨S, G, F, none, rfl, (W0.gr O_Room g1).mono (by omega), D0⟩
  · rintro σ' B6 H6 ⟨S, G, F6, y3, rfl, W6, D6⟩
    refine s_retX (m_settle (K := K) (k := 0) O_Room W6.g.bh (ev_var rfl) evd_cI W6.R (W6.fit (by omega)) n9 n1 D6.l fun B7 H7 F7 g7 hF7 R7 => ?_)
    rw [D6.all n1 W6.inv fun _ _ _ => rfl]
    refine tC_eq ?_
    exact q B7 H7 (W6.g.trans' g7 W6.hF)
/-! ### the law -/
theorem rowD_facts {es : List Ent} (h : okRow es) : (rowD es).canLay0 = true ∧ (rowD es).depth ≤ 2 := by
  refine ⟨SeqAt.canLay_of_shaped (shaped_row h), ?_⟩
  unfold rowD
  rw [PyData.depth]
  have := depth_ents es
  omega
theorem shaped_all {n : Nat} {S : Rf.Room Str} (h : ∀ v, v < n → okRow (S v).row) : SeqAt.shaped (allD n S) = true := by
  have one : ∀ v, v < n → (PyData.list [.int (S v).term, rowD (S v).row, .bool (S v).leads, rowD (Rf.part (S v))]).canLay0 = true ∧ (PyData.list [.int (S v).term, rowD (S v).row, .bool (S v).leads, rowD (Rf.part (S v))]).depth ≤ 3 := fun v hv => by
    obtain ⟨a1, a2⟩ := rowD_facts (h v hv)
    obtain ⟨b1, b2⟩ := rowD_facts (es := Rf.part (S v)) ((h v hv).take _)
    constructor
    · simp [PyData.canLay0, PyData.canLayAll0, a1, b1]
    · rw [PyData.depth, PyData.depthAll, PyData.depthAll, PyData.depthAll, PyData.depthAll, PyData.depthAll, PyData.depth, PyData.depth]
      omega
  have all : ∀ (l : List Nat), (∀ v ∈ l, v < n) → PyData.canLayAll0 (l.map fun v => PyData.list [.int (S v).term, rowD (S v).row, .bool (S v).leads, rowD (Rf.part (S v))]) = true ∧ PyData.depthAll (l.map fun v => PyData.list [.int (S v).term, rowD (S v).row, .bool (S v).leads, rowD (Rf.part (S v))]) ≤ 3 := fun l => by
    induction l with
    | nil => exact fun _ => ⟨by simp [PyData.canLayAll0], by simp [PyData.depthAll]⟩
    | cons x l ih =>
      intro hl
      obtain ⟨i1, i2⟩ := ih fun v hv => hl v (List.mem_cons_of_mem _ hv)
      obtain ⟨o1, o2⟩ := one x (hl x List.mem_cons_self)
      constructor
      · rw [List.map_cons, PyData.canLayAll0, i1, o1]; rfl
      · rw [List.map_cons, PyData.depthAll]; omega
  obtain ⟨c1, c2⟩ := all (List.range n) fun v hv => List.mem_range.mp hv
  unfold SeqAt.shaped allD
  rw [PyData.canLay0, PyData.depth, c1, decide_eq_true (by omega)]
  rfl
theorem eqv_all {n : Nat} {S : Rf.Room Str} (h : ∀ v, v < n → okRow (S v).row) : PyData.eqv (allD n S) (allD n S) = true := SeqAt.eqv_refl _ (SeqAt.canLay_of_shaped (shaped_all h))
section
variable {σ : L2.St} {B H : Hp} {ta tb tc td te : TE} {n : Nat} {r : Addr} {S : Rf.Room Str} {F : Addr → Prop}
theorem evd_all {E : XK} (O : RoomOk C_Room RA) (h : EvV ta σ B H (.ref r)) (hb : EvD K tb σ B H (.int (n : Int))) (R : RA B H r n S F) (ft : Fit n S) (n9 : n ≤ 9) : EvD K (tCall (spAllOf K RA) [] E (tCons ta (tCons tb tNil))) σ B H (allD n S) := fun B1 H1 g Q q => by
  refine (ea_consV (P := fun B1 vs => DqAll K B1 [.int (n : Int)] vs) h (ea_cons hb ea_nil)) B1 H1 g _ fun ws B2 H2 g2 hv => ?_
  obtain ⟨ws, rfl, hv⟩ := hv
  obtain ⟨w0, ws, rfl, e0, hv⟩ := dqa_cons.mp hv
  cases dqa_nil.mp hv
  cases dq_int.mp e0
  exact ⟨B2, r, n, S, F, rfl, g2.bh, O.gr (O.gr R g) g2, ft, n9, fun v B3 H3 g3 dv => q v B3 H3 (g2.trans g3) dv⟩
theorem evd_kindOf {E : XK} {wy : Int} {k o : Nat} {wr : Int} (O : RoomOk C_Room RA) (h : EvV ta σ B H (.ref r)) (h1 : EvD K tb σ B H (.int wy)) (h2 : EvD K tc σ B H (.int (k : Int))) (h3 : EvD K td σ B H (.int (o : Int))) (h4 : EvD K te σ B H (.int wr)) (R : RA B H r n S F) (hk : k < n) (ho : o < n) (hw : wrongN n wr) :
    EvD K (tCall (spKindOf RA) [] E (tCons ta (tCons tb (tCons tc (tCons td (tCons te tNil)))))) σ B H (.int 49) := fun B1 H1 g Q q => by
  refine (ea_consV (P := fun B1 vs => DqAll K B1 [.int wy, .int (k : Int), .int (o : Int), .int wr] vs) h (ea_cons h1 (ea_cons h2 (ea_cons h3 (ea_cons h4 ea_nil))))) B1 H1 g _ fun ws B2 H2 g2 hv => ?_
  obtain ⟨ws, rfl, hv⟩ := hv
  obtain ⟨w0, ws, rfl, e0, hv⟩ := dqa_cons.mp hv
  obtain ⟨w1, ws, rfl, e1, hv⟩ := dqa_cons.mp hv
  obtain ⟨w2, ws, rfl, e2, hv⟩ := dqa_cons.mp hv
  obtain ⟨w3, ws, rfl, e3, hv⟩ := dqa_cons.mp hv
  cases dqa_nil.mp hv
  cases dq_int.mp e0
  cases dq_int.mp e1
  cases dq_int.mp e2
  cases dq_int.mp e3
  exact ⟨B2, r, n, S, F, wy, k, o, wr, rfl, g2.bh, O.gr (O.gr R g) g2, hk, ho, hw, fun B3 H3 g3 => q _ B3 H3 (g2.trans g3) (dq_int.mpr rfl)⟩
theorem m_idleKind {E : XK} {Q : VK} {wy : Int} {k o : Nat} (O : RoomOk C_Room RA) (g0 : Evl.Ex B H) (h : EvV ta σ B H (.ref r)) (h1 : EvD K tb σ B H (.int wy)) (h2 : EvD K tc σ B H (.int (k : Int))) (h3 : EvD K td σ B H (.int (o : Int))) (R : RA B H r n S F) (ft : Fit n S) (n9 : n ≤ 9) (hk : k < n) (ho : o < n) (hl : (S k).leads = false)
    (q : After RA B H r n F S (Q (.int 50))) : tCall (spIdleKind RA) [] E (tCons ta (tCons tb (tCons tc (tCons td tNil)))) σ H Q := by
  refine (ea_consV (P := fun B1 vs => DqAll K B1 [.int wy, .int (k : Int), .int (o : Int)] vs) h (ea_cons h1 (ea_cons h2 (ea_cons h3 ea_nil)))) B H (Gr.refl g0) _ fun ws B2 H2 g2 hv => ?_
  obtain ⟨ws, rfl, hv⟩ := hv
  obtain ⟨w0, ws, rfl, e0, hv⟩ := dqa_cons.mp hv
  obtain ⟨w1, ws, rfl, e1, hv⟩ := dqa_cons.mp hv
  obtain ⟨w2, ws, rfl, e2, hv⟩ := dqa_cons.mp hv
  cases dqa_nil.mp hv
  cases dq_int.mp e0
  cases dq_int.mp e1
  cases dq_int.mp e2
  exact ⟨B2, r, n, S, F, wy, k, o, rfl, g2.bh, O.gr R g2, ft, n9, hk, ho, hl, q.gr g2⟩
theorem m_caught {E : XK} {Q : VK} {k o : Nat} {wr : Int} (O : RoomOk C_Room RA) (g0 : Evl.Ex B H) (h : EvV ta σ B H (.ref r)) (h1 : EvD K tb σ B H (.int (k : Int))) (h2 : EvD K tc σ B H (.int (o : Int))) (h3 : EvD K td σ B H (.int wr)) (R : RA B H r n S F) (ft : Fit n S) (n9 : n ≤ 9) (hk : k < n) (hw : wrongN n wr) (hl : (S k).leads = false)
    (q : After RA B H r n F S (Q (.int 2))) : tCall (spCaught RA) [] E (tCons ta (tCons tb (tCons tc (tCons td tNil)))) σ H Q := by
  refine (ea_consV (P := fun B1 vs => DqAll K B1 [.int (k : Int), .int (o : Int), .int wr] vs) h (ea_cons h1 (ea_cons h2 (ea_cons h3 ea_nil)))) B H (Gr.refl g0) _ fun ws B2 H2 g2 hv => ?_
  obtain ⟨ws, rfl, hv⟩ := hv
  obtain ⟨w0, ws, rfl, e0, hv⟩ := dqa_cons.mp hv
  obtain ⟨w1, ws, rfl, e1, hv⟩ := dqa_cons.mp hv
  obtain ⟨w2, ws, rfl, e2, hv⟩ := dqa_cons.mp hv
  cases dqa_nil.mp hv
  cases dq_int.mp e0
  cases dq_int.mp e1
  cases dq_int.mp e2
  exact ⟨B2, r, n, S, F, k, o, wr, rfl, g2.bh, O.gr R g2, ft, n9, hk, hw, hl, q.gr g2⟩
end
theorem q_ifOrT {t u : TT} {tw tz : TS} {D : Ends} {σ : L2.St} {B H : Hp} {b : Bool} (g0 : Evl.Ex B H) (ht : EvT K t σ B H b) (h1 : b = true → ∀ B1 H1, Gr B H B1 H1 → tw { D with nx := tz D } σ H1) (h2 : b = false → ∀ B1 H1, Gr B H B1 H1 → tSeq (tIfS u tw tNext) tz D σ H1) : tSeq (tIfS (tOr t u) tw tNext) tz D σ H := ht B H (Gr.refl g0) _ fun B1 H1 g => by
  cases b with
  | true => exact h1 rfl B1 H1 g
  | false => exact h2 rfl B1 H1 g
theorem q_ifNotX {te : TE} {tw tz : TS} {D : Ends} {σ : L2.St} {H : Hp} (h : te σ H fun z H3 => ∃ k, z = .bl k ∧ (if (!k) = true then tw { D with nx := tz D } σ H3 else tz D σ H3)) : tSeq (tIfS (tNot (tB te)) tw tNext) tz D σ H := h
theorem draw9 (num : Int) : ∃ a b c d e f g h i : Int, drawnOf num [9, 2, 5, 12, 3, 9, 7, 2, 11] = [a, b, c, d, e, f, g, h, i] ∧ (0 ≤ a ∧ a < 9) ∧ (0 ≤ b ∧ b < 2) ∧ (0 ≤ c ∧ c < 5) ∧ (0 ≤ g ∧ g < 7) ∧ (0 ≤ h ∧ h < 2) ∧ (0 ≤ i ∧ i < 11) :=
  ⟨_, _, _, _, _, _, _, _, _, rfl, ⟨Int.emod_nonneg _ (by decide), Int.emod_lt_of_pos _ (by decide)⟩, ⟨Int.emod_nonneg _ (by decide), Int.emod_lt_of_pos _ (by decide)⟩, ⟨Int.emod_nonneg _ (by decide), Int.emod_lt_of_pos _ (by decide)⟩, ⟨Int.emod_nonneg _ (by decide), Int.emod_lt_of_pos _ (by decide)⟩, ⟨Int.emod_nonneg _ (by decide), Int.emod_lt_of_pos _ (by decide)⟩, ⟨Int.emod_nonneg _ (by decide), Int.emod_lt_of_pos _ (by decide)⟩⟩
theorem mod_nat {i : Int} {n : Nat} (n1 : 1 ≤ n) : ∃ k : Nat, i % (n : Int) = (k : Int) ∧ k < n :=
  ⟨(i % (n : Int)).toNat, (Int.toNat_of_nonneg (Int.emod_nonneg _ (by omega))).symm, by
    have h1 := Int.emod_lt_of_pos i (show (0 : Int) < (n : Int) by omega)
    have h2 := Int.emod_nonneg i (show (n : Int) ≠ 0 by omega)
    omega⟩
theorem ok_law {f f0 f1 f2 f3 f4 f5 f6 f7 f8 f9 : Addr} {fd fd0 fd1 fd2 fd3 fd4 fd5 fd6 fd7 fd8 fd9 : FuncData} {Z : Bi mg} {T_Room : ClsAt K mg "Room" C_Room ["keepers", "places", "held"]} {O_Room : RoomOk C_Room RA} {D : DefAt K mg "law" s_law ["_law_script"] f fd}
    {c_law_drawn : Callee P w K mg base 1 "_law_drawn" ["_law_number", "_law_sizes"] (spD K R_drawn) f1 fd1}
    {c_law_mixed : Callee P w K mg base 2 "_law_mixed" ["_law_script", "_law_k"] (spD K R_mixed) f2 fd2}
    {c_law_led : Callee P w K mg base 5 "_law_led" ["_law_room", "_law_count", "_law_all_held"] (spLed RA) f3 fd3}
    {c_law_all_of : Callee P w K mg base 3 "_law_all_of" ["_law_room", "_law_count"] (spAllOf K RA) f4 fd4}
    {c_law_kind_of : Callee P w K mg base 6 "_law_kind_of" ["_law_room", "_law_way", "_law_k", "_law_other", "_law_wrong"] (spKindOf RA) f5 fd5}
    {c_law_idle_kind : Callee P w K mg base 5 "_law_idle_kind" ["_law_room", "_law_way", "_law_k", "_law_other"] (spIdleKind RA) f6 fd6}
    {c_law_caught : Callee P w K mg base 4 "_law_caught" ["_law_room", "_law_k", "_law_other", "_law_wrong"] (spCaught RA) f7 fd7}
    {c_law_leads_on : Callee P w K mg base 4 "_law_leads_on" ["_law_room", "_law_count", "_law_all_held"] (spOn RA) f8 fd8}
    {c_law_no_room : Callee P w K mg base 5 "_law_no_room" ["_law_count"] (spD K R_noRoom) f9 fd9}
    {x_Room___init__ : CalleeM P w K mg base (L2N.CX P w) 3 C_Room "__init__" ["self", "count"] (spNew C_Room RA) f0 fd0} :
    Callee P w K mg base 7 "law" ["_law_script"] (spLaw K) f fd := by
  refine D.run sc_law (fun ds d h => by obtain ⟨n, rfl, _⟩ := h; rfl) fun cdv A outer s B H vs ds d Q E hr h eb hv q => ?_
  obtain ⟨ns, rfl, hlen, rfl⟩ := h
  obtain ⟨v0, vs, rfl, d0, hv⟩ := dqa_cons.mp hv
  cases dqa_nil.mp hv
  refine ⟨_, (pss_cons (ps_set (i := 1) sc_law.nd rfl (.inl rfl) (pe_call c_law_drawn.G (hr.mono (by decide)) (by rfl) c_law_drawn.g c_law_drawn.kp c_law_drawn.b .nil pass0 (pa_cons (pe_call c_law_mixed.G (hr.mono (by decide)) (by rfl) c_law_mixed.g c_law_mixed.kp c_law_mixed.b .nil pass0 (pa_cons (pv 0) (pa_cons pe_int pa_nil))) (pa_cons (pe_lst (pa_cons pe_int (pa_cons pe_int (pa_cons pe_int (pa_cons pe_int (pa_cons pe_int (pa_cons pe_int (pa_cons pe_int (pa_cons pe_int (pa_cons pe_int pa_nil)))))))))) pa_nil))))
      (pss_cons (ps_set (i := 2) sc_law.nd rfl (.inl rfl) (pe_op op_add pe_int (pe_ix ix_list (pv 1) pe_int (fun _ _ => rfl))))
      (pss_cons (ps_set (i := 3) sc_law.nd rfl (.inl rfl) (pe_make (T_Room.Mk x_Room___init__.M) x_Room___init__.G (hr.mono (by decide)) (by rfl) T_Room.g x_Room___init__.b .nil passN0 (pa_cons (pv 2) pa_nil)))
      (pss_cons (ps_if (pt_cmpR op_eq (pe_ix ix_list (pv 1) pe_int (fun _ _ => rfl)) pe_int (nomark _)) (pss_one (ps_expr (pe_call c_law_led.G (hr.mono (by decide)) (by rfl) c_law_led.g c_law_led.kp c_law_led.b .nil pass0 (pa_cons (pv 3) (pa_cons (pv 2) (pa_cons (pe_ix ix_list (pv 1) pe_int (fun _ _ => rfl)) pa_nil)))))) pss_nil)
      (pss_cons (ps_set (i := 4) sc_law.nd rfl (.inl rfl) (pe_call c_law_all_of.G (hr.mono (by decide)) (by rfl) c_law_all_of.g c_law_all_of.kp c_law_all_of.b .nil pass0 (pa_cons (pv 3) (pa_cons (pv 2) pa_nil))))
      (pss_cons (ps_set (i := 5) sc_law.nd rfl (.inl rfl) (pe_ix ix_list (pe_lst (pa_cons (pe_op op_sub (pe_un un_neg pe_int) (pe_ix ix_list (pv 1) pe_int (fun _ _ => rfl))) (pa_cons (pv 2) (pa_cons (pe_op op_add (pv 2) (pe_ix ix_list (pv 1) pe_int (fun _ _ => rfl))) (pa_cons (pe_op op_pow pe_int pe_int) (pa_cons (pe_un un_neg (pe_op op_pow pe_int pe_int)) pa_nil)))))) (pe_ix ix_list (pv 1) pe_int (fun _ _ => rfl)) (fun _ _ => rfl)))
      (pss_cons (ps_set (i := 6) sc_law.nd rfl (.inl rfl) (pe_op op_mod (pe_ix ix_list (pv 1) pe_int (fun _ _ => rfl)) (pv 2)))
      (pss_cons (ps_if (PW.pt (pw_and (pt_cmpR op_eq (pe_ix ix_list (pv 1) pe_int (fun _ _ => rfl)) pe_int (nomark _)) (pw_and1 (pt_cmpR op_lt (pe_ix ix_list (pv 1) pe_int (fun _ _ => rfl)) pe_int (nomark _))))) (pss_one (ps_set (i := 6) sc_law.nd rfl (.inl rfl) pe_int)) pss_nil)
      (pss_cons (ps_set (i := 7) sc_law.nd rfl (.inl rfl) (pe_op op_mod (pe_op op_add (pv 6) pe_int) (pv 2)))
      (pss_cons (ps_if (PW.pt (pw_or (pt_cmpR op_ne (pe_call c_law_kind_of.G (hr.mono (by decide)) (by rfl) c_law_kind_of.g c_law_kind_of.kp c_law_kind_of.b .nil pass0 (pa_cons (pv 3) (pa_cons (pe_ix ix_list (pv 1) pe_int (fun _ _ => rfl)) (pa_cons (pv 6) (pa_cons (pv 7) (pa_cons (pv 5) pa_nil)))))) pe_int (nomark _)) (pw_or1 (pt_cmpR (op_neD hr.units) (pe_call c_law_all_of.G (hr.mono (by decide)) (by rfl) c_law_all_of.g c_law_all_of.kp c_law_all_of.b .nil pass0 (pa_cons (pv 3) (pa_cons (pv 2) pa_nil))) (pv 4) (nomark _))))) (pss_one (ps_ret pe_bl)) pss_nil)
      (pss_cons (ps_if (PW.pt (pw_or (pt_cmpR op_eq (pe_ix ix_list (pv 1) pe_int (fun _ _ => rfl)) pe_int (nomark _)) (pw_or1 (pt_cmpR op_gt (pv 6) pe_int (nomark _))))) (pss_one (ps_if (PW.pt (pw_or (pt_cmpR op_ne (pe_call c_law_idle_kind.G (hr.mono (by decide)) (by rfl) c_law_idle_kind.g c_law_idle_kind.kp c_law_idle_kind.b .nil pass0 (pa_cons (pv 3) (pa_cons (pe_ix ix_list (pv 1) pe_int (fun _ _ => rfl)) (pa_cons (pv 6) (pa_cons (pv 7) pa_nil))))) pe_int (nomark _)) (pw_or1 (pt_cmpR op_ne (pe_call c_law_caught.G (hr.mono (by decide)) (by rfl) c_law_caught.g c_law_caught.kp c_law_caught.b .nil pass0 (pa_cons (pv 3) (pa_cons (pv 6) (pa_cons (pv 7) (pa_cons (pv 5) pa_nil))))) pe_int (nomark _))))) (pss_one (ps_ret pe_bl)) pss_nil)) pss_nil)
      (pss_cons (ps_if (PW.pt (pw_or (pt_cmpR (op_neD hr.units) (pe_call c_law_all_of.G (hr.mono (by decide)) (by rfl) c_law_all_of.g c_law_all_of.kp c_law_all_of.b .nil pass0 (pa_cons (pv 3) (pa_cons (pv 2) pa_nil))) (pv 4) (nomark _)) (pw_or1 (PW.pt (pw_and (pt_cmpR op_eq (pe_ix ix_list (pv 1) pe_int (fun _ _ => rfl)) pe_int (nomark _)) (pw_and1 (pt_not (pt_val (pe_call c_law_leads_on.G (hr.mono (by decide)) (by rfl) c_law_leads_on.g c_law_leads_on.kp c_law_leads_on.b .nil pass0 (pa_cons (pv 3) (pa_cons (pv 2) (pa_cons (pe_ix ix_list (pv 1) pe_int (fun _ _ => rfl)) pa_nil)))))))))))) (pss_one (ps_ret pe_bl)) pss_nil)
      (pss_one (ps_ret (pe_call c_law_no_room.G (hr.mono (by decide)) (by rfl) c_law_no_room.g c_law_no_room.kp c_law_no_room.b .nil pass0 (pa_cons (pe_ix ix_list (pe_lst (pa_cons pe_int (pa_cons (pe_un un_neg pe_int) (pa_cons pe_int (pa_cons (pe_op op_pow pe_int pe_int) (pa_cons (pe_un un_neg pe_int) (pa_cons pe_bl (pa_cons pe_bl (pa_cons pe_non (pa_cons pe_str (pa_cons (pe_lst (pa_cons pe_int pa_nil)) (pa_cons (pe_tup (pa_cons pe_int pa_nil)) pa_nil)))))))))))) (pe_ix ix_list (pv 1) pe_int (fun _ _ => rfl)) (fun _ _ => rfl)) pa_nil)))))))))))))))), ?_⟩
  obtain ⟨m0, m1, m2, m3, m4, m5, m6, m7, m8, em, b0, b1, b2, b6, b7, b8⟩ := draw9 (mixed ns 0)
  refine q_asgD (K := K) (d := .list [.int m0, .int m1, .int m2, .int m3, .int m4, .int m5, .int m6, .int m7, .int m8]) eb (EvD.is (evd_call (ea_cons (evd_call (ea_cons (evd_v rfl d0) (ea_cons evd_cI ea_nil)) ⟨ns, 0, rfl, by decide, rfl⟩) (ea_cons (evd_lst (ea_cons evd_cI (ea_cons evd_cI (ea_cons evd_cI (ea_cons evd_cI (ea_cons evd_cI (ea_cons evd_cI (ea_cons evd_cI (ea_cons evd_cI (ea_cons evd_cI ea_nil))))))))) (show 9 ≤ 100000 by decide)) ea_nil)) ⟨mixed ns 0, [9, 2, 5, 12, 3, 9, 7, 2, 11], rfl, by decide, by decide, rfl⟩) (by rw [em]; rfl)) fun vm B1 H1 g1 dm => ?_
  obtain ⟨n, hn⟩ : ∃ n : Nat, 1 + m0 = (n : Int) := ⟨(1 + m0).toNat, by omega⟩
  have n1 : 1 ≤ n := by omega
  have n9 : n ≤ 9 := by omega
  refine q_asgI (K := K) (i := (n : Int)) g1.bh (EvD.is (evd_I0 evd_cI (evd_ixL (d := .int m0) (evd_v rfl dm) evd_cI rfl) rfl) (by rw [hn])) fun B2 H2 g2 => ?_
  refine q_asgX (m_new (K := K) O_Room g2.bh (evd_vI rfl) n1 n9 fun r B3 H3 F0 g3 hF0 R3 => ?_)
  have d3 := dm.mono (g2.trans g3).bb
  have hb3 := (g1.trans g2).trans g3
  have fresh : ∀ a, F0 a → H a = none := fun a z => ex_none (g1.trans g2).hh (hF0 a z)
  obtain ⟨held, hh, h2⟩ : ∃ held : Nat, m7 = (held : Int) ∧ held < 2 := ⟨m7.toNat, by omega, by omega⟩
  have W3 : W14 RA B3 H3 F0 n r 100 B3 H3 Rf.room0 Rf.gh0 F0 := ⟨GrF.refl g3.bh, fun a z => .inl z, R3, Rf.inv0 n, (wk0 n).mono (by omega)⟩
  refine q_mid (fun σ' B' H' => ∃ S G F1, σ' = [some v0, some vm, some (.int (n : Int)), some (.ref r), none, none, none, none] ∧ W14 RA B3 H3 F0 n r 100 B' H' S G F1 ∧ (∀ v, v < n → v ≠ 0 → (S v).leads = false) ∧ (m1 = 1 → Led n S L3 (aLed held)) ∧ (m1 = 0 → (S 0).leads = false)) (fun fin => ?_) ?_
  · refine q_when (K := K) g3.bh (et_test (evd_eqI (evd_ixL (d := .int m1) (evd_v rfl d3) evd_cI rfl) evd_cI)) (fun hb B4 H4 g4 => ?_) fun hb B4 H4 g4 => ?_
    · have hm1 : m1 = 1 := of_decide_eq_true hb
      refine s_dropX ?_
      refine (ea_consV (P := fun B1 vs => DqAll K B1 [.int (n : Int), .int (held : Int)] vs) (ev_var rfl) (ea_cons (evd_vI rfl) (ea_cons (EvD.is (evd_ixL (d := .int m7) (evd_v rfl (d3.mono g4.bb)) evd_cI rfl) (by rw [hh])) ea_nil))) B4 H4 (Gr.refl g4.bh) _ fun ws B5 H5 g5 hv => ?_
      obtain ⟨ws, rfl, hv⟩ := hv
      obtain ⟨w0, ws, rfl, e0, hv⟩ := dqa_cons.mp hv
      obtain ⟨w1, ws, rfl, e1, hv⟩ := dqa_cons.mp hv
      cases dqa_nil.mp hv
      cases dq_int.mp e0
      cases dq_int.mp e1
      have g45 := g4.trans g5
      refine ⟨B5, r, n, F0, held, rfl, g5.bh, O_Room.gr R3 g45, n1, n9, h2, fun B6 H6 S G F1 W6 D6 => ?_⟩
      exact fin _ B6 H6 ⟨S, G, F1, rfl, ⟨g45.fr.trans W6.g, fun a z => (W6.hF a z).imp id (ex_none g45.hh), W6.R, W6.inv, W6.wk⟩, D6.o, fun _ => D6, fun z => by omega⟩
    · have hm1 : m1 ≠ 1 := of_decide_eq_false hb
      exact fin _ B4 H4 ⟨_, _, F0, rfl, W3.gr O_Room g4, fun _ _ _ => rfl, fun z => absurd z hm1, fun _ => rfl⟩
  · rintro σ' B4 H4 ⟨S, G, F1, rfl, W4, oth, led, idle⟩
    have d4 := d3.mono W4.g.bb
    have ft := W4.fit (by omega)
    have okr : ∀ v, v < n → okRow (S v).row := fun v hv => (W4.wk v hv).1
    refine q_asgD (K := K) (d := allD n S) W4.g.bh (evd_all O_Room (ev_var rfl) (evd_vI rfl) W4.R ft n9) fun va B5 H5 g5 da => ?_
    have d5 := d4.mono g5.bb
    have W5 := W4.gr O_Room g5
    -- a number that is no keeper's
    have hw : wrongN n (([-1 - m6, (n : Int), (n : Int) + m6, 10 ^ 20, -(10 ^ 20)] : List Int).getD m2.toNat 0) := by
      have hc : m2 = 0 ∨ m2 = 1 ∨ m2 = 2 ∨ m2 = 3 ∨ m2 = 4 := by omega
      unfold wrongN
      rcases hc with rfl | rfl | rfl | rfl | rfl
      · left; show -1 - m6 < 0; omega
      · right; exact Int.le_refl _
      · right; show (n : Int) ≤ (n : Int) + m6; omega
      · right; show (n : Int) ≤ 10 ^ 20; omega
      · left; show -(10 ^ 20 : Int) < 0; decide
    refine q_asgI (K := K) (i := ([-1 - m6, (n : Int), (n : Int) + m6, 10 ^ 20, -(10 ^ 20)] : List Int).getD m2.toNat 0) g5.bh (evd_pick (xs := [-1 - m6, (n : Int), (n : Int) + m6, 10 ^ 20, -(10 ^ 20)]) (evd_lst (ea_cons (evd_I0 (evd_neg evd_cI) (evd_ixL (d := .int m6) (evd_v rfl d5) evd_cI rfl) rfl) (ea_cons (evd_vI rfl) (ea_cons (evd_I0 (evd_vI rfl) (evd_ixL (d := .int m6) (evd_v rfl d5) evd_cI rfl) rfl) (ea_cons (evd_IC evd_cI evd_cI rfl ⟨by decide, by decide, by decide⟩) (ea_cons (evd_neg (evd_IC (m := 10 ^ 20) evd_cI evd_cI rfl ⟨by decide, by decide, by decide⟩)) ea_nil))))) (show 5 ≤ 100000 by decide)) (evd_ixL (d := .int m2) (evd_v rfl d5) evd_cI rfl) b2.1 b2.2) fun B6 H6 g6 => ?_
    generalize ([-1 - m6, (n : Int), (n : Int) + m6, 10 ^ 20, -(10 ^ 20)] : List Int).getD m2.toNat 0 = wr at hw
    have d6 := d5.mono g6.bb
    obtain ⟨k0, hk0, hk0n⟩ := mod_nat (i := m5) n1
    refine q_asgI (K := K) (i := (k0 : Int)) g6.bh (EvD.is (evd_IC (evd_ixL (d := .int m5) (evd_v rfl d6) evd_cI rfl) (evd_vI rfl) rfl (show (0 : Int) < (n : Int) by omega)) (by rw [hk0])) fun B7 H7 g7 => ?_
    have d7 := d6.mono g7.bb
    have W7 := (W5.gr O_Room g6).gr O_Room g7
    refine q_mid (fun σ' B' H' => ∃ k : Nat, k < n ∧ σ' = [some v0, some vm, some (.int (n : Int)), some (.ref r), some va, some (.int wr), some (.int (k : Int)), none] ∧ Gr B7 H7 B' H') (fun fin => ?_) ?_
    · refine q_when (K := K) g7.bh (et_and (et_test (evd_eqI (evd_ixL (d := .int m1) (evd_v rfl d7) evd_cI rfl) evd_cI)) fun _ => et_test (evd_B0 (evd_ixL (d := .int m6) (evd_v rfl d7) evd_cI rfl) evd_cI rfl)) (fun hb B8 H8 g8 => ?_) fun hb B8 H8 g8 => ?_
      · exact s_asgI (K := K) (i := ((0 : Nat) : Int)) g8.bh evd_cI fun B9 H9 g9 => fin _ B9 H9 ⟨0, n1, rfl, g8.trans g9⟩
      · exact fin _ B8 H8 ⟨k0, hk0n, rfl, g8⟩
    · rintro σ' B8 H8 ⟨k, hk, rfl, g8⟩
      obtain ⟨o, ho, hon⟩ := mod_nat (i := (k : Int) + 1) n1
      refine q_asgI (K := K) (i := (o : Int)) g8.bh (EvD.is (evd_IC (evd_I0 (evd_vI rfl) evd_cI rfl) (evd_vI rfl) rfl (show (0 : Int) < (n : Int) by omega)) (by rw [ho])) fun B9 H9 g9 => ?_
      have g59 := ((g6.trans g7).trans g8).trans g9
      have d9 := d5.mono g59.bb
      have da9 := da.mono g59.bb
      have W9 := W5.gr O_Room g59
      -- refused by NoKeeper, all stays
      refine q_when (K := K) (b := false) g9.bh (et_or0 (et_test (EvD.is (evd_neI (evd_kindOf (k := k) (o := o) (wr := wr) O_Room (ev_var rfl) (evd_ixL (d := .int m3) (evd_v rfl d9) evd_cI rfl) (evd_vI rfl) (evd_vI rfl) (evd_vI rfl) W9.R hk hon hw) evd_cI) rfl)) (et_test (EvD.is (evd_neD (evd_all O_Room (ev_var rfl) (evd_vI rfl) W9.R ft n9) (evd_v rfl da9) (shaped_all okr) (shaped_all okr)) (by rw [eqv_all okr]; rfl)))) (fun z => nomatch z) fun _ Ba Ha ga => ?_
      have Wa := W9.gr O_Room ga
      have da := d9.mono ga.bb
      have daa := da9.mono ga.bb
      -- by one that does not lead
      refine q_mid (fun σ' B' H' => ∃ F2, σ' = [some v0, some vm, some (.int (n : Int)), some (.ref r), some va, some (.int wr), some (.int (k : Int)), some (.int (o : Int))] ∧ W14 RA B3 H3 F0 n r 100 B' H' S G F2 ∧ Evl.Ex Ba B') (fun fin => ?_) ?_
      · refine q_when (K := K) ga.bh (et_or (et_test (evd_eqI (evd_ixL (d := .int m1) (evd_v rfl da) evd_cI rfl) evd_cI)) fun _ => et_test (evd_B0 (evd_vI rfl) evd_cI rfl)) (fun hb Bb Hb gb => ?_) fun hb Bb Hb gb => ?_
        · have hl : (S k).leads = false := by
            by_cases e : k = 0
            · subst e
              rcases Bool.or_eq_true_iff.mp hb with h | h
              · exact idle (of_decide_eq_true h)
              · have := of_decide_eq_true h
                omega
            · exact oth k hk e
          have Wb := Wa.gr O_Room gb
          refine s_ifOrX (m_idleKind (K := K) (k := k) (o := o) O_Room gb.bh (ev_var rfl) (evd_ixL (d := .int m4) (evd_v rfl (da.mono gb.bb)) evd_cI rfl) (evd_vI rfl) (evd_vI rfl) Wb.R ft n9 hk hon hl fun Bc Hc F2 gc hF2 R2 => ?_)
          refine tC_ne ?_
          refine ⟨false, rfl, ?_⟩
          rw [if_neg (by decide)]
          have Wc : W14 RA B3 H3 F0 n r 100 Bc Hc S G F2 := ⟨Wb.g.trans' gc Wb.hF, fun a z => (hF2 a z).elim (Wb.hF a) fun z => .inr (Wb.g.back z), R2, Wb.inv, Wb.wk⟩
          refine s_ifOpX (m_caught (K := K) (k := k) (o := o) (wr := wr) O_Room gc.bh (ev_var rfl) (evd_vI rfl) (evd_vI rfl) (evd_vI rfl) Wc.R ft n9 hk hw hl fun Bd Hd F3 gd hF3 R3 => ?_)
          refine tC_ne ?_
          refine ⟨false, rfl, ?_⟩
          rw [if_neg (by decide)]
          exact fin _ Bd Hd ⟨F3, rfl, ⟨Wc.g.trans' gd Wc.hF, fun a z => (hF3 a z).elim (Wc.hF a) fun z => .inr (Wc.g.back z), R3, Wc.inv, Wc.wk⟩, gb.bb.trans (gc.bb.trans gd.bb)⟩
        · exact fin _ Bb Hb ⟨F1, rfl, Wa.gr O_Room gb, gb.bb⟩
      · rintro σ' Bb Hb ⟨F2, rfl, Wb, eb2⟩
        have db := da.mono eb2
        have dab := daa.mono eb2
        refine q_mid (fun σ' B' H' => σ' = [some v0, some vm, some (.int (n : Int)), some (.ref r), some va, some (.int wr), some (.int (k : Int)), some (.int (o : Int))] ∧ GrF F0 B3 H3 B' H' ∧ Evl.Ex Bb B') (fun fin => ?_) ?_
        · refine q_ifOrT (K := K) (b := false) Wb.g.bh (et_test (EvD.is (evd_neD (evd_all O_Room (ev_var rfl) (evd_vI rfl) Wb.R ft n9) (evd_v rfl dab) (shaped_all okr) (shaped_all okr)) (by rw [eqv_all okr]; rfl))) (fun z => nomatch z) fun _ Bc Hc gc => ?_
          have dc := db.mono gc.bb
          have Wc := Wb.gr O_Room gc
          refine q_ifAndX (K := K) gc.bh (et_test (evd_eqI (evd_ixL (d := .int m1) (evd_v rfl dc) evd_cI rfl) evd_cI)) (fun hb Bd Hd gd => ?_) fun hb Bd Hd gd => ?_
          · have hm1 : m1 = 1 := of_decide_eq_true hb
            have Wd := Wc.gr O_Room gd
            refine q_ifNotX ?_
            refine (ea_consV (P := fun B1 vs => DqAll K B1 [.int (n : Int), .int (held : Int)] vs) (ev_var rfl) (ea_cons (evd_vI rfl) (ea_cons (EvD.is (evd_ixL (d := .int m7) (evd_v rfl (dc.mono gd.bb)) evd_cI rfl) (by rw [hh])) ea_nil))) Bd Hd (Gr.refl gd.bh) _ fun ws Be He ge hv => ?_
            obtain ⟨ws, rfl, hv⟩ := hv
            obtain ⟨w0, ws, rfl, e0, hv⟩ := dqa_cons.mp hv
            obtain ⟨w1, ws, rfl, e1, hv⟩ := dqa_cons.mp hv
            cases dqa_nil.mp hv
            cases dq_int.mp e0
            cases dq_int.mp e1
            have We := Wd.gr O_Room ge
            refine ⟨Be, r, n, S, G, F2, held, rfl, ge.bh, We.R, We.inv, We.wk, led hm1, n1, n9, h2, fun Bf Hf gf => ⟨true, rfl, ?_⟩⟩
            rw [if_neg (by decide)]
            exact fin _ Bf Hf ⟨rfl, We.g.trans' gf We.hF, (gc.trans (gd.trans ge)).bb.trans gf.bb⟩
          · exact fin _ Bd Hd ⟨rfl, (Wc.gr O_Room gd).g, (gc.trans gd).bb⟩
        · rintro σ' Bc Hc ⟨rfl, gc, ec⟩
          have dc := db.mono ec
          -- a count that no room has
          obtain ⟨x, hx, hb⟩ : ∃ x, atI ([.int 0, .int (-1), .int 10, .int (10 ^ 20), .int (-5), .bool true, .bool false, .none, .str (PySem.Str.ofString "3"), .list [.int 3], .tuple [.int 3]] : List PyData) m8 = some x ∧ badCount x := by
            have hc : m8 = 0 ∨ m8 = 1 ∨ m8 = 2 ∨ m8 = 3 ∨ m8 = 4 ∨ m8 = 5 ∨ m8 = 6 ∨ m8 = 7 ∨ m8 = 8 ∨ m8 = 9 ∨ m8 = 10 := by omega
            rcases hc with rfl | rfl | rfl | rfl | rfl | rfl | rfl | rfl | rfl | rfl | rfl
            · exact ⟨_, rfl, .inl (by decide)⟩
            · exact ⟨_, rfl, .inl (by decide)⟩
            · exact ⟨_, rfl, .inr (by decide)⟩
            · exact ⟨_, rfl, .inr (by decide)⟩
            · exact ⟨_, rfl, .inl (by decide)⟩
            · exact ⟨_, rfl, trivial⟩
            · exact ⟨_, rfl, trivial⟩
            · exact ⟨_, rfl, trivial⟩
            · exact ⟨_, rfl, trivial⟩
            · exact ⟨_, rfl, trivial⟩
            · exact ⟨_, rfl, trivial⟩
          refine _root_.G.s_ret (K := K) (d := .bool true) gc.bh (evd_call (ea_cons (evd_ixL (evd_lst (ea_cons evd_cI (ea_cons (evd_neg evd_cI) (ea_cons evd_cI (ea_cons (evd_IC evd_cI evd_cI rfl ⟨by decide, by decide, by decide⟩) (ea_cons (evd_neg evd_cI) (ea_cons evd_cB (ea_cons evd_cB (ea_cons evd_cN (ea_cons evd_cS (ea_cons (evd_lst (ea_cons evd_cI ea_nil) (show 1 ≤ 100000 by decide)) (ea_cons (evd_tup (ea_cons evd_cI ea_nil) (show 1 ≤ 100000 by decide)) ea_nil))))))))))) (show 11 ≤ 100000 by decide)) (evd_ixL (d := .int m8) (evd_v rfl dc) evd_cI rfl) hx) ea_nil) ⟨x, rfl, hb, rfl⟩) fun v Bd Hd gd p => ?_
          exact q v Bd Hd ((hb3.fr.trans (gc.trans gd.fr)).new fresh) p
end

theorem all_mk {l : PySem.W.OpenLaw} {w : World} {K : PySem.W.Frag} {h : Heap} {mg : Str → Option Value} {fa f_last_term f_as_new f_agrees f_filled f_settled_by f_most_held f_Keeper___init__ f_Keeper_hear f_Keeper_asked f_Room___init__ f_Room_stand f_Room_write f_Room_hand f_Room_settle f_Room_rest f_Room_term_of f_Room_row_of f_Room_leading f_Room_settled_of f_Room_keeper f_Room_other_keeper f_Room_leader f_Room_begin f_law_cell_at f_law_mixed f_law_drawn f_law_asked f_law_done f_law_idle f_law_kind f_law_kind_of f_law_idle_kind f_law_caught f_law_no_room f_law_all_of f_law_led f_law_leads_on f_law C_NoKeeper C_NoRoom C_NotLeading C_OutOfPlace C_RoomError C_Keeper C_Room : Addr} (X : K.In h) (G : h.Ns mainGlobals mg) (hfa : mg "law" = some (.ref fa))
    (gC_Room : PySem.W.nsIn K mainGlobals "Room" = some (some (.ref C_Room)))
    (gC_Keeper : PySem.W.nsIn K mainGlobals "Keeper" = some (some (.ref C_Keeper)))
    {od0 an0 : Option Addr} {sl0 : Array (Option Value)} {oc0 kV0 dc0 pm0 cd0 ct0 : Value} (a0 : PySem.W.nsIn K mainGlobals "last_term" = some (some (.ref f_last_term)))
    (l0 : K.lookup f_last_term = some ⟨oc0, od0, .func (PySem.W.fnOf "last_term" "last_term" (defArgs s_last_term) (defBody s_last_term) (defScope s_last_term) .none kV0 dc0 pm0 an0 cd0 ct0), sl0⟩) (e0 : PySem.W.codeIn K cd0 "last_term" = true) (k0 : PySem.W.keepIn K (.ref f_last_term) = true)
    {od1 an1 : Option Addr} {sl1 : Array (Option Value)} {oc1 kV1 dc1 pm1 cd1 ct1 : Value} (a1 : PySem.W.nsIn K mainGlobals "as_new" = some (some (.ref f_as_new)))
    (l1 : K.lookup f_as_new = some ⟨oc1, od1, .func (PySem.W.fnOf "as_new" "as_new" (defArgs s_as_new) (defBody s_as_new) (defScope s_as_new) .none kV1 dc1 pm1 an1 cd1 ct1), sl1⟩) (e1 : PySem.W.codeIn K cd1 "as_new" = true) (k1 : PySem.W.keepIn K (.ref f_as_new) = true)
    {od2 an2 : Option Addr} {sl2 : Array (Option Value)} {oc2 kV2 dc2 pm2 cd2 ct2 : Value} (a2 : PySem.W.nsIn K mainGlobals "agrees" = some (some (.ref f_agrees)))
    (l2 : K.lookup f_agrees = some ⟨oc2, od2, .func (PySem.W.fnOf "agrees" "agrees" (defArgs s_agrees) (defBody s_agrees) (defScope s_agrees) .none kV2 dc2 pm2 an2 cd2 ct2), sl2⟩) (e2 : PySem.W.codeIn K cd2 "agrees" = true) (k2 : PySem.W.keepIn K (.ref f_agrees) = true)
    {od3 an3 : Option Addr} {sl3 : Array (Option Value)} {oc3 kV3 dc3 pm3 cd3 ct3 : Value} (a3 : PySem.W.nsIn K mainGlobals "filled" = some (some (.ref f_filled)))
    (l3 : K.lookup f_filled = some ⟨oc3, od3, .func (PySem.W.fnOf "filled" "filled" (defArgs s_filled) (defBody s_filled) (defScope s_filled) .none kV3 dc3 pm3 an3 cd3 ct3), sl3⟩) (e3 : PySem.W.codeIn K cd3 "filled" = true) (k3 : PySem.W.keepIn K (.ref f_filled) = true)
    {od4 an4 : Option Addr} {sl4 : Array (Option Value)} {oc4 kV4 dc4 pm4 cd4 ct4 : Value} (a4 : PySem.W.nsIn K mainGlobals "settled_by" = some (some (.ref f_settled_by)))
    (l4 : K.lookup f_settled_by = some ⟨oc4, od4, .func (PySem.W.fnOf "settled_by" "settled_by" (defArgs s_settled_by) (defBody s_settled_by) (defScope s_settled_by) .none kV4 dc4 pm4 an4 cd4 ct4), sl4⟩) (e4 : PySem.W.codeIn K cd4 "settled_by" = true) (k4 : PySem.W.keepIn K (.ref f_settled_by) = true)
    {od5 an5 : Option Addr} {sl5 : Array (Option Value)} {oc5 kV5 dc5 pm5 cd5 ct5 : Value} (a5 : PySem.W.nsIn K mainGlobals "most_held" = some (some (.ref f_most_held)))
    (l5 : K.lookup f_most_held = some ⟨oc5, od5, .func (PySem.W.fnOf "most_held" "most_held" (defArgs s_most_held) (defBody s_most_held) (defScope s_most_held) .none kV5 dc5 pm5 an5 cd5 ct5), sl5⟩) (e5 : PySem.W.codeIn K cd5 "most_held" = true) (k5 : PySem.W.keepIn K (.ref f_most_held) = true)
    {od6 an6 : Option Addr} {sl6 : Array (Option Value)} {oc6 kV6 dc6 pm6 cd6 ct6 : Value} (a6 : PySem.W.findIn K (.ref C_Keeper) "__init__" = some (some (.ref f_Keeper___init__))) (i6 : PySem.W.isFn K (.ref f_Keeper___init__) = true)
    (l6 : K.lookup f_Keeper___init__ = some ⟨oc6, od6, .func (PySem.W.fnOf "__init__" "Keeper.__init__" (defArgs s_Keeper___init__) (defBody s_Keeper___init__) (defScope s_Keeper___init__) .none kV6 dc6 pm6 an6 cd6 ct6), sl6⟩) (e6 : PySem.W.codeIn K cd6 "Keeper.__init__" = true) (k6 : PySem.W.keepIn K (.ref f_Keeper___init__) = true)
    {od7 an7 : Option Addr} {sl7 : Array (Option Value)} {oc7 kV7 dc7 pm7 cd7 ct7 : Value} (a7 : PySem.W.findIn K (.ref C_Keeper) "hear" = some (some (.ref f_Keeper_hear))) (i7 : PySem.W.isFn K (.ref f_Keeper_hear) = true)
    (l7 : K.lookup f_Keeper_hear = some ⟨oc7, od7, .func (PySem.W.fnOf "hear" "Keeper.hear" (defArgs s_Keeper_hear) (defBody s_Keeper_hear) (defScope s_Keeper_hear) .none kV7 dc7 pm7 an7 cd7 ct7), sl7⟩) (e7 : PySem.W.codeIn K cd7 "Keeper.hear" = true) (k7 : PySem.W.keepIn K (.ref f_Keeper_hear) = true)
    {od8 an8 : Option Addr} {sl8 : Array (Option Value)} {oc8 kV8 dc8 pm8 cd8 ct8 : Value} (a8 : PySem.W.findIn K (.ref C_Keeper) "asked" = some (some (.ref f_Keeper_asked))) (i8 : PySem.W.isFn K (.ref f_Keeper_asked) = true)
    (l8 : K.lookup f_Keeper_asked = some ⟨oc8, od8, .func (PySem.W.fnOf "asked" "Keeper.asked" (defArgs s_Keeper_asked) (defBody s_Keeper_asked) (defScope s_Keeper_asked) .none kV8 dc8 pm8 an8 cd8 ct8), sl8⟩) (e8 : PySem.W.codeIn K cd8 "Keeper.asked" = true) (k8 : PySem.W.keepIn K (.ref f_Keeper_asked) = true)
    {od9 an9 : Option Addr} {sl9 : Array (Option Value)} {oc9 kV9 dc9 pm9 cd9 ct9 : Value} (a9 : PySem.W.findIn K (.ref C_Room) "__init__" = some (some (.ref f_Room___init__))) (i9 : PySem.W.isFn K (.ref f_Room___init__) = true)
    (l9 : K.lookup f_Room___init__ = some ⟨oc9, od9, .func (PySem.W.fnOf "__init__" "Room.__init__" (defArgs s_Room___init__) (defBody s_Room___init__) (defScope s_Room___init__) .none kV9 dc9 pm9 an9 cd9 ct9), sl9⟩) (e9 : PySem.W.codeIn K cd9 "Room.__init__" = true) (k9 : PySem.W.keepIn K (.ref f_Room___init__) = true)
    {od10 an10 : Option Addr} {sl10 : Array (Option Value)} {oc10 kV10 dc10 pm10 cd10 ct10 : Value} (a10 : PySem.W.findIn K (.ref C_Room) "stand" = some (some (.ref f_Room_stand))) (i10 : PySem.W.isFn K (.ref f_Room_stand) = true)
    (l10 : K.lookup f_Room_stand = some ⟨oc10, od10, .func (PySem.W.fnOf "stand" "Room.stand" (defArgs s_Room_stand) (defBody s_Room_stand) (defScope s_Room_stand) .none kV10 dc10 pm10 an10 cd10 ct10), sl10⟩) (e10 : PySem.W.codeIn K cd10 "Room.stand" = true) (k10 : PySem.W.keepIn K (.ref f_Room_stand) = true)
    {od11 an11 : Option Addr} {sl11 : Array (Option Value)} {oc11 kV11 dc11 pm11 cd11 ct11 : Value} (a11 : PySem.W.findIn K (.ref C_Room) "write" = some (some (.ref f_Room_write))) (i11 : PySem.W.isFn K (.ref f_Room_write) = true)
    (l11 : K.lookup f_Room_write = some ⟨oc11, od11, .func (PySem.W.fnOf "write" "Room.write" (defArgs s_Room_write) (defBody s_Room_write) (defScope s_Room_write) .none kV11 dc11 pm11 an11 cd11 ct11), sl11⟩) (e11 : PySem.W.codeIn K cd11 "Room.write" = true) (k11 : PySem.W.keepIn K (.ref f_Room_write) = true)
    {od12 an12 : Option Addr} {sl12 : Array (Option Value)} {oc12 kV12 dc12 pm12 cd12 ct12 : Value} (a12 : PySem.W.findIn K (.ref C_Room) "hand" = some (some (.ref f_Room_hand))) (i12 : PySem.W.isFn K (.ref f_Room_hand) = true)
    (l12 : K.lookup f_Room_hand = some ⟨oc12, od12, .func (PySem.W.fnOf "hand" "Room.hand" (defArgs s_Room_hand) (defBody s_Room_hand) (defScope s_Room_hand) .none kV12 dc12 pm12 an12 cd12 ct12), sl12⟩) (e12 : PySem.W.codeIn K cd12 "Room.hand" = true) (k12 : PySem.W.keepIn K (.ref f_Room_hand) = true)
    {od13 an13 : Option Addr} {sl13 : Array (Option Value)} {oc13 kV13 dc13 pm13 cd13 ct13 : Value} (a13 : PySem.W.findIn K (.ref C_Room) "settle" = some (some (.ref f_Room_settle))) (i13 : PySem.W.isFn K (.ref f_Room_settle) = true)
    (l13 : K.lookup f_Room_settle = some ⟨oc13, od13, .func (PySem.W.fnOf "settle" "Room.settle" (defArgs s_Room_settle) (defBody s_Room_settle) (defScope s_Room_settle) .none kV13 dc13 pm13 an13 cd13 ct13), sl13⟩) (e13 : PySem.W.codeIn K cd13 "Room.settle" = true) (k13 : PySem.W.keepIn K (.ref f_Room_settle) = true)
    {od14 an14 : Option Addr} {sl14 : Array (Option Value)} {oc14 kV14 dc14 pm14 cd14 ct14 : Value} (a14 : PySem.W.findIn K (.ref C_Room) "rest" = some (some (.ref f_Room_rest))) (i14 : PySem.W.isFn K (.ref f_Room_rest) = true)
    (l14 : K.lookup f_Room_rest = some ⟨oc14, od14, .func (PySem.W.fnOf "rest" "Room.rest" (defArgs s_Room_rest) (defBody s_Room_rest) (defScope s_Room_rest) .none kV14 dc14 pm14 an14 cd14 ct14), sl14⟩) (e14 : PySem.W.codeIn K cd14 "Room.rest" = true) (k14 : PySem.W.keepIn K (.ref f_Room_rest) = true)
    {od15 an15 : Option Addr} {sl15 : Array (Option Value)} {oc15 kV15 dc15 pm15 cd15 ct15 : Value} (a15 : PySem.W.findIn K (.ref C_Room) "term_of" = some (some (.ref f_Room_term_of))) (i15 : PySem.W.isFn K (.ref f_Room_term_of) = true)
    (l15 : K.lookup f_Room_term_of = some ⟨oc15, od15, .func (PySem.W.fnOf "term_of" "Room.term_of" (defArgs s_Room_term_of) (defBody s_Room_term_of) (defScope s_Room_term_of) .none kV15 dc15 pm15 an15 cd15 ct15), sl15⟩) (e15 : PySem.W.codeIn K cd15 "Room.term_of" = true) (k15 : PySem.W.keepIn K (.ref f_Room_term_of) = true)
    {od16 an16 : Option Addr} {sl16 : Array (Option Value)} {oc16 kV16 dc16 pm16 cd16 ct16 : Value} (a16 : PySem.W.findIn K (.ref C_Room) "row_of" = some (some (.ref f_Room_row_of))) (i16 : PySem.W.isFn K (.ref f_Room_row_of) = true)
    (l16 : K.lookup f_Room_row_of = some ⟨oc16, od16, .func (PySem.W.fnOf "row_of" "Room.row_of" (defArgs s_Room_row_of) (defBody s_Room_row_of) (defScope s_Room_row_of) .none kV16 dc16 pm16 an16 cd16 ct16), sl16⟩) (e16 : PySem.W.codeIn K cd16 "Room.row_of" = true) (k16 : PySem.W.keepIn K (.ref f_Room_row_of) = true)
    {od17 an17 : Option Addr} {sl17 : Array (Option Value)} {oc17 kV17 dc17 pm17 cd17 ct17 : Value} (a17 : PySem.W.findIn K (.ref C_Room) "leading" = some (some (.ref f_Room_leading))) (i17 : PySem.W.isFn K (.ref f_Room_leading) = true)
    (l17 : K.lookup f_Room_leading = some ⟨oc17, od17, .func (PySem.W.fnOf "leading" "Room.leading" (defArgs s_Room_leading) (defBody s_Room_leading) (defScope s_Room_leading) .none kV17 dc17 pm17 an17 cd17 ct17), sl17⟩) (e17 : PySem.W.codeIn K cd17 "Room.leading" = true) (k17 : PySem.W.keepIn K (.ref f_Room_leading) = true)
    {od18 an18 : Option Addr} {sl18 : Array (Option Value)} {oc18 kV18 dc18 pm18 cd18 ct18 : Value} (a18 : PySem.W.findIn K (.ref C_Room) "settled_of" = some (some (.ref f_Room_settled_of))) (i18 : PySem.W.isFn K (.ref f_Room_settled_of) = true)
    (l18 : K.lookup f_Room_settled_of = some ⟨oc18, od18, .func (PySem.W.fnOf "settled_of" "Room.settled_of" (defArgs s_Room_settled_of) (defBody s_Room_settled_of) (defScope s_Room_settled_of) .none kV18 dc18 pm18 an18 cd18 ct18), sl18⟩) (e18 : PySem.W.codeIn K cd18 "Room.settled_of" = true) (k18 : PySem.W.keepIn K (.ref f_Room_settled_of) = true)
    {od19 an19 : Option Addr} {sl19 : Array (Option Value)} {oc19 kV19 dc19 pm19 cd19 ct19 : Value} (a19 : PySem.W.findIn K (.ref C_Room) "keeper" = some (some (.ref f_Room_keeper))) (i19 : PySem.W.isFn K (.ref f_Room_keeper) = true)
    (l19 : K.lookup f_Room_keeper = some ⟨oc19, od19, .func (PySem.W.fnOf "keeper" "Room.keeper" (defArgs s_Room_keeper) (defBody s_Room_keeper) (defScope s_Room_keeper) .none kV19 dc19 pm19 an19 cd19 ct19), sl19⟩) (e19 : PySem.W.codeIn K cd19 "Room.keeper" = true) (k19 : PySem.W.keepIn K (.ref f_Room_keeper) = true)
    {od20 an20 : Option Addr} {sl20 : Array (Option Value)} {oc20 kV20 dc20 pm20 cd20 ct20 : Value} (a20 : PySem.W.findIn K (.ref C_Room) "other_keeper" = some (some (.ref f_Room_other_keeper))) (i20 : PySem.W.isFn K (.ref f_Room_other_keeper) = true)
    (l20 : K.lookup f_Room_other_keeper = some ⟨oc20, od20, .func (PySem.W.fnOf "other_keeper" "Room.other_keeper" (defArgs s_Room_other_keeper) (defBody s_Room_other_keeper) (defScope s_Room_other_keeper) .none kV20 dc20 pm20 an20 cd20 ct20), sl20⟩) (e20 : PySem.W.codeIn K cd20 "Room.other_keeper" = true) (k20 : PySem.W.keepIn K (.ref f_Room_other_keeper) = true)
    {od21 an21 : Option Addr} {sl21 : Array (Option Value)} {oc21 kV21 dc21 pm21 cd21 ct21 : Value} (a21 : PySem.W.findIn K (.ref C_Room) "leader" = some (some (.ref f_Room_leader))) (i21 : PySem.W.isFn K (.ref f_Room_leader) = true)
    (l21 : K.lookup f_Room_leader = some ⟨oc21, od21, .func (PySem.W.fnOf "leader" "Room.leader" (defArgs s_Room_leader) (defBody s_Room_leader) (defScope s_Room_leader) .none kV21 dc21 pm21 an21 cd21 ct21), sl21⟩) (e21 : PySem.W.codeIn K cd21 "Room.leader" = true) (k21 : PySem.W.keepIn K (.ref f_Room_leader) = true)
    {od22 an22 : Option Addr} {sl22 : Array (Option Value)} {oc22 kV22 dc22 pm22 cd22 ct22 : Value} (a22 : PySem.W.findIn K (.ref C_Room) "begin" = some (some (.ref f_Room_begin))) (i22 : PySem.W.isFn K (.ref f_Room_begin) = true)
    (l22 : K.lookup f_Room_begin = some ⟨oc22, od22, .func (PySem.W.fnOf "begin" "Room.begin" (defArgs s_Room_begin) (defBody s_Room_begin) (defScope s_Room_begin) .none kV22 dc22 pm22 an22 cd22 ct22), sl22⟩) (e22 : PySem.W.codeIn K cd22 "Room.begin" = true) (k22 : PySem.W.keepIn K (.ref f_Room_begin) = true)
    {od23 an23 : Option Addr} {sl23 : Array (Option Value)} {oc23 kV23 dc23 pm23 cd23 ct23 : Value} (a23 : PySem.W.nsIn K mainGlobals "_law_cell_at" = some (some (.ref f_law_cell_at)))
    (l23 : K.lookup f_law_cell_at = some ⟨oc23, od23, .func (PySem.W.fnOf "_law_cell_at" "_law_cell_at" (defArgs s_law_cell_at) (defBody s_law_cell_at) (defScope s_law_cell_at) .none kV23 dc23 pm23 an23 cd23 ct23), sl23⟩) (e23 : PySem.W.codeIn K cd23 "_law_cell_at" = true) (k23 : PySem.W.keepIn K (.ref f_law_cell_at) = true)
    {od24 an24 : Option Addr} {sl24 : Array (Option Value)} {oc24 kV24 dc24 pm24 cd24 ct24 : Value} (a24 : PySem.W.nsIn K mainGlobals "_law_mixed" = some (some (.ref f_law_mixed)))
    (l24 : K.lookup f_law_mixed = some ⟨oc24, od24, .func (PySem.W.fnOf "_law_mixed" "_law_mixed" (defArgs s_law_mixed) (defBody s_law_mixed) (defScope s_law_mixed) .none kV24 dc24 pm24 an24 cd24 ct24), sl24⟩) (e24 : PySem.W.codeIn K cd24 "_law_mixed" = true) (k24 : PySem.W.keepIn K (.ref f_law_mixed) = true)
    {od25 an25 : Option Addr} {sl25 : Array (Option Value)} {oc25 kV25 dc25 pm25 cd25 ct25 : Value} (a25 : PySem.W.nsIn K mainGlobals "_law_drawn" = some (some (.ref f_law_drawn)))
    (l25 : K.lookup f_law_drawn = some ⟨oc25, od25, .func (PySem.W.fnOf "_law_drawn" "_law_drawn" (defArgs s_law_drawn) (defBody s_law_drawn) (defScope s_law_drawn) .none kV25 dc25 pm25 an25 cd25 ct25), sl25⟩) (e25 : PySem.W.codeIn K cd25 "_law_drawn" = true) (k25 : PySem.W.keepIn K (.ref f_law_drawn) = true)
    {od26 an26 : Option Addr} {sl26 : Array (Option Value)} {oc26 kV26 dc26 pm26 cd26 ct26 : Value} (a26 : PySem.W.nsIn K mainGlobals "_law_asked" = some (some (.ref f_law_asked)))
    (l26 : K.lookup f_law_asked = some ⟨oc26, od26, .func (PySem.W.fnOf "_law_asked" "_law_asked" (defArgs s_law_asked) (defBody s_law_asked) (defScope s_law_asked) .none kV26 dc26 pm26 an26 cd26 ct26), sl26⟩) (e26 : PySem.W.codeIn K cd26 "_law_asked" = true) (k26 : PySem.W.keepIn K (.ref f_law_asked) = true)
    {od27 an27 : Option Addr} {sl27 : Array (Option Value)} {oc27 kV27 dc27 pm27 cd27 ct27 : Value} (a27 : PySem.W.nsIn K mainGlobals "_law_done" = some (some (.ref f_law_done)))
    (l27 : K.lookup f_law_done = some ⟨oc27, od27, .func (PySem.W.fnOf "_law_done" "_law_done" (defArgs s_law_done) (defBody s_law_done) (defScope s_law_done) .none kV27 dc27 pm27 an27 cd27 ct27), sl27⟩) (e27 : PySem.W.codeIn K cd27 "_law_done" = true) (k27 : PySem.W.keepIn K (.ref f_law_done) = true)
    {od28 an28 : Option Addr} {sl28 : Array (Option Value)} {oc28 kV28 dc28 pm28 cd28 ct28 : Value} (a28 : PySem.W.nsIn K mainGlobals "_law_idle" = some (some (.ref f_law_idle)))
    (l28 : K.lookup f_law_idle = some ⟨oc28, od28, .func (PySem.W.fnOf "_law_idle" "_law_idle" (defArgs s_law_idle) (defBody s_law_idle) (defScope s_law_idle) .none kV28 dc28 pm28 an28 cd28 ct28), sl28⟩) (e28 : PySem.W.codeIn K cd28 "_law_idle" = true) (k28 : PySem.W.keepIn K (.ref f_law_idle) = true)
    {od29 an29 : Option Addr} {sl29 : Array (Option Value)} {oc29 kV29 dc29 pm29 cd29 ct29 : Value} (a29 : PySem.W.nsIn K mainGlobals "_law_kind" = some (some (.ref f_law_kind)))
    (l29 : K.lookup f_law_kind = some ⟨oc29, od29, .func (PySem.W.fnOf "_law_kind" "_law_kind" (defArgs s_law_kind) (defBody s_law_kind) (defScope s_law_kind) .none kV29 dc29 pm29 an29 cd29 ct29), sl29⟩) (e29 : PySem.W.codeIn K cd29 "_law_kind" = true) (k29 : PySem.W.keepIn K (.ref f_law_kind) = true)
    {od30 an30 : Option Addr} {sl30 : Array (Option Value)} {oc30 kV30 dc30 pm30 cd30 ct30 : Value} (a30 : PySem.W.nsIn K mainGlobals "_law_kind_of" = some (some (.ref f_law_kind_of)))
    (l30 : K.lookup f_law_kind_of = some ⟨oc30, od30, .func (PySem.W.fnOf "_law_kind_of" "_law_kind_of" (defArgs s_law_kind_of) (defBody s_law_kind_of) (defScope s_law_kind_of) .none kV30 dc30 pm30 an30 cd30 ct30), sl30⟩) (e30 : PySem.W.codeIn K cd30 "_law_kind_of" = true) (k30 : PySem.W.keepIn K (.ref f_law_kind_of) = true)
    {od31 an31 : Option Addr} {sl31 : Array (Option Value)} {oc31 kV31 dc31 pm31 cd31 ct31 : Value} (a31 : PySem.W.nsIn K mainGlobals "_law_idle_kind" = some (some (.ref f_law_idle_kind)))
    (l31 : K.lookup f_law_idle_kind = some ⟨oc31, od31, .func (PySem.W.fnOf "_law_idle_kind" "_law_idle_kind" (defArgs s_law_idle_kind) (defBody s_law_idle_kind) (defScope s_law_idle_kind) .none kV31 dc31 pm31 an31 cd31 ct31), sl31⟩) (e31 : PySem.W.codeIn K cd31 "_law_idle_kind" = true) (k31 : PySem.W.keepIn K (.ref f_law_idle_kind) = true)
    {od32 an32 : Option Addr} {sl32 : Array (Option Value)} {oc32 kV32 dc32 pm32 cd32 ct32 : Value} (a32 : PySem.W.nsIn K mainGlobals "_law_caught" = some (some (.ref f_law_caught)))
    (l32 : K.lookup f_law_caught = some ⟨oc32, od32, .func (PySem.W.fnOf "_law_caught" "_law_caught" (defArgs s_law_caught) (defBody s_law_caught) (defScope s_law_caught) .none kV32 dc32 pm32 an32 cd32 ct32), sl32⟩) (e32 : PySem.W.codeIn K cd32 "_law_caught" = true) (k32 : PySem.W.keepIn K (.ref f_law_caught) = true)
    {od33 an33 : Option Addr} {sl33 : Array (Option Value)} {oc33 kV33 dc33 pm33 cd33 ct33 : Value} (a33 : PySem.W.nsIn K mainGlobals "_law_no_room" = some (some (.ref f_law_no_room)))
    (l33 : K.lookup f_law_no_room = some ⟨oc33, od33, .func (PySem.W.fnOf "_law_no_room" "_law_no_room" (defArgs s_law_no_room) (defBody s_law_no_room) (defScope s_law_no_room) .none kV33 dc33 pm33 an33 cd33 ct33), sl33⟩) (e33 : PySem.W.codeIn K cd33 "_law_no_room" = true) (k33 : PySem.W.keepIn K (.ref f_law_no_room) = true)
    {od34 an34 : Option Addr} {sl34 : Array (Option Value)} {oc34 kV34 dc34 pm34 cd34 ct34 : Value} (a34 : PySem.W.nsIn K mainGlobals "_law_all_of" = some (some (.ref f_law_all_of)))
    (l34 : K.lookup f_law_all_of = some ⟨oc34, od34, .func (PySem.W.fnOf "_law_all_of" "_law_all_of" (defArgs s_law_all_of) (defBody s_law_all_of) (defScope s_law_all_of) .none kV34 dc34 pm34 an34 cd34 ct34), sl34⟩) (e34 : PySem.W.codeIn K cd34 "_law_all_of" = true) (k34 : PySem.W.keepIn K (.ref f_law_all_of) = true)
    {od35 an35 : Option Addr} {sl35 : Array (Option Value)} {oc35 kV35 dc35 pm35 cd35 ct35 : Value} (a35 : PySem.W.nsIn K mainGlobals "_law_led" = some (some (.ref f_law_led)))
    (l35 : K.lookup f_law_led = some ⟨oc35, od35, .func (PySem.W.fnOf "_law_led" "_law_led" (defArgs s_law_led) (defBody s_law_led) (defScope s_law_led) .none kV35 dc35 pm35 an35 cd35 ct35), sl35⟩) (e35 : PySem.W.codeIn K cd35 "_law_led" = true) (k35 : PySem.W.keepIn K (.ref f_law_led) = true)
    {od36 an36 : Option Addr} {sl36 : Array (Option Value)} {oc36 kV36 dc36 pm36 cd36 ct36 : Value} (a36 : PySem.W.nsIn K mainGlobals "_law_leads_on" = some (some (.ref f_law_leads_on)))
    (l36 : K.lookup f_law_leads_on = some ⟨oc36, od36, .func (PySem.W.fnOf "_law_leads_on" "_law_leads_on" (defArgs s_law_leads_on) (defBody s_law_leads_on) (defScope s_law_leads_on) .none kV36 dc36 pm36 an36 cd36 ct36), sl36⟩) (e36 : PySem.W.codeIn K cd36 "_law_leads_on" = true) (k36 : PySem.W.keepIn K (.ref f_law_leads_on) = true)
    {od37 an37 : Option Addr} {sl37 : Array (Option Value)} {oc37 kV37 dc37 pm37 cd37 ct37 : Value} (a37 : PySem.W.nsIn K mainGlobals "law" = some (some (.ref f_law)))
    (l37 : K.lookup f_law = some ⟨oc37, od37, .func (PySem.W.fnOf "law" "law" (defArgs s_law) (defBody s_law) (defScope s_law) .none kV37 dc37 pm37 an37 cd37 ct37), sl37⟩) (e37 : PySem.W.codeIn K cd37 "law" = true) (k37 : PySem.W.keepIn K (.ref f_law) = true)
    (z_ValueError : PySem.W.nsIn K mainGlobals "ValueError" = some none)
    (z_abs : PySem.W.nsIn K mainGlobals "abs" = some none)
    (z_bool : PySem.W.nsIn K mainGlobals "bool" = some none)
    (z_enumerate : PySem.W.nsIn K mainGlobals "enumerate" = some none)
    (z_int : PySem.W.nsIn K mainGlobals "int" = some none)
    (z_isinstance : PySem.W.nsIn K mainGlobals "isinstance" = some none)
    (z_len : PySem.W.nsIn K mainGlobals "len" = some none)
    (z_list : PySem.W.nsIn K mainGlobals "list" = some none)
    (z_max : PySem.W.nsIn K mainGlobals "max" = some none)
    (z_min : PySem.W.nsIn K mainGlobals "min" = some none)
    (z_range : PySem.W.nsIn K mainGlobals "range" = some none)
    (z_sorted : PySem.W.nsIn K mainGlobals "sorted" = some none)
    {tk_MOST : Tok} (mM_MOST : PySem.W.nsIn K mainGlobals "MOST" = some (some (.int 9 tk_MOST)))
    (yC_Keeper : PySem.W.plainGet K C_Keeper Str.empty = true)
    (oC_Keeper : PySem.W.hasDictIn K C_Keeper = true)
    (pC_Keeper : PySem.W.plainOver K C_Keeper = true)
    (qC_Keeper : PySem.W.findIn K (.ref C_Keeper) "__setattr__" = some (some (.builtin "object.__setattr__")))
    (mC_Keeper : PySem.W.makesIn K C_Keeper = true)
    (uC_Keeper : PySem.W.keepIn K (.ref C_Keeper) = true)
    (n_Keeper_term : PySem.W.findIn K (.ref C_Keeper) "term" = some none)
    (n_Keeper_row : PySem.W.findIn K (.ref C_Keeper) "row" = some none)
    (n_Keeper_leads : PySem.W.findIn K (.ref C_Keeper) "leads" = some none)
    (n_Keeper_settled : PySem.W.findIn K (.ref C_Keeper) "settled" = some none)
    (yC_Room : PySem.W.plainGet K C_Room Str.empty = true)
    (oC_Room : PySem.W.hasDictIn K C_Room = true)
    (pC_Room : PySem.W.plainOver K C_Room = true)
    (qC_Room : PySem.W.findIn K (.ref C_Room) "__setattr__" = some (some (.builtin "object.__setattr__")))
    (mC_Room : PySem.W.makesIn K C_Room = true)
    (uC_Room : PySem.W.keepIn K (.ref C_Room) = true)
    (n_Room_keepers : PySem.W.findIn K (.ref C_Room) "keepers" = some none)
    (n_Room_places : PySem.W.findIn K (.ref C_Room) "places" = some none)
    (n_Room_held : PySem.W.findIn K (.ref C_Room) "held" = some none)
    (aC_NoKeeper : PySem.W.nsIn K mainGlobals "NoKeeper" = some (some (.ref C_NoKeeper)))
    (kC_NoKeeper : PySem.W.keepIn K (.ref C_NoKeeper) = true)
    (bC_NoKeeper : PySem.W.subIn K (.ref C_NoKeeper) (.type "BaseException") = some true)
    (tC_NoKeeper : PySem.W.typeIn K (.ref C_NoKeeper) = some (.type "type"))
    (dC_NoKeeper : PySem.W.hasDictIn K C_NoKeeper = true)
    (aC_NoRoom : PySem.W.nsIn K mainGlobals "NoRoom" = some (some (.ref C_NoRoom)))
    (kC_NoRoom : PySem.W.keepIn K (.ref C_NoRoom) = true)
    (bC_NoRoom : PySem.W.subIn K (.ref C_NoRoom) (.type "BaseException") = some true)
    (tC_NoRoom : PySem.W.typeIn K (.ref C_NoRoom) = some (.type "type"))
    (dC_NoRoom : PySem.W.hasDictIn K C_NoRoom = true)
    (aC_NotLeading : PySem.W.nsIn K mainGlobals "NotLeading" = some (some (.ref C_NotLeading)))
    (kC_NotLeading : PySem.W.keepIn K (.ref C_NotLeading) = true)
    (bC_NotLeading : PySem.W.subIn K (.ref C_NotLeading) (.type "BaseException") = some true)
    (tC_NotLeading : PySem.W.typeIn K (.ref C_NotLeading) = some (.type "type"))
    (dC_NotLeading : PySem.W.hasDictIn K C_NotLeading = true)
    (aC_OutOfPlace : PySem.W.nsIn K mainGlobals "OutOfPlace" = some (some (.ref C_OutOfPlace)))
    (kC_OutOfPlace : PySem.W.keepIn K (.ref C_OutOfPlace) = true)
    (bC_OutOfPlace : PySem.W.subIn K (.ref C_OutOfPlace) (.type "BaseException") = some true)
    (tC_OutOfPlace : PySem.W.typeIn K (.ref C_OutOfPlace) = some (.type "type"))
    (dC_OutOfPlace : PySem.W.hasDictIn K C_OutOfPlace = true)
    (aC_RoomError : PySem.W.nsIn K mainGlobals "RoomError" = some (some (.ref C_RoomError)))
    (kC_RoomError : PySem.W.keepIn K (.ref C_RoomError) = true)
    (bC_RoomError : PySem.W.subIn K (.ref C_RoomError) (.type "BaseException") = some true)
    (tC_RoomError : PySem.W.typeIn K (.ref C_RoomError) = some (.type "type"))
    (dC_RoomError : PySem.W.hasDictIn K C_RoomError = true)
    (X_NoKeeper : PySem.W.excIn K C_NoKeeper [.type "ValueError", .type "Exception", .type "BaseException", .type "object"] "ValueError.__new__" = true)
    (X_NoRoom : PySem.W.excIn K C_NoRoom [.type "ValueError", .type "Exception", .type "BaseException", .type "object"] "ValueError.__new__" = true)
    (X_NotLeading : PySem.W.excIn K C_NotLeading [.type "ValueError", .type "Exception", .type "BaseException", .type "object"] "ValueError.__new__" = true)
    (X_OutOfPlace : PySem.W.excIn K C_OutOfPlace [.type "ValueError", .type "Exception", .type "BaseException", .type "object"] "ValueError.__new__" = true)
    (h0_NoKeeper : PySem.W.findIn K (.ref C_NoKeeper) "__getattribute__" = some (some (.builtin "BaseException.__getattribute__")))
    (h1_NoKeeper : PySem.W.findIn K (.ref C_NoKeeper) "__getattr__" = some none)
    (h2_NoKeeper : PySem.W.subIn K (.ref C_NoKeeper) (.type "BaseException") = some true)
    (h3_NoKeeper : PySem.W.hasDictIn K C_NoKeeper = true)
    (h4_NoKeeper : PySem.W.findIn K (.ref C_NoKeeper) "__class__" = some (some (.builtin "object.__class__")))
    (h5_NoKeeper : PySem.W.specialIn K (.builtin "object.__class__") "__get__" = some (some (.builtin "getset_descriptor.__get__")))
    (h6_NoKeeper : PySem.W.takesIn K (.builtin "object.__class__") = some true)
    (h7_NoKeeper : PySem.W.mroIn K C_NoKeeper (.type "object") = some true)
    (h0_NotLeading : PySem.W.findIn K (.ref C_NotLeading) "__getattribute__" = some (some (.builtin "BaseException.__getattribute__")))
    (h1_NotLeading : PySem.W.findIn K (.ref C_NotLeading) "__getattr__" = some none)
    (h2_NotLeading : PySem.W.subIn K (.ref C_NotLeading) (.type "BaseException") = some true)
    (h3_NotLeading : PySem.W.hasDictIn K C_NotLeading = true)
    (h4_NotLeading : PySem.W.findIn K (.ref C_NotLeading) "__class__" = some (some (.builtin "object.__class__")))
    (h5_NotLeading : PySem.W.specialIn K (.builtin "object.__class__") "__get__" = some (some (.builtin "getset_descriptor.__get__")))
    (h6_NotLeading : PySem.W.takesIn K (.builtin "object.__class__") = some true)
    (h7_NotLeading : PySem.W.mroIn K C_NotLeading (.type "object") = some true)
    (h0_NoRoom : PySem.W.findIn K (.ref C_NoRoom) "__getattribute__" = some (some (.builtin "BaseException.__getattribute__")))
    (h1_NoRoom : PySem.W.findIn K (.ref C_NoRoom) "__getattr__" = some none)
    (h2_NoRoom : PySem.W.subIn K (.ref C_NoRoom) (.type "BaseException") = some true)
    (h3_NoRoom : PySem.W.hasDictIn K C_NoRoom = true)
    (h4_NoRoom : PySem.W.findIn K (.ref C_NoRoom) "__class__" = some (some (.builtin "object.__class__")))
    (h5_NoRoom : PySem.W.specialIn K (.builtin "object.__class__") "__get__" = some (some (.builtin "getset_descriptor.__get__")))
    (h6_NoRoom : PySem.W.takesIn K (.builtin "object.__class__") = some true)
    (h7_NoRoom : PySem.W.mroIn K C_NoRoom (.type "object") = some true)
    (S_NoKeeper_RoomError : PySem.W.subIn K (.ref C_NoKeeper) (.ref C_RoomError) = some true)
    (S_NoKeeper_NoKeeper : PySem.W.subIn K (.ref C_NoKeeper) (.ref C_NoKeeper) = some true)
    (S_NoKeeper_NotLeading : PySem.W.subIn K (.ref C_NoKeeper) (.ref C_NotLeading) = some false)
    (S_NotLeading_RoomError : PySem.W.subIn K (.ref C_NotLeading) (.ref C_RoomError) = some true)
    (S_NotLeading_NoKeeper : PySem.W.subIn K (.ref C_NotLeading) (.ref C_NoKeeper) = some false)
    (S_NotLeading_NotLeading : PySem.W.subIn K (.ref C_NotLeading) (.ref C_NotLeading) = some true)
    (S_NoRoom_RoomError : PySem.W.subIn K (.ref C_NoRoom) (.ref C_RoomError) = some true)
    (S_NoRoom_NoRoom : PySem.W.subIn K (.ref C_NoRoom) (.ref C_NoRoom) = some true)
    (I_NoKeeper_NoKeeper : PySem.W.kitOne K (.ref C_NoKeeper) (.ref C_NoKeeper) = some true)
    (I_NoKeeper_NotLeading : PySem.W.kitOne K (.ref C_NoKeeper) (.ref C_NotLeading) = some false)
    (I_NoKeeper_NoRoom : PySem.W.kitOne K (.ref C_NoKeeper) (.ref C_NoRoom) = some false)
    (I_NoKeeper_OutOfPlace : PySem.W.kitOne K (.ref C_NoKeeper) (.ref C_OutOfPlace) = some false)
    (I_NoKeeper_RoomError : PySem.W.kitOne K (.ref C_NoKeeper) (.ref C_RoomError) = some true)
    (I_NotLeading_NoKeeper : PySem.W.kitOne K (.ref C_NotLeading) (.ref C_NoKeeper) = some false)
    (I_NotLeading_NotLeading : PySem.W.kitOne K (.ref C_NotLeading) (.ref C_NotLeading) = some true)
    (I_NotLeading_NoRoom : PySem.W.kitOne K (.ref C_NotLeading) (.ref C_NoRoom) = some false)
    (I_NotLeading_OutOfPlace : PySem.W.kitOne K (.ref C_NotLeading) (.ref C_OutOfPlace) = some false)
    (I_NotLeading_RoomError : PySem.W.kitOne K (.ref C_NotLeading) (.ref C_RoomError) = some true)
    (I_NoRoom_NoKeeper : PySem.W.kitOne K (.ref C_NoRoom) (.ref C_NoKeeper) = some false)
    (I_NoRoom_NotLeading : PySem.W.kitOne K (.ref C_NoRoom) (.ref C_NotLeading) = some false)
    (I_NoRoom_NoRoom : PySem.W.kitOne K (.ref C_NoRoom) (.ref C_NoRoom) = some true)
    (I_NoRoom_OutOfPlace : PySem.W.kitOne K (.ref C_NoRoom) (.ref C_OutOfPlace) = some false)
    (I_NoRoom_RoomError : PySem.W.kitOne K (.ref C_NoRoom) (.ref C_RoomError) = some true)
    (I_NoKeeper_ValueError : PySem.W.kitOne K (.ref C_NoKeeper) (.type "ValueError") = some true)
    (I_NotLeading_ValueError : PySem.W.kitOne K (.ref C_NotLeading) (.type "ValueError") = some true)
    (I_NoRoom_ValueError : PySem.W.kitOne K (.ref C_NoRoom) (.type "ValueError") = some true)
    : ∃ fd : FuncData, (∀ (s : Shared) (v : Value), BindsTo s fd ⟨[v], []⟩ [("_law_script", v)]) ∧ ∀ base : Heap, K.In base → base.Ns mainGlobals mg → FnOk l.prog w K mg base CX0 7 fa fd ["_law_script"] (spLaw K) := by
  have e := hfa.symm.trans (PySem.W.mg_of X G a37)
  cases e
  have Z : Bi mg := ⟨PySem.W.mg_none_of X G z_ValueError, PySem.W.mg_none_of X G z_abs, PySem.W.mg_none_of X G z_bool, PySem.W.mg_none_of X G z_enumerate, PySem.W.mg_none_of X G z_int, PySem.W.mg_none_of X G z_isinstance, PySem.W.mg_none_of X G z_len, PySem.W.mg_none_of X G z_list, PySem.W.mg_none_of X G z_max, PySem.W.mg_none_of X G z_min, PySem.W.mg_none_of X G z_range, PySem.W.mg_none_of X G z_sorted⟩
  have d_last_term : DefAt K mg "last_term" s_last_term ["row"] f_last_term _ := ⟨fun_mk (st := s_last_term) l0 e0 k0, (fun_mk (st := s_last_term) l0 e0 k0).binds fun _ _ _ _ _ _ us hl => match us, hl with | [_], _ => rfl, PySem.W.mg_of X G a0⟩
  have d_as_new : DefAt K mg "as_new" s_as_new ["row", "other"] f_as_new _ := ⟨fun_mk (st := s_as_new) l1 e1 k1, (fun_mk (st := s_as_new) l1 e1 k1).binds fun _ _ _ _ _ _ us hl => match us, hl with | [_, _], _ => rfl, PySem.W.mg_of X G a1⟩
  have d_agrees : DefAt K mg "agrees" s_agrees ["row", "at", "term"] f_agrees _ := ⟨fun_mk (st := s_agrees) l2 e2 k2, (fun_mk (st := s_agrees) l2 e2 k2).binds fun _ _ _ _ _ _ us hl => match us, hl with | [_, _, _], _ => rfl, PySem.W.mg_of X G a2⟩
  have d_filled : DefAt K mg "filled" s_filled ["row", "at", "some"] f_filled _ := ⟨fun_mk (st := s_filled) l3 e3 k3, (fun_mk (st := s_filled) l3 e3 k3).binds fun _ _ _ _ _ _ us hl => match us, hl with | [_, _, _], _ => rfl, PySem.W.mg_of X G a3⟩
  have d_settled_by : DefAt K mg "settled_by" s_settled_by ["row", "term", "held"] f_settled_by _ := ⟨fun_mk (st := s_settled_by) l4 e4 k4, (fun_mk (st := s_settled_by) l4 e4 k4).binds fun _ _ _ _ _ _ us hl => match us, hl with | [_, _, _], _ => rfl, PySem.W.mg_of X G a4⟩
  have d_most_held : DefAt K mg "most_held" s_most_held ["held"] f_most_held _ := ⟨fun_mk (st := s_most_held) l5 e5 k5, (fun_mk (st := s_most_held) l5 e5 k5).binds fun _ _ _ _ _ _ us hl => match us, hl with | [_], _ => rfl, PySem.W.mg_of X G a5⟩
  have d_Keeper___init__ : MethAt K C_Keeper "__init__" "Keeper.__init__" s_Keeper___init__ ["self", "row"] f_Keeper___init__ _ := ⟨fun_mk (st := s_Keeper___init__) l6 e6 k6, (fun_mk (st := s_Keeper___init__) l6 e6 k6).binds fun _ _ _ _ _ _ us hl => match us, hl with | [_, _], _ => rfl, ⟨a6, i6, k6⟩⟩
  have d_Keeper_hear : MethAt K C_Keeper "hear" "Keeper.hear" s_Keeper_hear ["self", "term"] f_Keeper_hear _ := ⟨fun_mk (st := s_Keeper_hear) l7 e7 k7, (fun_mk (st := s_Keeper_hear) l7 e7 k7).binds fun _ _ _ _ _ _ us hl => match us, hl with | [_, _], _ => rfl, ⟨a7, i7, k7⟩⟩
  have d_Keeper_asked : MethAt K C_Keeper "asked" "Keeper.asked" s_Keeper_asked ["self", "term", "row"] f_Keeper_asked _ := ⟨fun_mk (st := s_Keeper_asked) l8 e8 k8, (fun_mk (st := s_Keeper_asked) l8 e8 k8).binds fun _ _ _ _ _ _ us hl => match us, hl with | [_, _, _], _ => rfl, ⟨a8, i8, k8⟩⟩
  have d_Room___init__ : MethAt K C_Room "__init__" "Room.__init__" s_Room___init__ ["self", "count"] f_Room___init__ _ := ⟨fun_mk (st := s_Room___init__) l9 e9 k9, (fun_mk (st := s_Room___init__) l9 e9 k9).binds fun _ _ _ _ _ _ us hl => match us, hl with | [_, _], _ => rfl, ⟨a9, i9, k9⟩⟩
  have d_Room_stand : MethAt K C_Room "stand" "Room.stand" s_Room_stand ["self", "k", "others"] f_Room_stand _ := ⟨fun_mk (st := s_Room_stand) l10 e10 k10, (fun_mk (st := s_Room_stand) l10 e10 k10).binds fun _ _ _ _ _ _ us hl => match us, hl with | [_, _, _], _ => rfl, ⟨a10, i10, k10⟩⟩
  have d_Room_write : MethAt K C_Room "write" "Room.write" s_Room_write ["self", "k", "word"] f_Room_write _ := ⟨fun_mk (st := s_Room_write) l11 e11 k11, (fun_mk (st := s_Room_write) l11 e11 k11).binds fun _ _ _ _ _ _ us hl => match us, hl with | [_, _, _], _ => rfl, ⟨a11, i11, k11⟩⟩
  have d_Room_hand : MethAt K C_Room "hand" "Room.hand" s_Room_hand ["self", "k", "other", "many"] f_Room_hand _ := ⟨fun_mk (st := s_Room_hand) l12 e12 k12, (fun_mk (st := s_Room_hand) l12 e12 k12).binds fun _ _ _ _ _ _ us hl => match us, hl with | [_, _, _, _], _ => rfl, ⟨a12, i12, k12⟩⟩
  have d_Room_settle : MethAt K C_Room "settle" "Room.settle" s_Room_settle ["self", "k"] f_Room_settle _ := ⟨fun_mk (st := s_Room_settle) l13 e13 k13, (fun_mk (st := s_Room_settle) l13 e13 k13).binds fun _ _ _ _ _ _ us hl => match us, hl with | [_, _], _ => rfl, ⟨a13, i13, k13⟩⟩
  have d_Room_rest : MethAt K C_Room "rest" "Room.rest" s_Room_rest ["self", "k"] f_Room_rest _ := ⟨fun_mk (st := s_Room_rest) l14 e14 k14, (fun_mk (st := s_Room_rest) l14 e14 k14).binds fun _ _ _ _ _ _ us hl => match us, hl with | [_, _], _ => rfl, ⟨a14, i14, k14⟩⟩
  have d_Room_term_of : MethAt K C_Room "term_of" "Room.term_of" s_Room_term_of ["self", "k"] f_Room_term_of _ := ⟨fun_mk (st := s_Room_term_of) l15 e15 k15, (fun_mk (st := s_Room_term_of) l15 e15 k15).binds fun _ _ _ _ _ _ us hl => match us, hl with | [_, _], _ => rfl, ⟨a15, i15, k15⟩⟩
  have d_Room_row_of : MethAt K C_Room "row_of" "Room.row_of" s_Room_row_of ["self", "k"] f_Room_row_of _ := ⟨fun_mk (st := s_Room_row_of) l16 e16 k16, (fun_mk (st := s_Room_row_of) l16 e16 k16).binds fun _ _ _ _ _ _ us hl => match us, hl with | [_, _], _ => rfl, ⟨a16, i16, k16⟩⟩
  have d_Room_leading : MethAt K C_Room "leading" "Room.leading" s_Room_leading ["self", "k"] f_Room_leading _ := ⟨fun_mk (st := s_Room_leading) l17 e17 k17, (fun_mk (st := s_Room_leading) l17 e17 k17).binds fun _ _ _ _ _ _ us hl => match us, hl with | [_, _], _ => rfl, ⟨a17, i17, k17⟩⟩
  have d_Room_settled_of : MethAt K C_Room "settled_of" "Room.settled_of" s_Room_settled_of ["self", "k"] f_Room_settled_of _ := ⟨fun_mk (st := s_Room_settled_of) l18 e18 k18, (fun_mk (st := s_Room_settled_of) l18 e18 k18).binds fun _ _ _ _ _ _ us hl => match us, hl with | [_, _], _ => rfl, ⟨a18, i18, k18⟩⟩
  have d_Room_keeper : MethAt K C_Room "keeper" "Room.keeper" s_Room_keeper ["self", "k"] f_Room_keeper _ := ⟨fun_mk (st := s_Room_keeper) l19 e19 k19, (fun_mk (st := s_Room_keeper) l19 e19 k19).binds fun _ _ _ _ _ _ us hl => match us, hl with | [_, _], _ => rfl, ⟨a19, i19, k19⟩⟩
  have d_Room_other_keeper : MethAt K C_Room "other_keeper" "Room.other_keeper" s_Room_other_keeper ["self", "k", "other"] f_Room_other_keeper _ := ⟨fun_mk (st := s_Room_other_keeper) l20 e20 k20, (fun_mk (st := s_Room_other_keeper) l20 e20 k20).binds fun _ _ _ _ _ _ us hl => match us, hl with | [_, _, _], _ => rfl, ⟨a20, i20, k20⟩⟩
  have d_Room_leader : MethAt K C_Room "leader" "Room.leader" s_Room_leader ["self", "k"] f_Room_leader _ := ⟨fun_mk (st := s_Room_leader) l21 e21 k21, (fun_mk (st := s_Room_leader) l21 e21 k21).binds fun _ _ _ _ _ _ us hl => match us, hl with | [_, _], _ => rfl, ⟨a21, i21, k21⟩⟩
  have d_Room_begin : MethAt K C_Room "begin" "Room.begin" s_Room_begin ["self", "k"] f_Room_begin _ := ⟨fun_mk (st := s_Room_begin) l22 e22 k22, (fun_mk (st := s_Room_begin) l22 e22 k22).binds fun _ _ _ _ _ _ us hl => match us, hl with | [_, _], _ => rfl, ⟨a22, i22, k22⟩⟩
  have d_law_cell_at : DefAt K mg "_law_cell_at" s_law_cell_at ["_law_script", "_law_k"] f_law_cell_at _ := ⟨fun_mk (st := s_law_cell_at) l23 e23 k23, (fun_mk (st := s_law_cell_at) l23 e23 k23).binds fun _ _ _ _ _ _ us hl => match us, hl with | [_, _], _ => rfl, PySem.W.mg_of X G a23⟩
  have d_law_mixed : DefAt K mg "_law_mixed" s_law_mixed ["_law_script", "_law_k"] f_law_mixed _ := ⟨fun_mk (st := s_law_mixed) l24 e24 k24, (fun_mk (st := s_law_mixed) l24 e24 k24).binds fun _ _ _ _ _ _ us hl => match us, hl with | [_, _], _ => rfl, PySem.W.mg_of X G a24⟩
  have d_law_drawn : DefAt K mg "_law_drawn" s_law_drawn ["_law_number", "_law_sizes"] f_law_drawn _ := ⟨fun_mk (st := s_law_drawn) l25 e25 k25, (fun_mk (st := s_law_drawn) l25 e25 k25).binds fun _ _ _ _ _ _ us hl => match us, hl with | [_, _], _ => rfl, PySem.W.mg_of X G a25⟩
  have d_law_asked : DefAt K mg "_law_asked" s_law_asked ["_law_k", "_law_other", "_law_wrong", "_law_place"] f_law_asked _ := ⟨fun_mk (st := s_law_asked) l26 e26 k26, (fun_mk (st := s_law_asked) l26 e26 k26).binds fun _ _ _ _ _ _ us hl => match us, hl with | [_, _, _, _], _ => rfl, PySem.W.mg_of X G a26⟩
  have d_law_done : DefAt K mg "_law_done" s_law_done ["_law_room", "_law_way", "_law_k", "_law_other", "_law_wrong"] f_law_done _ := ⟨fun_mk (st := s_law_done) l27 e27 k27, (fun_mk (st := s_law_done) l27 e27 k27).binds fun _ _ _ _ _ _ us hl => match us, hl with | [_, _, _, _, _], _ => rfl, PySem.W.mg_of X G a27⟩
  have d_law_idle : DefAt K mg "_law_idle" s_law_idle ["_law_room", "_law_way", "_law_k", "_law_other"] f_law_idle _ := ⟨fun_mk (st := s_law_idle) l28 e28 k28, (fun_mk (st := s_law_idle) l28 e28 k28).binds fun _ _ _ _ _ _ us hl => match us, hl with | [_, _, _, _], _ => rfl, PySem.W.mg_of X G a28⟩
  have d_law_kind : DefAt K mg "_law_kind" s_law_kind ["_law_e"] f_law_kind _ := ⟨fun_mk (st := s_law_kind) l29 e29 k29, (fun_mk (st := s_law_kind) l29 e29 k29).binds fun _ _ _ _ _ _ us hl => match us, hl with | [_], _ => rfl, PySem.W.mg_of X G a29⟩
  have d_law_kind_of : DefAt K mg "_law_kind_of" s_law_kind_of ["_law_room", "_law_way", "_law_k", "_law_other", "_law_wrong"] f_law_kind_of _ := ⟨fun_mk (st := s_law_kind_of) l30 e30 k30, (fun_mk (st := s_law_kind_of) l30 e30 k30).binds fun _ _ _ _ _ _ us hl => match us, hl with | [_, _, _, _, _], _ => rfl, PySem.W.mg_of X G a30⟩
  have d_law_idle_kind : DefAt K mg "_law_idle_kind" s_law_idle_kind ["_law_room", "_law_way", "_law_k", "_law_other"] f_law_idle_kind _ := ⟨fun_mk (st := s_law_idle_kind) l31 e31 k31, (fun_mk (st := s_law_idle_kind) l31 e31 k31).binds fun _ _ _ _ _ _ us hl => match us, hl with | [_, _, _, _], _ => rfl, PySem.W.mg_of X G a31⟩
  have d_law_caught : DefAt K mg "_law_caught" s_law_caught ["_law_room", "_law_k", "_law_other", "_law_wrong"] f_law_caught _ := ⟨fun_mk (st := s_law_caught) l32 e32 k32, (fun_mk (st := s_law_caught) l32 e32 k32).binds fun _ _ _ _ _ _ us hl => match us, hl with | [_, _, _, _], _ => rfl, PySem.W.mg_of X G a32⟩
  have d_law_no_room : DefAt K mg "_law_no_room" s_law_no_room ["_law_count"] f_law_no_room _ := ⟨fun_mk (st := s_law_no_room) l33 e33 k33, (fun_mk (st := s_law_no_room) l33 e33 k33).binds fun _ _ _ _ _ _ us hl => match us, hl with | [_], _ => rfl, PySem.W.mg_of X G a33⟩
  have d_law_all_of : DefAt K mg "_law_all_of" s_law_all_of ["_law_room", "_law_count"] f_law_all_of _ := ⟨fun_mk (st := s_law_all_of) l34 e34 k34, (fun_mk (st := s_law_all_of) l34 e34 k34).binds fun _ _ _ _ _ _ us hl => match us, hl with | [_, _], _ => rfl, PySem.W.mg_of X G a34⟩
  have d_law_led : DefAt K mg "_law_led" s_law_led ["_law_room", "_law_count", "_law_all_held"] f_law_led _ := ⟨fun_mk (st := s_law_led) l35 e35 k35, (fun_mk (st := s_law_led) l35 e35 k35).binds fun _ _ _ _ _ _ us hl => match us, hl with | [_, _, _], _ => rfl, PySem.W.mg_of X G a35⟩
  have d_law_leads_on : DefAt K mg "_law_leads_on" s_law_leads_on ["_law_room", "_law_count", "_law_all_held"] f_law_leads_on _ := ⟨fun_mk (st := s_law_leads_on) l36 e36 k36, (fun_mk (st := s_law_leads_on) l36 e36 k36).binds fun _ _ _ _ _ _ us hl => match us, hl with | [_, _, _], _ => rfl, PySem.W.mg_of X G a36⟩
  have d_law : DefAt K mg "law" s_law ["_law_script"] fa _ := ⟨fun_mk (st := s_law) l37 e37 k37, (fun_mk (st := s_law) l37 e37 k37).binds fun _ _ _ _ _ _ us hl => match us, hl with | [_], _ => rfl, PySem.W.mg_of X G a37⟩
  have gM_MOST : mg "MOST" = some (.int 9 tk_MOST) := PySem.W.mg_of X G mM_MOST
  have T_Keeper : ClsAt K mg "Keeper" C_Keeper ["term", "row", "leads", "settled"] := ⟨⟨yC_Keeper, oC_Keeper, pC_Keeper, qC_Keeper⟩, PySem.W.mg_of X G gC_Keeper, mC_Keeper, uC_Keeper, fun f hf => by
    simp only [List.mem_cons, List.not_mem_nil, or_false] at hf
    rcases hf with rfl | rfl | rfl | rfl
    all_goals assumption⟩
  have T_Room : ClsAt K mg "Room" C_Room ["keepers", "places", "held"] := ⟨⟨yC_Room, oC_Room, pC_Room, qC_Room⟩, PySem.W.mg_of X G gC_Room, mC_Room, uC_Room, fun f hf => by
    simp only [List.mem_cons, List.not_mem_nil, or_false] at hf
    rcases hf with rfl | rfl | rfl
    all_goals assumption⟩
  have E_NoKeeper : ErrC K mg "NoKeeper" C_NoKeeper := ⟨PySem.W.mg_of X G aC_NoKeeper, kC_NoKeeper, bC_NoKeeper, tC_NoKeeper, dC_NoKeeper⟩
  have E_NoRoom : ErrC K mg "NoRoom" C_NoRoom := ⟨PySem.W.mg_of X G aC_NoRoom, kC_NoRoom, bC_NoRoom, tC_NoRoom, dC_NoRoom⟩
  have E_NotLeading : ErrC K mg "NotLeading" C_NotLeading := ⟨PySem.W.mg_of X G aC_NotLeading, kC_NotLeading, bC_NotLeading, tC_NotLeading, dC_NotLeading⟩
  have E_OutOfPlace : ErrC K mg "OutOfPlace" C_OutOfPlace := ⟨PySem.W.mg_of X G aC_OutOfPlace, kC_OutOfPlace, bC_OutOfPlace, tC_OutOfPlace, dC_OutOfPlace⟩
  have E_RoomError : ErrC K mg "RoomError" C_RoomError := ⟨PySem.W.mg_of X G aC_RoomError, kC_RoomError, bC_RoomError, tC_RoomError, dC_RoomError⟩
  have H_NoKeeper : ExcC K C_NoKeeper := ⟨h0_NoKeeper, h1_NoKeeper, h2_NoKeeper, h3_NoKeeper, h4_NoKeeper, h5_NoKeeper, h6_NoKeeper, h7_NoKeeper⟩
  have H_NotLeading : ExcC K C_NotLeading := ⟨h0_NotLeading, h1_NotLeading, h2_NotLeading, h3_NotLeading, h4_NotLeading, h5_NotLeading, h6_NotLeading, h7_NotLeading⟩
  have H_NoRoom : ExcC K C_NoRoom := ⟨h0_NoRoom, h1_NoRoom, h2_NoRoom, h3_NoRoom, h4_NoRoom, h5_NoRoom, h6_NoRoom, h7_NoRoom⟩
  have O_Room : RoomOk C_Room (RA K C_Room C_Keeper) := roomOk
  have Q_NoKeeper : KindC K C_NoRoom C_NoKeeper C_NotLeading C_OutOfPlace C_RoomError C_NoKeeper true false false := ⟨H_NoKeeper, I_NoKeeper_NoKeeper, I_NoKeeper_NotLeading, I_NoKeeper_NoRoom, I_NoKeeper_OutOfPlace, I_NoKeeper_ValueError, I_NoKeeper_RoomError⟩
  have Q_NotLeading : KindC K C_NoRoom C_NoKeeper C_NotLeading C_OutOfPlace C_RoomError C_NotLeading false true false := ⟨H_NotLeading, I_NotLeading_NoKeeper, I_NotLeading_NotLeading, I_NotLeading_NoRoom, I_NotLeading_OutOfPlace, I_NotLeading_ValueError, I_NotLeading_RoomError⟩
  have Q_NoRoom : KindC K C_NoRoom C_NoKeeper C_NotLeading C_OutOfPlace C_RoomError C_NoRoom false false true := ⟨H_NoRoom, I_NoRoom_NoKeeper, I_NoRoom_NotLeading, I_NoRoom_NoRoom, I_NoRoom_OutOfPlace, I_NoRoom_ValueError, I_NoRoom_RoomError⟩
  have M_NoKeeper : PySem.W.exmAny K (.ref C_NoKeeper) [.ref C_RoomError, .ref C_NoKeeper, .ref C_NotLeading] = some true := exm3 (E_RoomError.exm S_NoKeeper_RoomError) (E_NoKeeper.exm S_NoKeeper_NoKeeper) (E_NotLeading.exm S_NoKeeper_NotLeading)
  have M_NotLeading : PySem.W.exmAny K (.ref C_NotLeading) [.ref C_RoomError, .ref C_NoKeeper, .ref C_NotLeading] = some true := exm3 (E_RoomError.exm S_NotLeading_RoomError) (E_NoKeeper.exm S_NotLeading_NoKeeper) (E_NotLeading.exm S_NotLeading_NotLeading)
  have M_NoRoom : PySem.W.exmAny K (.ref C_NoRoom) [.ref C_RoomError, .ref C_NoRoom] = some true := exm2 (E_RoomError.exm S_NoRoom_RoomError) (E_NoRoom.exm S_NoRoom_NoRoom)
  refine ⟨PySem.W.fnOf "law" "law" (defArgs s_law) (defBody s_law) (defScope s_law) .none kV37 dc37 pm37 an37 cd37 ct37, fun s v => .of_eq rfl, fun base _ _ => ?_⟩
  have c_law_drawn := ok_law_drawn (P := l.prog) (w := w) (base := base) (D := d_law_drawn) (Z := Z)
  have c_law_cell_at := ok_law_cell_at (P := l.prog) (w := w) (base := base) (D := d_law_cell_at) (Z := Z)
  have c_law_mixed := ok_law_mixed (P := l.prog) (w := w) (base := base) (D := d_law_mixed) (Z := Z) (c_law_cell_at := c_law_cell_at)
  have x_Room_keeper := okN_Room_keeper (P := l.prog) (w := w) (base := base) (D := d_Room_keeper) (Z := Z) (T_Room := T_Room) (T_Keeper := T_Keeper) (E_NoKeeper := E_NoKeeper) (X_NoKeeper := X_NoKeeper)
  have c_Keeper_hear := ok_Keeper_hear (P := l.prog) (w := w) (base := base) (D := d_Keeper_hear) (Z := Z) (T_Keeper := T_Keeper)
  have c_last_term := ok_last_term (P := l.prog) (w := w) (base := base) (D := d_last_term) (Z := Z)
  have c_as_new := ok_as_new (P := l.prog) (w := w) (base := base) (D := d_as_new) (Z := Z) (c_last_term := c_last_term)
  have c_Keeper_asked := ok_Keeper_asked (P := l.prog) (w := w) (base := base) (D := d_Keeper_asked) (Z := Z) (T_Keeper := T_Keeper) (c_Keeper_hear := c_Keeper_hear) (c_as_new := c_as_new)
  have c_Room_begin := ok_Room_begin (P := l.prog) (w := w) (base := base) (D := d_Room_begin) (Z := Z) (T_Room := T_Room) (T_Keeper := T_Keeper)
  have x_Room_stand := okN_Room_stand (P := l.prog) (w := w) (base := base) (D := d_Room_stand) (Z := Z) (T_Room := T_Room) (T_Keeper := T_Keeper) (x_Room_keeper := x_Room_keeper) (c_Keeper_hear := c_Keeper_hear) (c_Keeper_asked := c_Keeper_asked) (c_Room_begin := c_Room_begin)
  have x_Room_leader := okN_Room_leader (P := l.prog) (w := w) (base := base) (D := d_Room_leader) (Z := Z) (T_Room := T_Room) (T_Keeper := T_Keeper) (E_NotLeading := E_NotLeading) (X_NotLeading := X_NotLeading) (x_Room_keeper := x_Room_keeper)
  have x_Room_write := okN_Room_write (P := l.prog) (w := w) (base := base) (D := d_Room_write) (Z := Z) (T_Room := T_Room) (T_Keeper := T_Keeper) (x_Room_leader := x_Room_leader)
  have x_Room_other_keeper := okN_Room_other_keeper (P := l.prog) (w := w) (base := base) (D := d_Room_other_keeper) (Z := Z) (T_Room := T_Room) (E_NoKeeper := E_NoKeeper) (X_NoKeeper := X_NoKeeper) (x_Room_keeper := x_Room_keeper)
  have c_agrees := ok_agrees (P := l.prog) (w := w) (base := base) (D := d_agrees) (Z := Z)
  have x_filled := okX_filled (P := l.prog) (w := w) (base := base) (D := d_filled) (Z := Z) (E_OutOfPlace := E_OutOfPlace) (X_OutOfPlace := X_OutOfPlace)
  have x_Room_hand := okN_Room_hand (P := l.prog) (w := w) (base := base) (D := d_Room_hand) (Z := Z) (T_Room := T_Room) (T_Keeper := T_Keeper) (x_Room_other_keeper := x_Room_other_keeper) (x_Room_leader := x_Room_leader) (c_Keeper_hear := c_Keeper_hear) (c_agrees := c_agrees) (c_last_term := c_last_term) (x_filled := x_filled)
  have c_most_held := ok_most_held (P := l.prog) (w := w) (base := base) (D := d_most_held) (Z := Z)
  have c_settled_by := ok_settled_by (P := l.prog) (w := w) (base := base) (D := d_settled_by) (Z := Z) (c_most_held := c_most_held)
  have x_Room_settle := okN_Room_settle (P := l.prog) (w := w) (base := base) (D := d_Room_settle) (Z := Z) (T_Room := T_Room) (T_Keeper := T_Keeper) (x_Room_leader := x_Room_leader) (c_settled_by := c_settled_by)
  have c_law_led := ok_law_led (P := l.prog) (w := w) (base := base) (D := d_law_led) (Z := Z) (T_Room := T_Room) (O_Room := O_Room) (x_Room_stand := x_Room_stand) (x_Room_write := x_Room_write) (x_Room_hand := x_Room_hand) (x_Room_settle := x_Room_settle)
  have x_Room_leading := okN_Room_leading (P := l.prog) (w := w) (base := base) (D := d_Room_leading) (Z := Z) (T_Room := T_Room) (T_Keeper := T_Keeper) (x_Room_keeper := x_Room_keeper)
  have x_Room_term_of := okN_Room_term_of (P := l.prog) (w := w) (base := base) (D := d_Room_term_of) (Z := Z) (T_Room := T_Room) (T_Keeper := T_Keeper) (x_Room_keeper := x_Room_keeper)
  have x_Room_row_of := okN_Room_row_of (P := l.prog) (w := w) (base := base) (D := d_Room_row_of) (Z := Z) (T_Room := T_Room) (T_Keeper := T_Keeper) (x_Room_keeper := x_Room_keeper)
  have x_Room_settled_of := okN_Room_settled_of (P := l.prog) (w := w) (base := base) (D := d_Room_settled_of) (Z := Z) (T_Room := T_Room) (T_Keeper := T_Keeper) (x_Room_keeper := x_Room_keeper)
  have c_law_all_of := ok_law_all_of (P := l.prog) (w := w) (base := base) (D := d_law_all_of) (Z := Z) (T_Room := T_Room) (O_Room := O_Room) (x_Room_leading := x_Room_leading) (x_Room_term_of := x_Room_term_of) (x_Room_row_of := x_Room_row_of) (x_Room_settled_of := x_Room_settled_of)
  have c_law_asked := ok_law_asked (P := l.prog) (w := w) (base := base) (D := d_law_asked) (Z := Z)
  have r_Room_stand := okR_Room_stand (P := l.prog) (w := w) (base := base) (D := d_Room_stand) (Z := Z) (T_Room := T_Room) (T_Keeper := T_Keeper) (x_Room_keeper := x_Room_keeper) (c_Keeper_hear := c_Keeper_hear) (c_Keeper_asked := c_Keeper_asked) (c_Room_begin := c_Room_begin)
  have r_Room_leader := okR_Room_leader (P := l.prog) (w := w) (base := base) (D := d_Room_leader) (Z := Z) (T_Room := T_Room) (T_Keeper := T_Keeper) (E_NotLeading := E_NotLeading) (X_NotLeading := X_NotLeading) (x_Room_keeper := x_Room_keeper)
  have r_Room_write := okR_Room_write (P := l.prog) (w := w) (base := base) (D := d_Room_write) (Z := Z) (T_Room := T_Room) (T_Keeper := T_Keeper) (r_Room_leader := r_Room_leader)
  have r_Room_other_keeper := okR_Room_other_keeper (P := l.prog) (w := w) (base := base) (D := d_Room_other_keeper) (Z := Z) (T_Room := T_Room) (E_NoKeeper := E_NoKeeper) (X_NoKeeper := X_NoKeeper) (x_Room_keeper := x_Room_keeper)
  have r_Room_hand := okR_Room_hand (P := l.prog) (w := w) (base := base) (D := d_Room_hand) (Z := Z) (T_Room := T_Room) (T_Keeper := T_Keeper) (r_Room_other_keeper := r_Room_other_keeper) (x_Room_leader := x_Room_leader) (c_Keeper_hear := c_Keeper_hear) (c_agrees := c_agrees) (c_last_term := c_last_term) (x_filled := x_filled)
  have r_Room_settle := okR_Room_settle (P := l.prog) (w := w) (base := base) (D := d_Room_settle) (Z := Z) (T_Room := T_Room) (T_Keeper := T_Keeper) (r_Room_leader := r_Room_leader) (c_settled_by := c_settled_by)
  have r_Room_rest := okR_Room_rest (P := l.prog) (w := w) (base := base) (D := d_Room_rest) (Z := Z) (T_Room := T_Room) (T_Keeper := T_Keeper) (x_Room_keeper := x_Room_keeper)
  have r_Room_term_of := okR_Room_term_of (P := l.prog) (w := w) (base := base) (D := d_Room_term_of) (Z := Z) (T_Room := T_Room) (T_Keeper := T_Keeper) (x_Room_keeper := x_Room_keeper)
  have r_Room_row_of := okR_Room_row_of (P := l.prog) (w := w) (base := base) (D := d_Room_row_of) (Z := Z) (T_Room := T_Room) (T_Keeper := T_Keeper) (x_Room_keeper := x_Room_keeper)
  have r_Room_leading := okR_Room_leading (P := l.prog) (w := w) (base := base) (D := d_Room_leading) (Z := Z) (T_Room := T_Room) (T_Keeper := T_Keeper) (x_Room_keeper := x_Room_keeper)
  have r_Room_settled_of := okR_Room_settled_of (P := l.prog) (w := w) (base := base) (D := d_Room_settled_of) (Z := Z) (T_Room := T_Room) (T_Keeper := T_Keeper) (x_Room_keeper := x_Room_keeper)
  have x_law_done := okX_law_done (P := l.prog) (w := w) (base := base) (D := d_law_done) (Z := Z) (T_Room := T_Room) (O_Room := O_Room) (c_law_asked := c_law_asked) (r_Room_stand := r_Room_stand) (r_Room_write := r_Room_write) (r_Room_hand := r_Room_hand) (r_Room_settle := r_Room_settle) (r_Room_rest := r_Room_rest) (r_Room_term_of := r_Room_term_of) (r_Room_row_of := r_Room_row_of) (r_Room_leading := r_Room_leading) (r_Room_settled_of := r_Room_settled_of)
  have p_law_kind := okP_law_kind (P := l.prog) (w := w) (base := base) (D := d_law_kind) (Z := Z) (E_NoKeeper := E_NoKeeper) (E_NotLeading := E_NotLeading) (E_NoRoom := E_NoRoom) (E_OutOfPlace := E_OutOfPlace) (E_RoomError := E_RoomError)
  have c_law_kind_of := ok_law_kind_of (P := l.prog) (w := w) (base := base) (D := d_law_kind_of) (Z := Z) (T_Room := T_Room) (O_Room := O_Room) (E_RoomError := E_RoomError) (E_NoKeeper := E_NoKeeper) (E_NotLeading := E_NotLeading) (Q_NoKeeper := Q_NoKeeper) (M_NoKeeper := M_NoKeeper) (x_law_done := x_law_done) (p_law_kind := p_law_kind)
  have x_law_idle := okX_law_idle (P := l.prog) (w := w) (base := base) (D := d_law_idle) (Z := Z) (T_Room := T_Room) (O_Room := O_Room) (x_Room_write := x_Room_write) (x_Room_hand := x_Room_hand) (x_Room_settle := x_Room_settle)
  have c_law_idle_kind := ok_law_idle_kind (P := l.prog) (w := w) (base := base) (D := d_law_idle_kind) (Z := Z) (T_Room := T_Room) (O_Room := O_Room) (E_RoomError := E_RoomError) (E_NoKeeper := E_NoKeeper) (E_NotLeading := E_NotLeading) (Q_NotLeading := Q_NotLeading) (M_NotLeading := M_NotLeading) (x_law_idle := x_law_idle) (p_law_kind := p_law_kind)
  have c_law_caught := ok_law_caught (P := l.prog) (w := w) (base := base) (D := d_law_caught) (Z := Z) (T_Room := T_Room) (O_Room := O_Room) (E_RoomError := E_RoomError) (E_NoKeeper := E_NoKeeper) (E_NotLeading := E_NotLeading) (S_NoKeeper_NoKeeper := S_NoKeeper_NoKeeper) (S_NotLeading_NotLeading := S_NotLeading_NotLeading) (r_Room_hand := r_Room_hand) (x_Room_settle := x_Room_settle)
  have c_law_leads_on := ok_law_leads_on (P := l.prog) (w := w) (base := base) (D := d_law_leads_on) (Z := Z) (T_Room := T_Room) (O_Room := O_Room) (x_Room_hand := x_Room_hand) (x_Room_settle := x_Room_settle)
  have c_Keeper___init__ := ok_Keeper___init__ (P := l.prog) (w := w) (base := base) (D := d_Keeper___init__) (Z := Z) (T_Keeper := T_Keeper)
  have r_Room___init__ := okR_Room___init__ (P := l.prog) (w := w) (base := base) (D := d_Room___init__) (Z := Z) (gM_MOST := gM_MOST) (T_Room := T_Room) (T_Keeper := T_Keeper) (E_NoRoom := E_NoRoom) (X_NoRoom := X_NoRoom) (c_Keeper___init__ := c_Keeper___init__)
  have c_law_no_room := ok_law_no_room (P := l.prog) (w := w) (base := base) (D := d_law_no_room) (Z := Z) (T_Room := T_Room) (E_RoomError := E_RoomError) (E_NoRoom := E_NoRoom) (Q_NoRoom := Q_NoRoom) (M_NoRoom := M_NoRoom) (r_Room___init__ := r_Room___init__) (p_law_kind := p_law_kind)
  have x_Room___init__ := okN_Room___init__ (P := l.prog) (w := w) (base := base) (D := d_Room___init__) (Z := Z) (gM_MOST := gM_MOST) (T_Room := T_Room) (T_Keeper := T_Keeper) (E_NoRoom := E_NoRoom) (X_NoRoom := X_NoRoom) (c_Keeper___init__ := c_Keeper___init__)
  have c_law := ok_law (P := l.prog) (w := w) (base := base) (D := d_law) (Z := Z) (T_Room := T_Room) (O_Room := O_Room) (c_law_drawn := c_law_drawn) (c_law_mixed := c_law_mixed) (c_law_led := c_law_led) (c_law_all_of := c_law_all_of) (c_law_kind_of := c_law_kind_of) (c_law_idle_kind := c_law_idle_kind) (c_law_caught := c_law_caught) (c_law_leads_on := c_law_leads_on) (c_law_no_room := c_law_no_room) (x_Room___init__ := x_Room___init__)
  exact c_law.G
end A14
open PySem PySem.W PyProof.Rows in
set_option maxRecDepth 100000 in
set_option maxHeartbeats 0 in
theorem PySem.Challenge.cw_logreplica_k14_refused_holds : PySem.Challenge.rw_logreplica_k14_refused.Holds := by
  w_on; o_law; k_head; (case hw => w_witness2)
  k_fill
  refine L2.walk_of (l := PySem.Challenge.rw_logreplica_k14_refused) (n := 63) (k := 7) (x := "_law_script") (CX := fun _ => L2.CX0) (sp := fun w => A14.spLaw _) rfl (by decide) rfl ⟨rfl, by decide, by decide⟩ (fun w h Y => PySem.W.kIn_of Y) ?F (fun _ H a ns hl _ hS => A14.law_start hl hS) (fun _ _ _ _ _ h => h)
  case F =>
    intro w mg fa h KX G hmg
    refine' A14.all_mk KX G hmg ?gC_Room ?gC_Keeper ?a0 ?l0 ?e0 ?k0 ?a1 ?l1 ?e1 ?k1 ?a2 ?l2 ?e2 ?k2 ?a3 ?l3 ?e3 ?k3 ?a4 ?l4 ?e4 ?k4 ?a5 ?l5 ?e5 ?k5 ?a6 ?i6 ?l6 ?e6 ?k6 ?a7 ?i7 ?l7 ?e7 ?k7 ?a8 ?i8 ?l8 ?e8 ?k8 ?a9 ?i9 ?l9 ?e9 ?k9 ?a10 ?i10 ?l10 ?e10 ?k10 ?a11 ?i11 ?l11 ?e11 ?k11 ?a12 ?i12 ?l12 ?e12 ?k12 ?a13 ?i13 ?l13 ?e13 ?k13 ?a14 ?i14 ?l14 ?e14 ?k14 ?a15 ?i15 ?l15 ?e15 ?k15 ?a16 ?i16 ?l16 ?e16 ?k16 ?a17 ?i17 ?l17 ?e17 ?k17 ?a18 ?i18 ?l18 ?e18 ?k18 ?a19 ?i19 ?l19 ?e19 ?k19 ?a20 ?i20 ?l20 ?e20 ?k20 ?a21 ?i21 ?l21 ?e21 ?k21 ?a22 ?i22 ?l22 ?e22 ?k22 ?a23 ?l23 ?e23 ?k23 ?a24 ?l24 ?e24 ?k24 ?a25 ?l25 ?e25 ?k25 ?a26 ?l26 ?e26 ?k26 ?a27 ?l27 ?e27 ?k27 ?a28 ?l28 ?e28 ?k28 ?a29 ?l29 ?e29 ?k29 ?a30 ?l30 ?e30 ?k30 ?a31 ?l31 ?e31 ?k31 ?a32 ?l32 ?e32 ?k32 ?a33 ?l33 ?e33 ?k33 ?a34 ?l34 ?e34 ?k34 ?a35 ?l35 ?e35 ?k35 ?a36 ?l36 ?e36 ?k36 ?a37 ?l37 ?e37 ?k37 ?z_ValueError ?z_abs ?z_bool ?z_enumerate ?z_int ?z_isinstance ?z_len ?z_list ?z_max ?z_min ?z_range ?z_sorted ?mM_MOST ?yC_Keeper ?oC_Keeper ?pC_Keeper ?qC_Keeper ?mC_Keeper ?uC_Keeper ?n_Keeper_term ?n_Keeper_row ?n_Keeper_leads ?n_Keeper_settled ?yC_Room ?oC_Room ?pC_Room ?qC_Room ?mC_Room ?uC_Room ?n_Room_keepers ?n_Room_places ?n_Room_held ?aC_NoKeeper ?kC_NoKeeper ?bC_NoKeeper ?tC_NoKeeper ?dC_NoKeeper ?aC_NoRoom ?kC_NoRoom ?bC_NoRoom ?tC_NoRoom ?dC_NoRoom ?aC_NotLeading ?kC_NotLeading ?bC_NotLeading ?tC_NotLeading ?dC_NotLeading ?aC_OutOfPlace ?kC_OutOfPlace ?bC_OutOfPlace ?tC_OutOfPlace ?dC_OutOfPlace ?aC_RoomError ?kC_RoomError ?bC_RoomError ?tC_RoomError ?dC_RoomError ?X_NoKeeper ?X_NoRoom ?X_NotLeading ?X_OutOfPlace ?h0_NoKeeper ?h1_NoKeeper ?h2_NoKeeper ?h3_NoKeeper ?h4_NoKeeper ?h5_NoKeeper ?h6_NoKeeper ?h7_NoKeeper ?h0_NotLeading ?h1_NotLeading ?h2_NotLeading ?h3_NotLeading ?h4_NotLeading ?h5_NotLeading ?h6_NotLeading ?h7_NotLeading ?h0_NoRoom ?h1_NoRoom ?h2_NoRoom ?h3_NoRoom ?h4_NoRoom ?h5_NoRoom ?h6_NoRoom ?h7_NoRoom ?S_NoKeeper_RoomError ?S_NoKeeper_NoKeeper ?S_NoKeeper_NotLeading ?S_NotLeading_RoomError ?S_NotLeading_NoKeeper ?S_NotLeading_NotLeading ?S_NoRoom_RoomError ?S_NoRoom_NoRoom ?I_NoKeeper_NoKeeper ?I_NoKeeper_NotLeading ?I_NoKeeper_NoRoom ?I_NoKeeper_OutOfPlace ?I_NoKeeper_RoomError ?I_NotLeading_NoKeeper ?I_NotLeading_NotLeading ?I_NotLeading_NoRoom ?I_NotLeading_OutOfPlace ?I_NotLeading_RoomError ?I_NoRoom_NoKeeper ?I_NoRoom_NotLeading ?I_NoRoom_NoRoom ?I_NoRoom_OutOfPlace ?I_NoRoom_RoomError ?I_NoKeeper_ValueError ?I_NotLeading_ValueError ?I_NoRoom_ValueError
    (case gC_Room => k_is); (case gC_Keeper => k_is); (case a0 => k_is); (case l0 => k_is); (case e0 => k_is); (case k0 => k_is); (case a1 => k_is); (case l1 => k_is); (case e1 => k_is); (case k1 => k_is); (case a2 => k_is); (case l2 => k_is); (case e2 => k_is); (case k2 => k_is); (case a3 => k_is); (case l3 => k_is); (case e3 => k_is); (case k3 => k_is); (case a4 => k_is); (case l4 => k_is); (case e4 => k_is); (case k4 => k_is); (case a5 => k_is); (case l5 => k_is); (case e5 => k_is); (case k5 => k_is); (case a6 => k_is); (case i6 => k_is); (case l6 => k_is); (case e6 => k_is); (case k6 => k_is); (case a7 => k_is); (case i7 => k_is); (case l7 => k_is); (case e7 => k_is); (case k7 => k_is); (case a8 => k_is); (case i8 => k_is); (case l8 => k_is); (case e8 => k_is); (case k8 => k_is); (case a9 => k_is); (case i9 => k_is); (case l9 => k_is); (case e9 => k_is); (case k9 => k_is); (case a10 => k_is); (case i10 => k_is); (case l10 => k_is); (case e10 => k_is); (case k10 => k_is); (case a11 => k_is); (case i11 => k_is); (case l11 => k_is); (case e11 => k_is); (case k11 => k_is); (case a12 => k_is); (case i12 => k_is); (case l12 => k_is); (case e12 => k_is); (case k12 => k_is); (case a13 => k_is); (case i13 => k_is); (case l13 => k_is); (case e13 => k_is); (case k13 => k_is); (case a14 => k_is); (case i14 => k_is); (case l14 => k_is); (case e14 => k_is); (case k14 => k_is); (case a15 => k_is); (case i15 => k_is); (case l15 => k_is); (case e15 => k_is); (case k15 => k_is); (case a16 => k_is); (case i16 => k_is); (case l16 => k_is); (case e16 => k_is); (case k16 => k_is); (case a17 => k_is); (case i17 => k_is); (case l17 => k_is); (case e17 => k_is); (case k17 => k_is); (case a18 => k_is); (case i18 => k_is); (case l18 => k_is); (case e18 => k_is); (case k18 => k_is); (case a19 => k_is); (case i19 => k_is); (case l19 => k_is); (case e19 => k_is); (case k19 => k_is); (case a20 => k_is); (case i20 => k_is); (case l20 => k_is); (case e20 => k_is); (case k20 => k_is); (case a21 => k_is); (case i21 => k_is); (case l21 => k_is); (case e21 => k_is); (case k21 => k_is); (case a22 => k_is); (case i22 => k_is); (case l22 => k_is); (case e22 => k_is); (case k22 => k_is); (case a23 => k_is); (case l23 => k_is); (case e23 => k_is); (case k23 => k_is); (case a24 => k_is); (case l24 => k_is); (case e24 => k_is); (case k24 => k_is); (case a25 => k_is); (case l25 => k_is); (case e25 => k_is); (case k25 => k_is); (case a26 => k_is); (case l26 => k_is); (case e26 => k_is); (case k26 => k_is); (case a27 => k_is); (case l27 => k_is); (case e27 => k_is); (case k27 => k_is); (case a28 => k_is); (case l28 => k_is); (case e28 => k_is); (case k28 => k_is); (case a29 => k_is); (case l29 => k_is); (case e29 => k_is); (case k29 => k_is); (case a30 => k_is); (case l30 => k_is); (case e30 => k_is); (case k30 => k_is); (case a31 => k_is); (case l31 => k_is); (case e31 => k_is); (case k31 => k_is); (case a32 => k_is); (case l32 => k_is); (case e32 => k_is); (case k32 => k_is); (case a33 => k_is); (case l33 => k_is); (case e33 => k_is); (case k33 => k_is); (case a34 => k_is); (case l34 => k_is); (case e34 => k_is); (case k34 => k_is); (case a35 => k_is); (case l35 => k_is); (case e35 => k_is); (case k35 => k_is); (case a36 => k_is); (case l36 => k_is); (case e36 => k_is); (case k36 => k_is); (case a37 => k_is); (case l37 => k_is); (case e37 => k_is); (case k37 => k_is); (case z_ValueError => k_is); (case z_abs => k_is); (case z_bool => k_is); (case z_enumerate => k_is); (case z_int => k_is); (case z_isinstance => k_is); (case z_len => k_is); (case z_list => k_is); (case z_max => k_is); (case z_min => k_is); (case z_range => k_is); (case z_sorted => k_is); (case mM_MOST => k_is); (case yC_Keeper => k_is); (case oC_Keeper => k_is); (case pC_Keeper => k_is); (case qC_Keeper => k_is); (case mC_Keeper => k_is); (case uC_Keeper => k_is); (case n_Keeper_term => k_is); (case n_Keeper_row => k_is); (case n_Keeper_leads => k_is); (case n_Keeper_settled => k_is); (case yC_Room => k_is); (case oC_Room => k_is); (case pC_Room => k_is); (case qC_Room => k_is); (case mC_Room => k_is); (case uC_Room => k_is); (case n_Room_keepers => k_is); (case n_Room_places => k_is); (case n_Room_held => k_is); (case aC_NoKeeper => k_is); (case kC_NoKeeper => k_is); (case bC_NoKeeper => k_is); (case tC_NoKeeper => k_is); (case dC_NoKeeper => k_is); (case aC_NoRoom => k_is); (case kC_NoRoom => k_is); (case bC_NoRoom => k_is); (case tC_NoRoom => k_is); (case dC_NoRoom => k_is); (case aC_NotLeading => k_is); (case kC_NotLeading => k_is); (case bC_NotLeading => k_is); (case tC_NotLeading => k_is); (case dC_NotLeading => k_is); (case aC_OutOfPlace => k_is); (case kC_OutOfPlace => k_is); (case bC_OutOfPlace => k_is); (case tC_OutOfPlace => k_is); (case dC_OutOfPlace => k_is); (case aC_RoomError => k_is); (case kC_RoomError => k_is); (case bC_RoomError => k_is); (case tC_RoomError => k_is); (case dC_RoomError => k_is); (case X_NoKeeper => k_exc); (case X_NoRoom => k_exc); (case X_NotLeading => k_exc); (case X_OutOfPlace => k_exc); (case h0_NoKeeper => k_is); (case h1_NoKeeper => k_is); (case h2_NoKeeper => k_is); (case h3_NoKeeper => k_is); (case h4_NoKeeper => k_is); (case h5_NoKeeper => k_is); (case h6_NoKeeper => k_is); (case h7_NoKeeper => k_is); (case h0_NotLeading => k_is); (case h1_NotLeading => k_is); (case h2_NotLeading => k_is); (case h3_NotLeading => k_is); (case h4_NotLeading => k_is); (case h5_NotLeading => k_is); (case h6_NotLeading => k_is); (case h7_NotLeading => k_is); (case h0_NoRoom => k_is); (case h1_NoRoom => k_is); (case h2_NoRoom => k_is); (case h3_NoRoom => k_is); (case h4_NoRoom => k_is); (case h5_NoRoom => k_is); (case h6_NoRoom => k_is); (case h7_NoRoom => k_is); (case S_NoKeeper_RoomError => first | k_is | rfl); (case S_NoKeeper_NoKeeper => first | k_is | rfl); (case S_NoKeeper_NotLeading => first | k_is | rfl); (case S_NotLeading_RoomError => first | k_is | rfl); (case S_NotLeading_NoKeeper => first | k_is | rfl); (case S_NotLeading_NotLeading => first | k_is | rfl); (case S_NoRoom_RoomError => first | k_is | rfl); (case S_NoRoom_NoRoom => first | k_is | rfl); (case I_NoKeeper_NoKeeper => first | k_is | rfl); (case I_NoKeeper_NotLeading => first | k_is | rfl); (case I_NoKeeper_NoRoom => first | k_is | rfl); (case I_NoKeeper_OutOfPlace => first | k_is | rfl); (case I_NoKeeper_RoomError => first | k_is | rfl); (case I_NotLeading_NoKeeper => first | k_is | rfl); (case I_NotLeading_NotLeading => first | k_is | rfl); (case I_NotLeading_NoRoom => first | k_is | rfl); (case I_NotLeading_OutOfPlace => first | k_is | rfl); (case I_NotLeading_RoomError => first | k_is | rfl); (case I_NoRoom_NoKeeper => first | k_is | rfl); (case I_NoRoom_NotLeading => first | k_is | rfl); (case I_NoRoom_NoRoom => first | k_is | rfl); (case I_NoRoom_OutOfPlace => first | k_is | rfl); (case I_NoRoom_RoomError => first | k_is | rfl); (case I_NoKeeper_ValueError => first | k_is | rfl); (case I_NotLeading_ValueError => first | k_is | rfl); (case I_NoRoom_ValueError => first | k_is | rfl)
