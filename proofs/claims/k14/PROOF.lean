import PyProof.Rows.All
import Wide.All
import OpenK.AllK
import Wide.FinOn
import HandS.ForMost
import HandS.Evl
import HandS.FStr
import HandS.StrMore
import HandS.RaiseMore
import HandS.IsInst
import HandS.Walk
import HandS.TupAny
import HandS.Flow
import HandS.Defaults
import HandS.ForExc
import HandS.Head0
import HandS.Head1
import HandS.Head2
import HandS.HeadEnd
import HandS.HeadHook1
import HandS.HeadHook2
import HandS.HeadHook3
import PySem.Challenge.RW_letterheld_k14_names_and_ids
set_option Elab.async false
set_option linter.all false
set_option maxRecDepth 100000
/-! A layer of our own over the hand layer: data by value over a frozen part of the heap, own objects apart. -/
namespace LH
open PySem L2 Evl

mutual
theorem dp_mono {K : PySem.W.Frag} {F F2 : Hp} (e : Ex F F2) : ∀ (d : PyData) (v : V), Dp K F v d → Dp K F2 v d
  | .none, _, .non => .non
  | .bool _, _, .bl b => .bl b
  | .int _, _, .int i => .int i
  | .str _, _, .str x => .str x
  | .list ds, _, .lst h r => .lst (ex_l e h) (dps_mono e ds _ r)
  | .tuple ds, _, .tup h r => .tup (ex_t e h) (dps_mono e ds _ r)
theorem dps_mono {K : PySem.W.Frag} {F F2 : Hp} (e : Ex F F2) : ∀ (ds : List PyData) (vs : List V), DpAll K F vs ds → DpAll K F2 vs ds
  | [], _, .nil => .nil
  | d :: ds, _, .cons h r => .cons (dp_mono e d _ h) (dps_mono e ds _ r)
end
theorem dps_len {K : PySem.W.Frag} {F : Hp} : ∀ {vs : List V} {ds : List PyData}, DpAll K F vs ds → vs.length = ds.length
  | [], [], _ => rfl
  | _ :: _, _ :: _, .cons _ r => congrArg Nat.succ (dps_len r)
theorem dps_app {K : PySem.W.Frag} {F : Hp} : ∀ {vs : List V} {ds : List PyData} {ws : List V} {es : List PyData}, DpAll K F vs ds → DpAll K F ws es → DpAll K F (vs ++ ws) (ds ++ es)
  | [], [], _, _, _, s => s
  | _ :: _, _ :: _, _, _, .cons h r, s => .cons h (dps_app r s)
theorem dps_get {K : PySem.W.Frag} {F : Hp} : ∀ {vs : List V} {ds : List PyData} {i : Nat} {d : PyData}, DpAll K F vs ds → ds[i]? = some d → ∃ v, vs[i]? = some v ∧ Dp K F v d
  | [], [], _, _, _, h => by simp at h
  | v :: vs, d :: ds, 0, x, .cons h r, e => by simp at e; subst e; exact ⟨v, rfl, h⟩
  | v :: vs, d :: ds, i + 1, x, .cons h r, e => by
    obtain ⟨u, a, b⟩ := dps_get (i := i) (d := x) r (by simpa using e)
    exact ⟨u, by simpa using a, b⟩
theorem dps_getV {K : PySem.W.Frag} {F : Hp} : ∀ {vs : List V} {ds : List PyData} {i : Nat} {v : V}, DpAll K F vs ds → vs[i]? = some v → ∃ d, ds[i]? = some d ∧ Dp K F v d
  | [], [], _, _, _, h => by simp at h
  | v :: vs, d :: ds, 0, x, .cons h r, e => by simp at e; subst e; exact ⟨d, rfl, h⟩
  | v :: vs, d :: ds, i + 1, x, .cons h r, e => by
    obtain ⟨u, a, b⟩ := dps_getV (i := i) (v := x) r (by simpa using e)
    exact ⟨u, by simpa using a, b⟩
theorem dps_take {K : PySem.W.Frag} {F : Hp} : ∀ {vs : List V} {ds : List PyData} (n : Nat), DpAll K F vs ds → DpAll K F (vs.take n) (ds.take n)
  | _, _, 0, _ => .nil
  | [], [], _ + 1, _ => .nil
  | _ :: _, _ :: _, n + 1, .cons h r => .cons h (dps_take n r)
theorem dps_drop {K : PySem.W.Frag} {F : Hp} : ∀ {vs : List V} {ds : List PyData} (n : Nat), DpAll K F vs ds → DpAll K F (vs.drop n) (ds.drop n)
  | _, _, 0, r => r
  | [], [], _ + 1, _ => .nil
  | _ :: _, _ :: _, n + 1, .cons h r => dps_drop n r
theorem dps_erase {K : PySem.W.Frag} {F : Hp} : ∀ {vs : List V} {ds : List PyData}, DpAll K F vs ds → ∀ (n : Nat), DpAll K F (vs.eraseIdx n) (ds.eraseIdx n)
  | [], [], _, _ => .nil
  | _ :: _, _ :: _, .cons h r, 0 => r
  | _ :: _, _ :: _, .cons h r, n + 1 => .cons h (dps_erase r n)
theorem dps_strs {K : PySem.W.Frag} {F : Hp} : ∀ {vs : List V} {xs : List Str}, DpAll K F vs (xs.map PyData.str) → vs = xs.map V.str
  | [], [], _ => rfl
  | _ :: _, x :: xs, .cons (.str _) r => by rw [List.map_cons, ← dps_strs r]
theorem dps_ofStrs {K : PySem.W.Frag} {F : Hp} : ∀ (xs : List Str), DpAll K F (xs.map V.str) (xs.map PyData.str)
  | [] => .nil
  | x :: xs => .cons (.str x) (dps_ofStrs xs)
theorem dps_ints {K : PySem.W.Frag} {F : Hp} : ∀ {vs : List V} {xs : List Int}, DpAll K F vs (xs.map PyData.int) → vs = xs.map V.int
  | [], [], _ => rfl
  | _ :: _, x :: xs, .cons (.int _) r => by rw [List.map_cons, ← dps_ints r]
theorem dps_ofInts {K : PySem.W.Frag} {F : Hp} : ∀ (xs : List Int), DpAll K F (xs.map V.int) (xs.map PyData.int)
  | [] => .nil
  | x :: xs => .cons (.int x) (dps_ofInts xs)

/-! ### heaps that grow -/
structure Grow (F H F2 H2 : Hp) : Prop where
  f : Ex F F2
  h : Ex H H2
  sub : Ex F2 H2
  new : ∀ b o, F2 b = some o → F b = none → H b = none
theorem ex_none {H H2 : Hp} (e : Ex H H2) {b : Addr} (h : H2 b = none) : H b = none := fresh_back e h
theorem Grow.refl {F H : Hp} (s : Ex F H) : Grow F H F H := ⟨Ex.refl F, Ex.refl H, s, fun b o h n => by rw [h] at n; cases n⟩
theorem Grow.trans {F H F1 H1 F2 H2 : Hp} (a : Grow F H F1 H1) (b : Grow F1 H1 F2 H2) : Grow F H F2 H2 :=
  ⟨a.f.trans b.f, a.h.trans b.h, b.sub, fun c o h n => by
    cases q : F1 c with
    | none => exact ex_none a.h (b.new c o h q)
    | some u => exact a.new c u q n⟩
theorem ex_upd {F H : Hp} {p : Addr} {o : HO} (s : Ex F H) : Ex (upd F p o) (upd H p o) := fun b u h => by
  by_cases e : b = p
  · subst e; rw [upd_same] at h ⊢; exact h
  · rw [upd_ne e] at h ⊢; exact s b u h
theorem Grow.alloc {F H : Hp} {p : Addr} {o : HO} (s : Ex F H) (n : H p = none) : Grow F H (upd F p o) (upd H p o) :=
  ⟨Ex.new (ex_none s n), Ex.new n, ex_upd s, fun b u h q => by
    by_cases e : b = p
    · subst e; exact n
    · rw [upd_ne e, q] at h; cases h⟩

/-! ### own objects -/
structure Ow where
  P : Addr → Hp → Hp → Prop
  mono : ∀ a F F2 h, Ex F F2 → P a F h → P a F2 h
def emp : Hp := fun _ => none
def sing (a : Addr) (o : HO) : Hp := upd emp a o
def Disj (h k : Hp) : Prop := ∀ b o, h b = some o → k b = none
theorem Disj.symm {h k : Hp} (d : Disj h k) : Disj k h := fun b o e => by
  cases q : h b with
  | none => rfl
  | some u => rw [d b u q] at e; cases e
def Ow.emp : Ow := ⟨fun _ _ h => h = LH.emp, fun _ _ _ _ _ x => x⟩
/-- an own list of data -/
def Ow.lst (K : PySem.W.Frag) (ds : List PyData) : Ow :=
  ⟨fun a F h => ∃ xs, h = sing a (.lst xs) ∧ DpAll K F xs ds, fun a F F2 h e ⟨xs, q, r⟩ => ⟨xs, q, dps_mono e ds xs r⟩⟩

/-- what a slot holds: nothing known, data, own object i -/
inductive Sl where
  | un | d (x : PyData) | o (i : Nat)
structure En where
  s : List Sl
  o : List Ow := []
  /-- what else is known: values that a loop walks -/
  g : List (V × Sl) := []
structure Ct where
  K : PySem.W.Frag
  /-- the rest of the heap at the entry: stays -/
  R : Hp
  /-- the frozen part at the entry -/
  F : Hp

def SlotOk (K : PySem.W.Frag) (F : Hp) (as : List Addr) (v : Option V) : Sl → Prop
  | .un => True
  | .d x => ∃ u, v = some u ∧ Dp K F u x
  | .o i => ∃ a, v = some (.ref a) ∧ as[i]? = some a
structure Parts (K : PySem.W.Frag) (R F H : Hp) (σ : St) (e : En) (as : List Addr) (hs : List Hp) : Prop where
  len : e.s.length ≤ σ.length
  slot : ∀ (i : Nat) (x : Sl) (v : Option V), e.s[i]? = some x → σ[i]? = some v → SlotOk K F as v x
  la : as.length = e.o.length
  lh : hs.length = e.o.length
  obj : ∀ (i : Nat) (a : Addr) (h : Hp) (o : Ow), as[i]? = some a → hs[i]? = some h → e.o[i]? = some o → o.P a F h
  sub : ∀ (i : Nat) (h : Hp), hs[i]? = some h → Ex h H
  dF : ∀ (i : Nat) (h : Hp), hs[i]? = some h → Disj F h
  dR : ∀ (i : Nat) (h : Hp), hs[i]? = some h → Disj R h
  dd : ∀ (i j : Nat) (h k : Hp), i ≠ j → hs[i]? = some h → hs[j]? = some k → Disj h k
  gh : ∀ q ∈ e.g, SlotOk K F as (some q.1) q.2
theorem SlotOk.mono {K : PySem.W.Frag} {F F2 : Hp} {as : List Addr} {v : Option V} {x : Sl} (w : Ex F F2) (z : SlotOk K F as v x) : SlotOk K F2 as v x := by
  cases x with
  | un => trivial
  | d x => obtain ⟨u, e, r⟩ := z; exact ⟨u, e, dp_mono w _ _ r⟩
  | o j => exact z
theorem Parts.grow {K : PySem.W.Frag} {R F H F2 H2 : Hp} {σ : St} {e : En} {as : List Addr} {hs : List Hp} (p : Parts K R F H σ e as hs) (w : Grow F H F2 H2) : Parts K R F2 H2 σ e as hs := by
  refine ⟨p.len, fun i x v h1 h2 => ?_, p.la, p.lh, fun i a h o h1 h2 h3 => o.mono _ _ _ _ w.f (p.obj i a h o h1 h2 h3), fun i h h1 => (p.sub i h h1).trans w.h, fun i h h1 b o q => ?_, p.dR, p.dd, fun q hq => (p.gh q hq).mono w.f⟩
  · have z := p.slot i x v h1 h2
    cases x with
    | un => trivial
    | d x => obtain ⟨u, e, r⟩ := z; exact ⟨u, e, dp_mono w.f _ _ r⟩
    | o j => exact z
  · cases q2 : F b with
    | none => exact ex_none (p.sub i h h1) (w.new b o q q2)
    | some u => exact p.dF i h h1 b u q2
structure Good (C : Ct) (e : En) (σ : St) (F H : Hp) : Prop where
  ff : Ex C.F F
  rh : Ex C.R H
  fh : Ex F H
  fnew : ∀ b o, F b = some o → C.F b = none → C.R b = none
  parts : ∃ as hs, Parts C.K C.R F H σ e as hs
theorem Good.grow {C : Ct} {e : En} {σ : St} {F H F2 H2 : Hp} (g : Good C e σ F H) (w : Grow F H F2 H2) : Good C e σ F2 H2 := by
  obtain ⟨as, hs, p⟩ := g.parts
  refine ⟨g.ff.trans w.f, g.rh.trans w.h, w.sub, fun b o h n => ?_, as, hs, p.grow w⟩
  cases q : F b with
  | none => exact ex_none g.rh (w.new b o h q)
  | some u => exact g.fnew b u q n
theorem Good.ret {C : Ct} {e : En} {σ : St} {F H : Hp} (g : Good C e σ F H) (s : Ex C.F C.R) : Grow C.F C.R F H := ⟨g.ff, g.rh, g.fh, g.fnew⟩

/-! ### what evaluates to what -/
def EvE (C : Ct) (te : TE) (e : En) (d : PyData) : Prop := ∀ σ F H, Good C e σ F H → ∀ Q : VK, (∀ v F2 H2, Grow F H F2 H2 → Dp C.K F2 v d → Q v H2) → te σ H Q
def EvB (C : Ct) (tt : TT) (e : En) (b : Bool) : Prop := ∀ σ F H, Good C e σ F H → ∀ Q : Bool → Hp → Prop, (∀ F2 H2, Grow F H F2 H2 → Q b H2) → tt σ H Q
def EvA (C : Ct) (ta : TA) (e : En) (ds : List PyData) : Prop := ∀ σ F H, Good C e σ F H → ∀ Q : List V → Hp → Prop, (∀ vs F2 H2, Grow F H F2 H2 → DpAll C.K F2 vs ds → Q vs H2) → ta σ H Q
/-- a statement, what stands behind it -/
def Run (C : Ct) (e : En) (P : St → Hp → Prop) : Prop := ∀ σ F H, Good C e σ F H → P σ H
def NX (C : Ct) (e : En) : St → Hp → Prop := fun σ H => ∃ F, Good C e σ F H

section
variable {C : Ct} {e e' : En} {d x y z : PyData} {ds : List PyData} {te ta tb tx : TE} {tt tu : TT} {b : Bool}

theorem EvE.is (h : EvE C te e x) (q : x = y) : EvE C te e y := q ▸ h
theorem EvB.is {b' : Bool} (h : EvB C tt e b) (q : b = b') : EvB C tt e b' := q ▸ h

/-- a value's shape by its data -/
theorem dp_int {K : PySem.W.Frag} {F : Hp} {v : V} {i : Int} (h : Dp K F v (.int i)) : v = .int i := by cases h; rfl
theorem dp_str {K : PySem.W.Frag} {F : Hp} {v : V} {i : Str} (h : Dp K F v (.str i)) : v = .str i := by cases h; rfl
theorem dp_bool {K : PySem.W.Frag} {F : Hp} {v : V} {i : Bool} (h : Dp K F v (.bool i)) : v = .bl i := by cases h; rfl
theorem dp_none {K : PySem.W.Frag} {F : Hp} {v : V} (h : Dp K F v .none) : v = .non := by cases h; rfl
theorem dp_list {K : PySem.W.Frag} {F : Hp} {v : V} (h : Dp K F v (.list ds)) : ∃ a xs, v = .ref a ∧ SqL K F a xs ∧ DpAll K F xs ds := by
  cases h with
  | lst h r => exact ⟨_, _, rfl, h, r⟩
theorem dp_tuple {K : PySem.W.Frag} {F : Hp} {v : V} (h : Dp K F v (.tuple ds)) : ∃ a xs, v = .ref a ∧ SqT K F a xs ∧ DpAll K F xs ds := by
  cases h with
  | tup h r => exact ⟨_, _, rfl, h, r⟩

theorem ee_var {i : Nat} (h : e.s[i]? = some (.d d)) : EvE C (tVar i) e d := fun σ F H g Q q => by
  obtain ⟨as, hs, p⟩ := g.parts
  have hi : i < σ.length := Nat.lt_of_lt_of_le (List.getElem?_eq_some_iff.mp h).1 p.len
  obtain ⟨v, e1, r⟩ := p.slot i _ _ h (List.getElem?_eq_getElem hi)
  exact ⟨v, by rw [List.getElem?_eq_getElem hi, e1], q v F H (Grow.refl g.fh) r⟩
theorem ee_int {i : Int} : EvE C (tC (.int i)) e (.int i) := fun σ F H g Q q => q _ F H (Grow.refl g.fh) (.int i)
theorem ee_str {i : Str} : EvE C (tC (.str i)) e (.str i) := fun σ F H g Q q => q _ F H (Grow.refl g.fh) (.str i)
theorem ee_bl {i : Bool} : EvE C (tC (.bl i)) e (.bool i) := fun σ F H g Q q => q _ F H (Grow.refl g.fh) (.bl i)
theorem ee_non : EvE C (tC .non) e .none := fun σ F H g Q q => q _ F H (Grow.refl g.fh) .non
/-- a constant of the module -/
theorem ee_c {v : V} (h : ∀ F, Dp C.K F v d) : EvE C (tC v) e d := fun σ F H g Q q => q _ F H (Grow.refl g.fh) (h F)

/-- an operation on two values -/
def R2E (K : PySem.W.Frag) (r : R2) (x y z : PyData) : Prop := ∀ F H v u, Ex F H → Dp K F v x → Dp K F u y → ∀ Q : VK, (∀ w F2 H2, Grow F H F2 H2 → Dp K F2 w z → Q w H2) → r v u H Q
theorem ee_op {r : R2} (ha : EvE C ta e x) (hb : EvE C tb e y) (hr : R2E C.K r x y z) : EvE C (tOp r ta tb) e z := fun σ F H g Q q =>
  ha σ F H g _ fun v F1 H1 w1 d1 => hb σ F1 H1 (g.grow w1) _ fun u F2 H2 w2 d2 => hr F2 H2 v u w2.sub (dp_mono w2.f _ _ d1) d2 Q fun w F3 H3 w3 d3 => q w F3 H3 ((w1.trans w2).trans w3) d3
theorem r2_I0 {gg : Int → Int → V} {i j : Int} (h : ∀ F, Dp C.K F (gg i j) z) : R2E C.K (rI0 gg) (.int i) (.int j) z := fun F H v u s a b Q q => by
  cases a; cases b
  exact ⟨i, j, rfl, rfl, q _ F H (Grow.refl s) (h F)⟩
theorem r2_I {Co : Int → Int → Prop} {gg : Int → Int → V} {i j : Int} (hc : Co i j) (h : ∀ F, Dp C.K F (gg i j) z) : R2E C.K (rI Co gg) (.int i) (.int j) z := fun F H v u s a b Q q => by
  cases a; cases b
  exact ⟨i, j, rfl, rfl, hc, q _ F H (Grow.refl s) (h F)⟩
theorem r2_add {K : PySem.W.Frag} {i j : Int} : R2E K (rI0 fun i j => .int (i + j)) (.int i) (.int j) (.int (i + j)) := fun F H v u s a b Q q => by
  cases a; cases b
  exact ⟨i, j, rfl, rfl, q _ F H (Grow.refl s) (.int _)⟩
theorem r2_sub {K : PySem.W.Frag} {i j : Int} : R2E K (rI0 fun i j => .int (i - j)) (.int i) (.int j) (.int (i - j)) := fun F H v u s a b Q q => by
  cases a; cases b
  exact ⟨i, j, rfl, rfl, q _ F H (Grow.refl s) (.int _)⟩
theorem r2_bl {K : PySem.W.Frag} {p : Int → Int → Bool} {i j : Int} : R2E K (rI0 fun i j => .bl (p i j)) (.int i) (.int j) (.bool (p i j)) := fun F H v u s a b Q q => by
  cases a; cases b
  exact ⟨i, j, rfl, rfl, q _ F H (Grow.refl s) (.bl _)⟩

/-! ### lists, tuples -/
theorem ea_nil : EvA C tNil e [] := fun σ F H g Q q => q _ F H (Grow.refl g.fh) .nil
theorem ea_cons {tr : TA} (h : EvE C te e d) (hr : EvA C tr e ds) : EvA C (tCons te tr) e (d :: ds) := fun σ F H g Q q =>
  h σ F H g _ fun v F1 H1 w1 d1 => hr σ F1 H1 (g.grow w1) _ fun vs F2 H2 w2 d2 => q _ F2 H2 (w1.trans w2) (.cons (dp_mono w2.f _ _ d1) d2)
theorem ee_lst {tr : TA} (h : EvA C tr e ds) (hl : ds.length ≤ 100000) : EvE C (tLst tr) e (.list ds) := fun σ F H g Q q =>
  h σ F H g _ fun vs F1 H1 w1 d1 => ⟨sz_of (by rw [dps_len d1]; exact hl), fun p hp => q _ _ _ (w1.trans (Grow.alloc w1.sub hp)) (.lst (sq_of upd_same) (dps_mono (Ex.new (ex_none w1.sub hp)) _ _ d1))⟩
theorem ee_tup {tr : TA} (h : EvA C tr e ds) (hl : ds.length ≤ 100000) : EvE C (tTup tr) e (.tuple ds) := fun σ F H g Q q =>
  h σ F H g _ fun vs F1 H1 w1 d1 => ⟨sz_of (by rw [dps_len d1]; exact hl), fun p hp => q _ _ _ (w1.trans (Grow.alloc w1.sub hp)) (.tup (st_of upd_same) (dps_mono (Ex.new (ex_none w1.sub hp)) _ _ d1))⟩

/-! ### tests -/
theorem eb_test (h : EvE C te e (.bool b)) : EvB C (tTest te) e b := fun σ F H g Q q => h σ F H g _ fun v F2 H2 w d => ⟨b, dp_bool d, q F2 H2 w⟩
theorem eb_B (h : EvE C te e (.bool b)) : EvB C (tB te) e b := fun σ F H g Q q => h σ F H g _ fun v F2 H2 w d => ⟨b, dp_bool d, q F2 H2 w⟩
theorem eb_and {a c : Bool} (h1 : EvB C tt e a) (h2 : a = true → EvB C tu e c) : EvB C (tAnd tt tu) e (a && c) := fun σ F H g Q q => h1 σ F H g _ fun F1 H1 w1 => by
  cases a with
  | true =>
    show tu σ H1 Q
    exact h2 rfl σ F1 H1 (g.grow w1) Q fun F2 H2 w2 => q F2 H2 (w1.trans w2)
  | false =>
    show Q false H1
    exact q F1 H1 w1
theorem eb_or {a c : Bool} (h1 : EvB C tt e a) (h2 : a = false → EvB C tu e c) : EvB C (tOr tt tu) e (a || c) := fun σ F H g Q q => h1 σ F H g _ fun F1 H1 w1 => by
  cases a with
  | true =>
    show Q true H1
    exact q F1 H1 w1
  | false =>
    show tu σ H1 Q
    exact h2 rfl σ F1 H1 (g.grow w1) Q fun F2 H2 w2 => q F2 H2 (w1.trans w2)
theorem eb_not {a : Bool} (h : EvB C tt e a) : EvB C (tNot tt) e (!a) := fun σ F H g Q q => h σ F H g _ fun F1 H1 w1 => q F1 H1 w1
theorem ee_andV {a c : Bool} (h1 : EvE C ta e (.bool a)) (h2 : a = true → EvE C tb e (.bool c)) : EvE C (tAndV ta tb) e (.bool (a && c)) := fun σ F H g Q q => h1 σ F H g _ fun v F1 H1 w1 d1 => ⟨a, dp_bool d1, by
  cases a with
  | true =>
    show tb σ H1 Q
    exact h2 rfl σ F1 H1 (g.grow w1) Q fun v F2 H2 w2 d2 => q v F2 H2 (w1.trans w2) d2
  | false =>
    show Q (.bl false) H1
    exact q _ F1 H1 w1 (.bl _)⟩
theorem ee_orV {a c : Bool} (h1 : EvE C ta e (.bool a)) (h2 : a = false → EvE C tb e (.bool c)) : EvE C (tOrV ta tb) e (.bool (a || c)) := fun σ F H g Q q => h1 σ F H g _ fun v F1 H1 w1 d1 => ⟨a, dp_bool d1, by
  cases a with
  | true =>
    show Q (.bl true) H1
    exact q _ F1 H1 w1 (.bl _)
  | false =>
    show tb σ H1 Q
    exact h2 rfl σ F1 H1 (g.grow w1) Q fun v F2 H2 w2 d2 => q v F2 H2 (w1.trans w2) d2⟩
theorem ee_notV {a : Bool} (h : EvE C ta e (.bool a)) : EvE C (tNotV ta) e (.bool (!a)) := fun σ F H g Q q => h σ F H g _ fun v F1 H1 w1 d1 => ⟨a, dp_bool d1, q _ F1 H1 w1 (.bl _)⟩
theorem ee_if (h : EvB C tt e b) (h1 : b = true → EvE C ta e d) (h2 : b = false → EvE C tb e d) : EvE C (tIf tt ta tb) e d := fun σ F H g Q q => h σ F H g _ fun F1 H1 w1 => by
  cases b with
  | true =>
    show ta σ H1 Q
    exact h1 rfl σ F1 H1 (g.grow w1) Q fun v F2 H2 w2 d2 => q v F2 H2 (w1.trans w2) d2
  | false =>
    show tb σ H1 Q
    exact h2 rfl σ F1 H1 (g.grow w1) Q fun v F2 H2 w2 d2 => q v F2 H2 (w1.trans w2) d2
def isNone : PyData → Bool
  | .none => true
  | _ => false
theorem dp_isN {K : PySem.W.Frag} {F : Hp} {v : V} (h : Dp K F v d) : decide (v = V.non) = isNone d := by cases h <;> simp [isNone]
theorem ee_isN (h : EvE C ta e d) : EvE C (tIsN ta) e (.bool (isNone d)) := fun σ F H g Q q => h σ F H g _ fun v F1 H1 w1 d1 => by
  have z := dp_isN d1
  show Q (.bl (decide (v = V.non))) H1
  rw [z]
  exact q _ F1 H1 w1 (.bl _)

/-! ### built-ins, methods, calls by data -/
/-- what a built-in's rule gives on data -/
def RCE (K : PySem.W.Frag) (r : List V → Hp → VK → Prop) (ds : List PyData) (z : PyData) : Prop := ∀ F H vs, Ex F H → DpAll K F vs ds → ∀ Q : VK, (∀ w F2 H2, Grow F H F2 H2 → Dp K F2 w z → Q w H2) → r vs H Q
theorem ee_cb {r : List V → Hp → VK → Prop} {tr : TA} (h : EvA C tr e ds) (hr : RCE C.K r ds z) : EvE C (tCB r tr) e z := fun σ F H g Q q =>
  h σ F H g _ fun vs F1 H1 w1 d1 => hr F1 H1 vs w1.sub d1 Q fun w F2 H2 w2 d2 => q w F2 H2 (w1.trans w2) d2
/-- a def of data: what it gives -/
def spF (K : PySem.W.Frag) (f : List PyData → PyData → Prop) : Sp := fun vs H Q _ => ∃ F ds d, Ex F H ∧ DpAll K F vs ds ∧ f ds d ∧ ∀ v F2 H2, Grow F H F2 H2 → Dp K F2 v d → Q v H2
theorem ee_call {f : List PyData → PyData → Prop} {E : XK} {tr : TA} (h : EvA C tr e ds) (hf : f ds d) : EvE C (tCall (spF C.K f) [] E tr) e d := fun σ F H g Q q =>
  h σ F H g _ fun vs F1 H1 w1 d1 => ⟨F1, ds, d, w1.sub, by rw [List.append_nil]; exact d1, hf, fun v F2 H2 w2 d2 => q v F2 H2 (w1.trans w2) d2⟩

/-! ### statements -/
variable {D : Ends} {t u : TS} {P : St → Hp → Prop}
def En.set (e : En) (i : Nat) (d : PyData) : En := ⟨e.s.set i (.d d), e.o, e.g⟩
theorem Good.set {σ : St} {F H : Hp} {i : Nat} {v : V} (g : Good C e σ F H) (h : Dp C.K F v d) : Good C (e.set i d) (σ.set i (some v)) F H := by
  obtain ⟨as, hs, p⟩ := g.parts
  refine ⟨g.ff, g.rh, g.fh, g.fnew, as, hs, by show (e.s.set i _).length ≤ _; rw [List.length_set, List.length_set]; exact p.len, fun j x w h1 h2 => ?_, p.la, p.lh, p.obj, p.sub, p.dF, p.dR, p.dd, p.gh⟩
  have h1' : (e.s.set i (.d d))[j]? = some x := h1
  by_cases hj : i = j
  · subst hj
    rw [List.getElem?_set] at h1' h2
    simp only [if_true] at h1' h2
    split at h1'
    · split at h2
      · cases h1'; cases h2; exact ⟨v, rfl, h⟩
      · cases h2
    · cases h1'
  · rw [List.getElem?_set_ne hj] at h1' h2
    exact p.slot j x w h1' h2
theorem r_seq (h : Run C e (t { D with nx := u D })) : Run C e (tSeq t u D) := h
theorem r_asg {i : Nat} (h : EvE C te e d) (k : Run C (e.set i d) D.nx) : Run C e (tAsg te (gName i) D) := fun σ F H g =>
  h σ F H g _ fun v F2 H2 w r => k _ F2 H2 ((g.grow w).set r)
theorem r_drop (h : EvE C te e d) (k : Run C e D.nx) : Run C e (tDrop te D) := fun σ F H g => h σ F H g _ fun v F2 H2 w r => k _ F2 H2 (g.grow w)
theorem r_if (h : EvB C tt e b) (h1 : b = true → Run C e (t D)) (h2 : b = false → Run C e (u D)) : Run C e (tIfS tt t u D) := fun σ F H g => h σ F H g _ fun F2 H2 w => by
  cases b with
  | true =>
    show t D σ H2
    exact h1 rfl σ F2 H2 (g.grow w)
  | false =>
    show u D σ H2
    exact h2 rfl σ F2 H2 (g.grow w)
theorem r_next (k : Run C e D.nx) : Run C e (tNext D) := k
def RetE (C : Ct) (e : En) (D : Ends) (d : PyData) : Prop := ∀ σ v F H, Good C e σ F H → Dp C.K F v d → D.rt v H
theorem r_ret (h : EvE C te e d) (k : RetE C e D d) : Run C e (tRet te D) := fun σ F H g => h σ F H g _ fun v F2 H2 w r => k σ v F2 H2 (g.grow w) r
theorem r_cut {e' : En} (h : Run C e (t { D with nx := NX C e' })) (k : Run C e' (u D)) : Run C e (tCut t u D) := fun σ F H g => ⟨NX C e', h σ F H g, fun σ' H' ⟨F', g'⟩ => k σ' F' H' g'⟩
/-- forgetting -/
inductive LeS : List Sl → List Sl → Prop
  | nil : LeS [] []
  | same {x a b} : LeS a b → LeS (x :: a) (x :: b)
  | un {x a b} : LeS a b → LeS (x :: a) (.un :: b)
theorem LeS.refl : ∀ a, LeS a a
  | [] => .nil
  | x :: a => .same (LeS.refl a)
theorem LeS.len {a b} (h : LeS a b) : a.length = b.length := by induction h <;> simp_all
theorem LeS.at {a b} (h : LeS a b) : ∀ (i : Nat) x, b[i]? = some x → x = .un ∨ a[i]? = some x := by
  induction h with
  | nil => intro i x h; simp at h
  | same h ih => intro i x q; cases i with
    | zero => exact .inr q
    | succ i => exact ih i x (by simpa using q)
  | un h ih => intro i x q; cases i with
    | zero => simp at q; exact .inl q.symm
    | succ i => rcases ih i x (by simpa using q) with z | z
                · exact .inl z
                · exact .inr (by simpa using z)
theorem Good.le {σ : St} {F H : Hp} {s' : List Sl} {g' : List (V × Sl)} (g : Good C e σ F H) (h : LeS e.s s') (hg : ∀ q ∈ g', q ∈ e.g) : Good C ⟨s', e.o, g'⟩ σ F H := by
  obtain ⟨as, hs, p⟩ := g.parts
  refine ⟨g.ff, g.rh, g.fh, g.fnew, as, hs, by show s'.length ≤ _; rw [← h.len]; exact p.len, fun j x w h1 h2 => ?_, p.la, p.lh, p.obj, p.sub, p.dF, p.dR, p.dd, fun q hq => p.gh q (hg q hq)⟩
  rcases h.at j x h1 with z | z
  · subst z; trivial
  · exact p.slot j x w z h2
theorem r_le {s' : List Sl} {g' : List (V × Sl)} (h : LeS e.s s') (k : Run C ⟨s', e.o, g'⟩ P) (hg : ∀ q ∈ g', q ∈ e.g := by intro q h; first | exact h | cases h | (simp at h ⊢; exact h) | (simp [h])) : Run C e P := fun σ F H g => k σ F H (g.le h hg)
theorem r_nx : Run C e (NX C e) := fun σ F H g => ⟨F, g⟩
theorem r_nxle {s' : List Sl} {o' : List Ow} {g' : List (V × Sl)} (h : LeS e.s s') (ho : e.o = o') (hg : ∀ q ∈ g', q ∈ e.g) : Run C e (NX C ⟨s', o', g'⟩) := fun σ F H g => by subst ho; exact ⟨F, g.le h hg⟩
end
end LH

namespace LH
open PySem L2 Evl PySem.Spec PyProof.Rows

/-! ### operations whose operands may be of several kinds -/
theorem opR_or {X : Cx} {f : Value → Value → Sem Value} {r r' : R2} (h : OpR X f r) (h' : OpR X f r') : OpR X f (fun x y H Q => r x y H Q ∨ r' x y H Q) := by
  intro pins s σ H x y v u Q I rx ry q
  rcases q with q | q
  · exact h pins s σ H x y v u Q I rx ry q
  · exact h' pins s σ H x y v u Q I rx ry q
theorem callR_or {X : Cx} {f : Value} {r r' : List V → Hp → VK → Prop} (h : CallR X f r) (h' : CallR X f r') : CallR X f (fun xs H Q => r xs H Q ∨ r' xs H Q) := by
  intro pins s σ H xs us Q I rs q
  rcases q with q | q
  · exact h pins s σ H xs us Q I rs q
  · exact h' pins s σ H xs us Q I rs q
/-- list + list, whatever is known of them -/
def rCatS (K : PySem.W.Frag) : R2 := fun x y H Q => ∃ l b xs zs, x = .ref l ∧ y = .ref b ∧ SqL K H l xs ∧ SqL K H b zs ∧ xs.length + zs.length ≤ sizeLine ∧ ∀ p, H p = none → Q (.ref p) (upd H p (.lst (xs ++ zs)))
theorem add_LL (l : Addr) (items : Array Value) (n : Nat) (dd : Option Addr) (sl : Array (Option Value)) (b : Addr) (items2 : Array Value) (n2 : Nat) (dd2 : Option Addr) (sl2 : Array (Option Value)) (hc0 : items.size + items2.size ≤ sizeLine) :
    Meets (Builtin.«list.__add__» ⟨[.ref l, .ref b], []⟩) (fun _ R s => s.heap.get? l = some { cls := .type "list", dict := dd, data := .seq items n, slots := sl } ∧ s.heap.get? b = some { cls := .type "list", dict := dd2, data := .seq items2 n2, slots := sl2 } ∧ R (.ok (.ret (Value.ref s.heap.objs.size))) { s with heap := s.heap.push { cls := Value.type "list", data := Data.seq (items ++ items2) }, toks := s.toks }) :=
  .of_wp fun prog w A R s h => by obtain ⟨hp, g, d, tk, os⟩ := s; obtain ⟨hl, hb, h⟩ := h; have f1 := AutoSeq1.idx_int; have f2 := AutoSeq1.sub_tuple_tuple; have f3 := AutoSeq1.sub_list_list; have f4 := AutoSeq1.sub_tuple_list; have f5 := AutoSeq1.sub_list_tuple; wp_walk using AutoSeq1.wpAny_loadPart' hl, AutoSeq1.wpAny_loadPart' hb; exact ⟨_, rfl, h⟩
theorem op_catS {X : Cx} : OpR X (binaryOp .Add) (rCatS X.K) := by
  intro pins s σ H x y v u Q I rx ry h
  obtain ⟨l, b, xs, zs, rfl, rfl, hH, hB, hz, q⟩ := h
  cases rx
  cases ry
  obtain ⟨its, r, pl, hl⟩ := I.list hH
  obtain ⟨its2, r2, pl2, hl2⟩ := I.list hB
  obtain ⟨⟨cls, dd, data, sl⟩, n, e, hc, _, hd⟩ := pl
  obtain ⟨⟨cls2, dd2, data2, sl2⟩, n2, e2, hc2, _, hd2⟩ := pl2
  simp only at hc hd hc2 hd2
  subst hc hd hc2 hd2
  have el := r.length
  have el2 := r2.length
  refine PySem.concat_meets ⟨_, e, rfl⟩ ⟨_, e2, rfl⟩ PySem.noFill_list_add PySem.seq_list_add F.slot_list_add F.entry_list_add (F.args_list_add_2 _ _) (add_LL l its.toArray n dd sl b its2.toArray n2 dd2 sl2 (by rw [List.size_toArray, List.size_toArray]; omega)) ⟨e, e2, ?_⟩
  have ea : its.toArray ++ its2.toArray = (its ++ its2).toArray := by simp
  rw [ea]
  exact ⟨.ref _, _, I.lnew (t' := s.toks) (r.append r2) (by rw [List.length_append]; omega), rfl, q _ I.fresh⟩

/-- a + b: ints, texts, lists -/
def rAddA (K : PySem.W.Frag) : R2 := fun x y H Q => (rI0 fun i j => .int (i + j)) x y H Q ∨ (∃ i j, x = .str i ∧ y = .str j ∧ i.length + j.length ≤ sizeLine ∧ Q (.str (i ++ j)) H) ∨ rCatS K x y H Q
theorem op_addA {X : Cx} : OpR X (binaryOp .Add) (rAddA X.K) := opR_or op_add (opR_or op_add_str op_catS)
theorem r2_addI {K : PySem.W.Frag} {i j : Int} : R2E K (rAddA K) (.int i) (.int j) (.int (i + j)) := fun F H v u s a b Q q => by
  cases a; cases b
  exact .inl ⟨i, j, rfl, rfl, q _ F H (Grow.refl s) (.int _)⟩
theorem r2_addS {K : PySem.W.Frag} {i j : Str} (h : i.length + j.length ≤ 1000000) : R2E K (rAddA K) (.str i) (.str j) (.str (i ++ j)) := fun F H v u s a b Q q => by
  cases a; cases b
  exact .inr (.inl ⟨i, j, rfl, rfl, Nat.le_trans h (by decide), q _ F H (Grow.refl s) (.str _)⟩)
theorem r2_addL {K : PySem.W.Frag} {xs ys : List PyData} (h : xs.length + ys.length ≤ 1000000) : R2E K (rAddA K) (.list xs) (.list ys) (.list (xs ++ ys)) := fun F H v u s a b Q q => by
  obtain ⟨l, vs, rfl, h1, r1⟩ := dp_list a
  obtain ⟨m, us, rfl, h2, r2⟩ := dp_list b
  refine .inr (.inr ⟨l, m, vs, us, rfl, rfl, ex_l s h1, ex_l s h2, Nat.le_trans (by rw [dps_len r1, dps_len r2]; exact h) (by decide), fun p hp => ?_⟩)
  exact q _ _ _ (Grow.alloc s hp) (.lst (sq_of upd_same) (dps_mono (Ex.new (ex_none s hp)) _ _ (dps_app r1 r2)))
/-- a < b and its kin: ints, texts -/
def rCmpA (p : Int → Int → Bool) (q : Str → Str → Bool) : R2 := fun x y H Q => (rI0 fun i j => .bl (p i j)) x y H Q ∨ ∃ i j, x = .str i ∧ y = .str j ∧ Q (.bl (q i j)) H
theorem op_ltA {X : Cx} : OpR X (compareOp .Lt) (rCmpA (fun i j => decide (i < j)) fun i j => decide (i.cps.toList < j.cps.toList)) := opR_or op_lt op_lt_str
theorem op_gtA {X : Cx} : OpR X (compareOp .Gt) (rCmpA (fun i j => decide (j < i)) fun i j => decide (j.cps.toList < i.cps.toList)) := opR_or op_gt op_gt_str
theorem op_leA {X : Cx} : OpR X (compareOp .LtE) (rCmpA (fun i j => decide (i ≤ j)) fun i j => !decide (j.cps.toList < i.cps.toList)) := opR_or op_le op_le_str
theorem op_geA {X : Cx} : OpR X (compareOp .GtE) (rCmpA (fun i j => decide (j ≤ i)) fun i j => !decide (i.cps.toList < j.cps.toList)) := opR_or op_ge op_ge_str
theorem r2_cmpI {K : PySem.W.Frag} {p : Int → Int → Bool} {pq : Str → Str → Bool} {i j : Int} : R2E K (rCmpA p pq) (.int i) (.int j) (.bool (p i j)) := fun F H v u s a b Q q => by
  cases a; cases b
  exact .inl ⟨i, j, rfl, rfl, q _ F H (Grow.refl s) (.bl _)⟩
theorem r2_cmpS {K : PySem.W.Frag} {p : Int → Int → Bool} {pq : Str → Str → Bool} {i j : Str} : R2E K (rCmpA p pq) (.str i) (.str j) (.bool (pq i j)) := fun F H v u s a b Q q => by
  cases a; cases b
  exact .inr ⟨i, j, rfl, rfl, q _ F H (Grow.refl s) (.bl _)⟩
/-- == and != of data -/
theorem r2_eq {K : PySem.W.Frag} {x y : PyData} (hx : SeqAt.shaped x = true) (hy : SeqAt.shaped y = true) : R2E K (rEqD K) x y (.bool (PyData.eqv x y)) := fun F H v u s a b Q q =>
  ⟨x, y, dp_mono s _ _ a, dp_mono s _ _ b, hx, hy, q _ F H (Grow.refl s) (.bl _)⟩
theorem r2_ne {K : PySem.W.Frag} {x y : PyData} (hx : SeqAt.shaped x = true) (hy : SeqAt.shaped y = true) : R2E K (rNeD K) x y (.bool (!PyData.eqv x y)) := fun F H v u s a b Q q =>
  ⟨x, y, dp_mono s _ _ a, dp_mono s _ _ b, hx, hy, q _ F H (Grow.refl s) (.bl _)⟩
/-- == and != of values without objects, of data -/
def rEqA (K : PySem.W.Frag) : R2 := fun x y H Q => rEq x y H Q ∨ rEqD K x y H Q
def rNeA (K : PySem.W.Frag) : R2 := fun x y H Q => rNe x y H Q ∨ rNeD K x y H Q
theorem op_eqA {X : Cx} (hu : X.A.units + 64 < cLine) : OpR X (compareOp .Eq) (rEqA X.K) := opR_or op_eq (op_eqD hu)
theorem op_neA {X : Cx} (hu : X.A.units + 64 < cLine) : OpR X (compareOp .NotEq) (rNeA X.K) := opR_or op_ne (op_neD hu)
theorem r2_eqD {K : PySem.W.Frag} {x y : PyData} (hx : SeqAt.shaped x = true) (hy : SeqAt.shaped y = true) : R2E K (rEqA K) x y (.bool (PyData.eqv x y)) := fun F H v u s a b Q q => .inr (r2_eq hx hy F H v u s a b Q q)
theorem r2_neD {K : PySem.W.Frag} {x y : PyData} (hx : SeqAt.shaped x = true) (hy : SeqAt.shaped y = true) : R2E K (rNeA K) x y (.bool (!PyData.eqv x y)) := fun F H v u s a b Q q => .inr (r2_ne hx hy F H v u s a b Q q)
theorem dec_str {i j : Str} : decide (V.str i = V.str j) = decide (i = j) := by simp
theorem dec_int {i j : Int} : decide (V.int i = V.int j) = decide (i = j) := by simp
theorem dec_bl {i j : Bool} : decide (V.bl i = V.bl j) = decide (i = j) := by simp
theorem r2_eqS {K : PySem.W.Frag} {i j : Str} : R2E K (rEqA K) (.str i) (.str j) (.bool (decide (i = j))) := fun F H v u s a b Q q => by
  cases a; cases b
  exact .inl ⟨rfl, by rw [dec_str]; exact q _ F H (Grow.refl s) (.bl _)⟩
theorem r2_neS {K : PySem.W.Frag} {i j : Str} : R2E K (rNeA K) (.str i) (.str j) (.bool (!decide (i = j))) := fun F H v u s a b Q q => by
  cases a; cases b
  exact .inl ⟨rfl, by rw [dec_str]; exact q _ F H (Grow.refl s) (.bl _)⟩
theorem r2_eqI {K : PySem.W.Frag} {i j : Int} : R2E K (rEqA K) (.int i) (.int j) (.bool (decide (i = j))) := fun F H v u s a b Q q => by
  cases a; cases b
  exact .inl ⟨rfl, by rw [dec_int]; exact q _ F H (Grow.refl s) (.bl _)⟩
theorem r2_neI {K : PySem.W.Frag} {i j : Int} : R2E K (rNeA K) (.int i) (.int j) (.bool (!decide (i = j))) := fun F H v u s a b Q q => by
  cases a; cases b
  exact .inl ⟨rfl, by rw [dec_int]; exact q _ F H (Grow.refl s) (.bl _)⟩
theorem r2_eqB {K : PySem.W.Frag} {i j : Bool} : R2E K (rEqA K) (.bool i) (.bool j) (.bool (decide (i = j))) := fun F H v u s a b Q q => by
  cases a; cases b
  exact .inl ⟨rfl, by rw [dec_bl]; exact q _ F H (Grow.refl s) (.bl _)⟩
theorem r2_neB {K : PySem.W.Frag} {i j : Bool} : R2E K (rNeA K) (.bool i) (.bool j) (.bool (!decide (i = j))) := fun F H v u s a b Q q => by
  cases a; cases b
  exact .inl ⟨rfl, by rw [dec_bl]; exact q _ F H (Grow.refl s) (.bl _)⟩
/-! ### subscripts -/
theorem ixN_len {n : Nat} {i : Int} {j : Nat} (h : ixN n i = some j) : j < n := (ixN_seq h).2.1
theorem dps_atI {K : PySem.W.Frag} {F : Hp} {vs : List V} {ds : List PyData} {i : Int} {d : PyData} (r : DpAll K F vs ds) (h : atI ds i = some d) : ∃ v, atI vs i = some v ∧ Dp K F v d := by
  unfold atI at h ⊢
  rw [dps_len r]
  cases e : ixN ds.length i with
  | none => rw [e] at h; cases h
  | some j =>
    rw [e] at h
    exact dps_get r h
theorem r2_ixL {K : PySem.W.Frag} {ds : List PyData} {i : Int} {d : PyData} (h : atI ds i = some d) : R2E K (rIx K) (.list ds) (.int i) d := fun F H v u s a b Q q => by
  cases b
  obtain ⟨l, vs, rfl, h1, r1⟩ := dp_list a
  obtain ⟨w, e, r⟩ := dps_atI r1 h
  exact .inl ⟨l, vs, i, w, rfl, rfl, ex_l s h1, e, q _ F H (Grow.refl s) r⟩
theorem r2_ixT {K : PySem.W.Frag} {ds : List PyData} {i : Int} {d : PyData} (h : atI ds i = some d) : R2E K (rIx K) (.tuple ds) (.int i) d := fun F H v u s a b Q q => by
  cases b
  obtain ⟨l, vs, rfl, h1, r1⟩ := dp_tuple a
  obtain ⟨w, e, r⟩ := dps_atI r1 h
  exact .inr (.inl ⟨l, vs, i, w, rfl, rfl, ex_t s h1, e, q _ F H (Grow.refl s) r⟩)
theorem r2_ixS {K : PySem.W.Frag} {z : Str} {i : Int} {c : Nat} (h : atI z.cps.toList i = some c) (hz : z.length ≤ 1000000) : R2E K (rIx K) (.str z) (.int i) (.str ⟨#[c]⟩) := fun F H v u s a b Q q => by
  cases a; cases b
  exact .inr (.inr ⟨z, i, c, rfl, rfl, Nat.le_trans hz (by decide), h, q _ F H (Grow.refl s) (.str _)⟩)
theorem atI_nat' {α : Type} {xs : List α} {i : Int} {x : α} (h0 : 0 ≤ i) (h : xs[i.toNat]? = some x) : atI xs i = some x := by
  have e : ((i.toNat : Nat) : Int) = i := Int.toNat_of_nonneg h0
  rw [← e]
  exact atI_nat h
section
variable {C : Ct} {e : En} {d x y z : PyData} {ds : List PyData} {te ta tb tx : TE} {tt tu : TT} {b : Bool}
/-! ### slices -/
def EvO (C : Ct) (to : TO) (e : En) (o : Option Int) : Prop := ∀ σ F H, Good C e σ F H → ∀ Q : Option Int → Hp → Prop, (∀ F2 H2, Grow F H F2 H2 → Q o H2) → to σ H Q
theorem eo_no : EvO C tNoPart e none := fun σ F H g Q q => q F H (Grow.refl g.fh)
theorem eo_some {i : Int} (h : EvE C te e (.int i)) : EvO C (tPart te) e (some i) := fun σ F H g Q q => h σ F H g _ fun v F2 H2 w r => ⟨i, dp_int r, q F2 H2 w⟩
/-- a slice, of a list, a text -/
def rSlA2 (K : PySem.W.Frag) : V → Option Int → Option Int → Hp → VK → Prop := fun x lo hi H Q => rSlL K x lo hi H Q ∨ rSlS x lo hi H Q
theorem sl_any {X : Cx} : SlR X (rSlA2 X.K) := by
  intro pins s σ H x v vl vu lo hi sl Q I rx hs pl pu h
  rcases h with h | h
  · exact sl_list pins s σ H x v vl vu lo hi sl Q I rx hs pl pu h
  · exact sl_str pins s σ H x v vl vu lo hi sl Q I rx hs pl pu h
def cutD (xs : List PyData) (lo hi : Option Int) : List PyData := (xs.drop (HT.sIx xs.length 0 lo)).take (HT.sIx xs.length xs.length hi - HT.sIx xs.length 0 lo)
theorem ee_slL {tl th : TO} {lo hi : Option Int} (h : EvE C te e (.list ds)) (h1 : EvO C tl e lo) (h2 : EvO C th e hi) : EvE C (tSl (rSlA2 C.K) te tl th) e (.list (cutD ds lo hi)) := fun σ F H g Q q =>
  h σ F H g _ fun v F1 H1 w1 d1 => h1 σ F1 H1 (g.grow w1) _ fun F2 H2 w2 => h2 σ F2 H2 ((g.grow w1).grow w2) _ fun F3 H3 w3 => by
    obtain ⟨l, vs, rfl, hl, r⟩ := dp_list d1
    have w := (w2.trans w3)
    refine .inl ⟨l, vs, rfl, ex_l w3.sub (ex_l w.f hl), fun p hp => q _ _ _ ((w1.trans w).trans (Grow.alloc w3.sub hp)) (.lst (sq_of upd_same) (dps_mono (Ex.new (ex_none w3.sub hp)) _ _ ?_))⟩
    unfold cutV cutD
    rw [dps_len r]
    exact dps_mono w.f _ _ (dps_take _ (dps_drop _ r))
theorem ee_slS {tl th : TO} {lo hi : Option Int} {zz : Str} (h : EvE C te e (.str zz)) (h1 : EvO C tl e lo) (h2 : EvO C th e hi) (hz : zz.length ≤ 1000000) : EvE C (tSl (rSlA2 C.K) te tl th) e (.str (cutS zz lo hi)) := fun σ F H g Q q =>
  h σ F H g _ fun v F1 H1 w1 d1 => h1 σ F1 H1 (g.grow w1) _ fun F2 H2 w2 => h2 σ F2 H2 ((g.grow w1).grow w2) _ fun F3 H3 w3 => by
    cases d1
    exact .inr ⟨zz, rfl, Nat.le_trans hz (by decide), q _ F3 H3 ((w1.trans w2).trans w3) (.str _)⟩
/-! ### built-ins -/
theorem dps_one {K : PySem.W.Frag} {F : Hp} {vs : List V} {d : PyData} (r : DpAll K F vs [d]) : ∃ v, vs = [v] ∧ Dp K F v d := by
  cases r with
  | cons h t => cases t; exact ⟨_, rfl, h⟩
def rLenA (K : PySem.W.Frag) : List V → Hp → VK → Prop := fun xs H Q => ∃ x n, xs = [x] ∧ LenV K x H n ∧ Q (.int n) H
theorem call_lenA {X : Cx} : CallR X (.builtin "len") (rLenA X.K) := call_len
theorem rc_lenL {K : PySem.W.Frag} {ds : List PyData} : RCE K (rLenA K) [.list ds] (.int ds.length) := fun F H vs s r Q q => by
  obtain ⟨v, rfl, d1⟩ := dps_one r
  obtain ⟨l, us, rfl, hl, r⟩ := dp_list d1
  exact ⟨_, us.length, rfl, .inl ⟨us, ex_l s hl, rfl⟩, by rw [dps_len r]; exact q _ F H (Grow.refl s) (.int _)⟩
theorem rc_lenT {K : PySem.W.Frag} {ds : List PyData} : RCE K (rLenA K) [.tuple ds] (.int ds.length) := fun F H vs s r Q q => by
  obtain ⟨v, rfl, d1⟩ := dps_one r
  obtain ⟨l, us, rfl, hl, r⟩ := dp_tuple d1
  exact ⟨_, us.length, rfl, .inr ⟨us, ex_t s hl, rfl⟩, by rw [dps_len r]; exact q _ F H (Grow.refl s) (.int _)⟩
theorem rc_lenS {K : PySem.W.Frag} {zz : Str} (hz : zz.length ≤ 1000000) : RCE K (rLenA K) [.str zz] (.int zz.length) := fun F H vs s r Q q => by
  obtain ⟨v, rfl, d1⟩ := dps_one r
  cases d1
  exact ⟨_, zz.length, rfl, ⟨Nat.le_trans hz (by decide), rfl⟩, q _ F H (Grow.refl s) (.int _)⟩
/-- int(n), int(b), int(text) -/
def rIntA : List V → Hp → VK → Prop := fun xs H Q => ((∃ i, xs = [.int i] ∧ Q (.int i) H) ∨ ∃ k, xs = [.bl k] ∧ Q (.int (if k then 1 else 0)) H) ∨ ∃ a n, xs = [.str a] ∧ PySem.intText? a = some n ∧ a.length ≤ 640 ∧ Q (.int n) H
theorem call_intA {X : Cx} : CallR X (.type "int") rIntA := callR_or call_int1 call_int_str
theorem rc_intI {K : PySem.W.Frag} {i : Int} : RCE K rIntA [.int i] (.int i) := fun F H vs s r Q q => by
  obtain ⟨v, rfl, d1⟩ := dps_one r
  cases d1
  exact .inl (.inl ⟨i, rfl, q _ F H (Grow.refl s) (.int _)⟩)
theorem rc_intS {K : PySem.W.Frag} {a : Str} {n : Int} (h : PySem.intText? a = some n) (hl : a.length ≤ 640) : RCE K rIntA [.str a] (.int n) := fun F H vs s r Q q => by
  obtain ⟨v, rfl, d1⟩ := dps_one r
  cases d1
  exact .inr ⟨a, n, rfl, h, hl, q _ F H (Grow.refl s) (.int _)⟩
/-- str(n), str(text) -/
def rStrA : List V → Hp → VK → Prop := fun xs H Q => (∃ i, xs = [.int i] ∧ i.natAbs.log2 < 1920 ∧ Q (.str (toString i)) H) ∨ ∃ a, xs = [.str a] ∧ Q (.str a) H
theorem call_strA {X : Cx} : CallR X (.type "str") rStrA := callR_or call_str_int SkE.call_str_str
theorem rc_strI {K : PySem.W.Frag} {i : Int} (h : i.natAbs.log2 < 1920) : RCE K rStrA [.int i] (.str (toString i)) := fun F H vs s r Q q => by
  obtain ⟨v, rfl, d1⟩ := dps_one r
  cases d1
  exact .inl ⟨i, rfl, h, q _ F H (Grow.refl s) (.str _)⟩
theorem rc_strS {K : PySem.W.Frag} {a : Str} : RCE K rStrA [.str a] (.str a) := fun F H vs s r Q q => by
  obtain ⟨v, rfl, d1⟩ := dps_one r
  cases d1
  exact .inr ⟨a, rfl, q _ F H (Grow.refl s) (.str _)⟩
def rAbs : List V → Hp → VK → Prop := fun xs H Q => ∃ i, xs = [.int i] ∧ Q (.int (if i < 0 then -i else i)) H
theorem call_absA {X : Cx} : CallR X (.builtin "abs") rAbs := call_abs
theorem rc_abs {K : PySem.W.Frag} {i : Int} : RCE K rAbs [.int i] (.int (i.natAbs : Int)) := fun F H vs s r Q q => by
  obtain ⟨v, rfl, d1⟩ := dps_one r
  cases d1
  refine ⟨i, rfl, ?_⟩
  have e : (if i < 0 then -i else i) = (i.natAbs : Int) := by split <;> omega
  rw [e]
  exact q _ F H (Grow.refl s) (.int _)
/-! ### methods of texts -/
/-- a method without arguments, on a text -/
theorem ee_m0 {r : V → List V → Hp → VK → Prop} {a : Str} (h : EvE C te e (.str a)) (hr : ∀ H (Q : VK), (∀ v, Dp C.K H v z → Q v H) → r (.str a) [] H Q) (hz : ∀ F H v, Dp C.K H v z → Dp C.K F v z) : EvE C (tM0 r te) e z := fun σ F H g Q q =>
  h σ F H g _ fun v F1 H1 w1 d1 => by
    cases d1
    exact ⟨⟨a, rfl⟩, hr H1 _ fun v dv => q v F1 H1 w1 (hz _ _ _ dv)⟩
def rM0b (f : Str → Bool) : V → List V → Hp → VK → Prop := fun x xs H Q => ∃ a, x = .str a ∧ xs = [] ∧ True ∧ Q (.bl (f a)) H
theorem ee_m0b {f : Str → Bool} {a : Str} (h : EvE C te e (.str a)) : EvE C (tM0 (rM0b f) te) e (.bool (f a)) := fun σ F H g Q q =>
  h σ F H g _ fun v F1 H1 w1 d1 => by
    cases d1
    exact ⟨⟨a, rfl⟩, a, rfl, rfl, trivial, q _ F1 H1 w1 (.bl _)⟩
theorem ml_isascii {X : Cx} : MtR X "str.isascii" (rM0b Txt.isascii) := mt_isascii
theorem ml_isalpha {X : Cx} : MtR X "str.isalpha" (rM0b Txt.isalpha) := mt_isalpha
theorem ml_islower {X : Cx} : MtR X "str.islower" (rM0b Txt.islower) := mt_islower
theorem ml_isdecimal {X : Cx} : MtR X "str.isdecimal" (rM0b Txt.isdecimal) := mt_isdecimal
def rM1b (f : Str → Str → Bool) : V → List V → Hp → VK → Prop := fun x xs H Q => ∃ a b, x = .str a ∧ xs = [.str b] ∧ Q (.bl (f a b)) H
theorem ee_m1b {f : Str → Str → Bool} {a c : Str} (h : EvE C te e (.str a)) (h2 : EvE C ta e (.str c)) : EvE C (tM1 (rM1b f) te ta) e (.bool (f a c)) := fun σ F H g Q q =>
  h σ F H g _ fun v F1 H1 w1 d1 => by
    cases d1
    refine ⟨⟨a, rfl⟩, h2 σ F1 H1 (g.grow w1) _ fun v F2 H2 w2 d2 => ?_⟩
    cases d2
    exact ⟨a, c, rfl, rfl, q _ F2 H2 (w1.trans w2) (.bl _)⟩
theorem ml_startswith {X : Cx} : MtR X "str.startswith" (rM1b Txt.startswith) := mt_startswith
def rPart : V → List V → Hp → VK → Prop := fun x xs H Q => ∃ a b, x = .str a ∧ xs = [.str b] ∧ (b.length == 0) = false ∧ a.length ≤ sizeLine ∧
    ∀ p, H p = none → Q (.ref p) (upd H p (.tup [.str (Txt.partition a b).1, .str (Txt.partition a b).2.1, .str (Txt.partition a b).2.2]))
theorem ml_partition {X : Cx} : MtR X "str.partition" rPart := mt_partition
theorem ee_part {a c : Str} (h : EvE C te e (.str a)) (h2 : EvE C ta e (.str c)) (hc : (c.length == 0) = false) (ha : a.length ≤ 1000000) :
    EvE C (tM1 rPart te ta) e (.tuple [.str (Txt.partition a c).1, .str (Txt.partition a c).2.1, .str (Txt.partition a c).2.2]) := fun σ F H g Q q =>
  h σ F H g _ fun v F1 H1 w1 d1 => by
    cases d1
    refine ⟨⟨a, rfl⟩, h2 σ F1 H1 (g.grow w1) _ fun v F2 H2 w2 d2 => ?_⟩
    cases d2
    exact ⟨a, c, rfl, rfl, hc, Nat.le_trans ha (by decide), fun p hp => q _ _ _ ((w1.trans w2).trans (Grow.alloc w2.sub hp)) (.tup (st_of upd_same) (.cons (.str _) (.cons (.str _) (.cons (.str _) .nil))))⟩
def rUpper : V → List V → Hp → VK → Prop := fun x xs H Q => ∃ a, x = .str a ∧ xs = [] ∧ a.length ≤ 5592405 ∧ Q (.str (Txt.upper a)) H
theorem ml_upper {X : Cx} : MtR X "str.upper" rUpper := mt_upper
theorem ee_upper {a : Str} (h : EvE C te e (.str a)) (ha : a.length ≤ 1000000) : EvE C (tM0 rUpper te) e (.str (Txt.upper a)) := fun σ F H g Q q =>
  h σ F H g _ fun v F1 H1 w1 d1 => by
    cases d1
    exact ⟨⟨a, rfl⟩, a, rfl, rfl, Nat.le_trans ha (by decide), q _ F1 H1 w1 (.str _)⟩
/-! ### chains -/
theorem ee_chain {r r' : R2} {b c : Bool} (ha : EvE C ta e x) (hb : EvE C tb e y) (hc : EvE C tx e z) (h1 : R2E C.K r x y (.bool b)) (h2 : R2E C.K r' y z (.bool c)) : EvE C (tChain r r' ta tb tx) e (.bool (b && c)) := fun σ F H g Q q =>
  ha σ F H g _ fun v F1 H1 w1 d1 => hb σ F1 H1 (g.grow w1) _ fun u F2 H2 w2 d2 => h1 F2 H2 v u w2.sub (dp_mono w2.f _ _ d1) d2 _ fun k F3 H3 w3 d3 => by
    refine ⟨b, dp_bool d3, ?_⟩
    have w := (w1.trans w2).trans w3
    cases b with
    | true =>
      exact hc σ F3 H3 (g.grow w) _ fun t F4 H4 w4 d4 => h2 F4 H4 u t w4.sub (dp_mono w4.f _ _ (dp_mono w3.f _ _ d2)) d4 Q fun k F5 H5 w5 d5 => q k F5 H5 ((w.trans w4).trans w5) d5
    | false => exact q _ F3 H3 w (.bl _)
/-! ### f-strings -/
theorem ee_fmtS {a : Str} (h : EvE C te e (.str a)) (hz : a.length ≤ 1000000) : EvE C (tFmt te) e (.str a) := fun σ F H g Q q =>
  h σ F H g _ fun v F1 H1 w1 d1 => by
    cases d1
    exact .inl ⟨a, rfl, Nat.le_trans hz (by decide), q _ F1 H1 w1 (.str _)⟩
theorem ee_fmtI {i : Int} (h : EvE C te e (.int i)) (hz : i.natAbs.log2 < 1920) : EvE C (tFmt te) e (.str (toString i)) := fun σ F H g Q q =>
  h σ F H g _ fun v F1 H1 w1 d1 => by
    cases d1
    exact .inr ⟨i, rfl, hz, q _ F1 H1 w1 (.str _)⟩
def tJo (ts : List TE) : TE := fun σ H Q => tJs ts Str.empty σ H fun out H1 => Q (.str out) H1
theorem pe_jo {X : Cx} {v1 v2 : Expr} {rest : List Expr} {ts : List TE} {pos : Pos} (h : PJ X (v1 :: v2 :: rest) ts) : PE X (.JoinedStr (v1 :: v2 :: rest) pos) (tJo ts) := pe_joined h
inductive EvJ (C : Ct) (e : En) : List TE → List Str → Prop where
  | nil : EvJ C e [] []
  | cons {t : TE} {ts : List TE} {a : Str} {as : List Str} (h : EvE C t e (.str a)) (r : EvJ C e ts as) : EvJ C e (t :: ts) (a :: as)
def joinS : Str → List Str → Str
  | acc, [] => acc
  | acc, a :: as => joinS (acc ++ a) as
theorem str_len_app (x y : Str) : (x ++ y).length = x.length + y.length := by
  show (Str.append x y).length = _
  simp [Str.append, Str.length]
theorem joinS_len : ∀ (as : List Str) (acc : Str), acc.length ≤ (joinS acc as).length
  | [], acc => Nat.le_refl _
  | a :: as, acc => Nat.le_trans (by rw [str_len_app]; omega) (joinS_len as (acc ++ a))
theorem ej_run {ts : List TE} {as : List Str} (h : EvJ C e ts as) : ∀ (acc : Str), (joinS acc as).length ≤ 1000000 → ∀ σ F H, Good C e σ F H → ∀ Q : Str → Hp → Prop, (∀ F2 H2, Grow F H F2 H2 → Q (joinS acc as) H2) → tJs ts acc σ H Q := by
  induction h with
  | nil => intro acc hz σ F H g Q q; exact q F H (Grow.refl g.fh)
  | cons h r ih =>
    intro acc hz σ F H g Q q
    refine h σ F H g _ fun v F1 H1 w1 d1 => ?_
    cases d1
    exact ⟨_, rfl, Nat.le_trans (Nat.le_trans (joinS_len _ _) hz) (by decide), ih _ hz σ F1 H1 (g.grow w1) Q fun F2 H2 w2 => q F2 H2 (w1.trans w2)⟩
theorem ee_jo {ts : List TE} {as : List Str} (h : EvJ C e ts as) (hz : (joinS Str.empty as).length ≤ 1000000) : EvE C (tJo ts) e (.str (joinS Str.empty as)) := fun σ F H g Q q =>
  ej_run h Str.empty hz σ F H g _ fun F2 H2 w => q _ F2 H2 w (.str _)
/-! ### isinstance -/
def tyD : PyData → String
  | .none => "NoneType"
  | .bool _ => "bool"
  | .int _ => "int"
  | .str _ => "str"
  | .list _ => "list"
  | .tuple _ => "tuple"
  | .dict _ => "dict"
theorem dp_ty {K : PySem.W.Frag} {F H : Hp} {v : V} {d : PyData} (s : Ex F H) (h : Dp K F v d) : TyX K H v (.type (tyD d)) := by
  cases h with
  | non => exact .base .non
  | bl b => exact .base (.bl b)
  | int i => exact .base (.int i)
  | str x => exact .base (.str x)
  | lst h r =>
    rcases h with (h | ⟨o, h⟩) | ⟨o, its, n, k, c, _⟩
    · exact .base (.lst (s _ _ h))
    · exact .base (.frz (s _ _ h))
    · exact .kList k c
  | tup h r =>
    rcases h with (h | ⟨o, h⟩) | ⟨o, its, n, k, c, _⟩
    · exact .base (.tup (s _ _ h))
    · exact .fTuple (s _ _ h)
    · exact .kTuple k c
/-- isinstance(x, T), T a built-in type -/
theorem ee_isi {T : String} {b : Bool} (h : EvE C te e d) (ht : ∀ (σ : L2.St) (H : Hp) (Q : VK), Q (.ty T) H → tx σ H Q) (hk : kitB (tyD d) T = some b) : EvE C (tCB (rIsi C.K) (tCons te (tCons tx tNil))) e (.bool b) := fun σ F H g Q q =>
  h σ F H g _ fun v F1 H1 w1 d1 => ht σ H1 _ ⟨v, .ty T, .type (tyD d), .type T, b, rfl, .ty T, dp_ty w1.sub d1, kit_ty hk, q _ F1 H1 w1 (.bl _)⟩
theorem ht_c {v : V} : ∀ (σ : L2.St) (H : Hp) (Q : VK), Q v H → tC v σ H Q := fun _ _ _ q => q
theorem kit_bool {b : Bool} : kitB (tyD (.bool b)) "bool" = some true := by show kitB "bool" "bool" = some true; decide +kernel
theorem kit_list {ds : List PyData} : kitB (tyD (.list ds)) "list" = some true := by show kitB "list" "list" = some true; decide +kernel
theorem kit_tuple {ds : List PyData} : kitB (tyD (.tuple ds)) "tuple" = some true := by show kitB "tuple" "tuple" = some true; decide +kernel
theorem kit_str {s : Str} : kitB (tyD (.str s)) "str" = some true := by show kitB "str" "str" = some true; decide +kernel
theorem kit_int {i : Int} : kitB (tyD (.int i)) "int" = some true := by show kitB "int" "int" = some true; decide +kernel
theorem kit_intB {i : Int} : kitB (tyD (.int i)) "bool" = some false := by show kitB "int" "bool" = some false; decide +kernel
theorem kit_boolI {i : Bool} : kitB (tyD (.bool i)) "int" = some true := by show kitB "bool" "int" = some true; decide +kernel
theorem kit_strB {s : Str} : kitB (tyD (.str s)) "bool" = some false := by show kitB "str" "bool" = some false; decide +kernel
/-! ### list(x), tuple(x) -/
end
end LH

namespace LH
open PySem L2 Evl
abbrev Stt := L2.St
/-! ### targets -/
def Same0 (js : List Nat) (σ σ' : Stt) : Prop := σ'.length = σ.length ∧ ∀ i, i ∉ js → σ'[i]? = σ[i]?
def TgE (C : Ct) (g : TG) (js : List Nat) (d : PyData) (e e' : En) : Prop := ∀ σ F H v, Good C e σ F H → Dp C.K F v d → ∀ Q : Stt → Hp → Prop, (∀ σ', Good C e' σ' F H → Same0 js σ σ' → Q σ' H) → g v σ H Q
def TgsE (C : Ct) (g : TGs) (js : List Nat) (ds : List PyData) (e e' : En) : Prop := ∀ σ F H vs, Good C e σ F H → DpAll C.K F vs ds → ∀ Q : Stt → Hp → Prop, (∀ σ', Good C e' σ' F H → Same0 js σ σ' → Q σ' H) → g vs σ H Q
section
variable {C : Ct} {e e' e1 e2 : En} {d x y z : PyData} {ds : List PyData} {te ta tb tx tl : TE} {tt tu : TT} {b : Bool} {D : Ends} {t u : TS} {P : Stt → Hp → Prop} {g : TG} {gs : TGs} {js ks : List Nat}
theorem tg_name {i : Nat} : TgE C (gName i) [i] d e (e.set i d) := fun σ F H v g r Q q => q _ (g.set r) ⟨by simp, fun j hj => by
  have : i ≠ j := fun z => hj (by simp [z])
  rw [List.getElem?_set_ne this]⟩
theorem tg_nil : TgsE C gNil [] [] e e := fun σ F H vs g r Q q => by cases r; exact ⟨rfl, q σ g ⟨rfl, fun _ _ => rfl⟩⟩
theorem Same0.trans {σ σ1 σ2 : Stt} (a : Same0 js σ σ1) (b : Same0 ks σ1 σ2) : Same0 (js ++ ks) σ σ2 := ⟨b.1.trans a.1, fun i h => (b.2 i fun z => h (List.mem_append_right _ z)).trans (a.2 i fun z => h (List.mem_append_left _ z))⟩
theorem tg_cons (h : TgE C g js d e e1) (hr : TgsE C gs ks ds e1 e2) : TgsE C (gCons g gs) (js ++ ks) (d :: ds) e e2 := fun σ F H vs gd r Q q => by
  cases r with
  | cons r1 r2 => exact ⟨_, _, rfl, h σ F H _ gd r1 _ fun σ1 g1 s1 => hr σ1 F H _ g1 r2 Q fun σ2 g2 s2 => q σ2 g2 (s1.trans s2)⟩
theorem tg_tup {n : Nat} (h : TgsE C gs js ds e e') (hn : ds.length = n) : TgE C (gTup C.K n gs) js (.tuple ds) e e' := fun σ F H v gd r Q q => by
  obtain ⟨a, xs, rfl, hs, r⟩ := dp_tuple r
  exact ⟨a, xs, rfl, ex_t gd.fh hs, (dps_len r).trans hn, h σ F H xs gd r Q q⟩
theorem r_asgG (h : EvE C te e d) (hg : TgE C g js d e e') (k : Run C e' D.nx) : Run C e (tAsg te g D) := fun σ F H gd =>
  h σ F H gd _ fun v F2 H2 w r => hg σ F2 H2 v (gd.grow w) r D.nx fun σ' g' _ => k σ' F2 H2 g'

/-! ### loops -/
theorem Good.ghost {σ : Stt} {F H : Hp} {v : V} (gd : Good C e σ F H) (r : Dp C.K F v d) : Good C ⟨e.s, e.o, (v, .d d) :: e.g⟩ σ F H := by
  obtain ⟨as, hs, p⟩ := gd.parts
  exact ⟨gd.ff, gd.rh, gd.fh, gd.fnew, as, hs, p.len, p.slot, p.la, p.lh, p.obj, p.sub, p.dF, p.dR, p.dd, fun q hq => by
    rcases List.mem_cons.mp hq with z | z
    · rw [z]; exact ⟨v, rfl, r⟩
    · exact p.gh q z⟩
theorem Good.known {σ : Stt} {F H : Hp} {v : V} (gd : Good C e σ F H) (h : (v, Sl.d d) ∈ e.g) : Dp C.K F v d := by
  obtain ⟨as, hs, p⟩ := gd.parts
  obtain ⟨u, e1, r⟩ := p.gh _ h
  cases e1
  exact r
theorem for_core {J : It} {n : Nat} {G : Hp → Prop} {Y : Nat → Hp → V → Hp → Prop} (w : Walk J n G Y) {σ : Stt} {H1 : Hp} (E : Nat → En) (it : Nat → PyData) (h0 : NX C (E 0) σ H1)
    (hG : ∀ i σ F H, i ≤ n → Good C (E i) σ F H → G H)
    (hY : ∀ i σ F H x H', i < n → Good C (E i) σ F H → Y i H x H' → ∃ F', Good C (E i) σ F' H' ∧ Dp C.K F' x (it i))
    (hb : ∀ i, i < n → ∃ bE js, TgE C g js (it i) (E i) bE ∧ Run C bE (t { D with nx := NX C (E (i + 1)), ct := NX C (E (i + 1)), bk := D.nx })) (hd : Run C (E n) D.nx) :
    ∃ W : Nat → Nat → Stt → Hp → Prop, (∃ m, W 0 m σ H1) ∧ ∀ i m σ H, W i m σ H →
      (J.stop i H ∧ D.nx σ H) ∨ (J.go i H ∧ ∃ N : Stt → Hp → Prop, (∀ σ' H', N σ' H' → ∃ m', m' < m ∧ W (i + 1) m' σ' H') ∧ ∀ x H', J.yld i H x H' → g x σ H' fun σ2 H2 => t { D with nx := N, ct := N, bk := D.nx } σ2 H2) :=
  for_it w (fun i => NX C (E i)) h0 (fun i σ H hi ⟨F, gd⟩ => hG i σ F H hi gd) (fun i x σ H H' hi ⟨F, gd⟩ y => by
    obtain ⟨F', gd', r⟩ := hY i σ F H x H' hi gd y
    obtain ⟨bE, js, h1, h2⟩ := hb i hi
    exact h1 σ F' H' x gd' r _ fun σ' g' _ => h2 σ' F' H' g') fun σ H ⟨F, gd⟩ => hd σ F H gd
/-- over a list that is data -/
theorem r_forL (h : EvE C tl e (.list ds)) (S : Nat → List Sl) (O : Nat → List Ow) (h0 : LeS e.s (S 0)) (hO : e.o = O 0)
    (hb : ∀ (v : V) i (d : PyData), ds[i]? = some d → ∃ bE js, TgE C g js d ⟨S i, O i, (v, .d (.list ds)) :: e.g⟩ bE ∧ Run C bE (t { D with nx := NX C ⟨S (i + 1), O (i + 1), (v, .d (.list ds)) :: e.g⟩, ct := NX C ⟨S (i + 1), O (i + 1), (v, .d (.list ds)) :: e.g⟩, bk := D.nx }))
    (hd : Run C ⟨S ds.length, O ds.length, e.g⟩ D.nx) : Run C e (tFor (iList C.K tl) g t D) := fun σ F H gd => h σ F H gd _ fun v F1 H1 w1 r => by
  obtain ⟨a, xs, rfl, hs, rs⟩ := dp_list r
  have el : xs.length = ds.length := dps_len rs
  have hq : ∀ σ F H i, Good C ⟨S i, O i, (.ref a, .d (.list ds)) :: e.g⟩ σ F H → ∃ ys, SqL C.K H a ys ∧ SqL C.K F a ys ∧ DpAll C.K F ys ds := fun σ F H i gd => by
    obtain ⟨b, ys, q, h1, r1⟩ := dp_list (gd.known (List.mem_cons_self))
    cases q
    exact ⟨ys, ex_l gd.fh h1, h1, r1⟩
  refine ⟨a, rfl, ⟨xs, ex_l w1.sub hs⟩, ?_⟩
  have G0 : Good C ⟨S 0, O 0, (.ref a, .d (.list ds)) :: e.g⟩ σ F1 H1 := by
    have := ((gd.grow w1).ghost r).le (s' := S 0) (g' := (.ref a, .d (.list ds)) :: e.g) h0 (fun q hq => hq)
    rw [← hO]; exact this
  -- the walk's list is the one at its beginning
  have wk : Walk (Itl C.K a) ds.length (fun H => ∃ ys, SqL C.K H a ys ∧ ys.length = ds.length) (fun i H x H' => H' = H ∧ ∀ ys, SqL C.K H a ys → ys[i]? = some x) :=
    ⟨fun i H hi ⟨ys, q, l⟩ => ⟨ys, ys[i], q, by simp [l, hi]⟩, fun H ⟨ys, q, l⟩ => ⟨ys, q, by omega⟩, fun i H x H' hi _ y => y⟩
  refine for_core (C := C) (g := g) (t := t) (D := D) wk (fun i => ⟨S i, O i, (.ref a, .d (.list ds)) :: e.g⟩) (fun i => ds.getD i .none) ⟨F1, G0⟩ (fun i σ F H hi gd => ?_) (fun i σ F H x H' hi gd y => ?_) (fun i hi => ?_) (fun σ F H gd => ?_)
  · obtain ⟨ys, q, _, r⟩ := hq σ F H i gd
    exact ⟨ys, q, dps_len r⟩
  · obtain ⟨rfl, y⟩ := y
    obtain ⟨ys, q, _, r⟩ := hq σ F _ i gd
    obtain ⟨d, e1, e2⟩ := dps_getV r (y ys q)
    refine ⟨F, gd, ?_⟩
    rw [List.getD_eq_getElem?_getD, e1]
    exact e2
  · have e1 : ds[i]? = some (ds.getD i .none) := by rw [List.getD_eq_getElem?_getD, List.getElem?_eq_getElem hi]; rfl
    exact hb (.ref a) i _ e1
  · exact hd σ F H (gd.le (LeS.refl _) fun q hq => List.mem_cons_of_mem _ hq)
/-- over a tuple that is data -/
theorem r_forT (h : EvE C tl e (.tuple ds)) (S : Nat → List Sl) (O : Nat → List Ow) (h0 : LeS e.s (S 0)) (hO : e.o = O 0)
    (hb : ∀ (v : V) i (d : PyData), ds[i]? = some d → ∃ bE js, TgE C g js d ⟨S i, O i, (v, .d (.tuple ds)) :: e.g⟩ bE ∧ Run C bE (t { D with nx := NX C ⟨S (i + 1), O (i + 1), (v, .d (.tuple ds)) :: e.g⟩, ct := NX C ⟨S (i + 1), O (i + 1), (v, .d (.tuple ds)) :: e.g⟩, bk := D.nx }))
    (hd : Run C ⟨S ds.length, O ds.length, e.g⟩ D.nx) : Run C e (tFor (iTup C.K tl) g t D) := fun σ F H gd => h σ F H gd _ fun v F1 H1 w1 r => by
  obtain ⟨a, xs, rfl, hs, rs⟩ := dp_tuple r
  have el : xs.length = ds.length := dps_len rs
  have hq : ∀ σ F H i, Good C ⟨S i, O i, (.ref a, .d (.tuple ds)) :: e.g⟩ σ F H → ∃ ys, SqT C.K H a ys ∧ SqT C.K F a ys ∧ DpAll C.K F ys ds := fun σ F H i gd => by
    obtain ⟨b, ys, q, h1, r1⟩ := dp_tuple (gd.known (List.mem_cons_self))
    cases q
    exact ⟨ys, ex_t gd.fh h1, h1, r1⟩
  refine ⟨a, rfl, ⟨xs, ex_t w1.sub hs⟩, ?_⟩
  have G0 : Good C ⟨S 0, O 0, (.ref a, .d (.tuple ds)) :: e.g⟩ σ F1 H1 := by
    have := ((gd.grow w1).ghost r).le (s' := S 0) (g' := (.ref a, .d (.tuple ds)) :: e.g) h0 (fun q hq => hq)
    rw [← hO]; exact this
  have wk : Walk (Itt C.K a) ds.length (fun H => ∃ ys, SqT C.K H a ys ∧ ys.length = ds.length) (fun i H x H' => H' = H ∧ ∀ ys, SqT C.K H a ys → ys[i]? = some x) :=
    ⟨fun i H hi ⟨ys, q, l⟩ => ⟨ys, ys[i], q, by simp [l, hi]⟩, fun H ⟨ys, q, l⟩ => ⟨ys, q, by omega⟩, fun i H x H' hi _ y => y⟩
  refine for_core (C := C) (g := g) (t := t) (D := D) wk (fun i => ⟨S i, O i, (.ref a, .d (.tuple ds)) :: e.g⟩) (fun i => ds.getD i .none) ⟨F1, G0⟩ (fun i σ F H hi gd => ?_) (fun i σ F H x H' hi gd y => ?_) (fun i hi => ?_) (fun σ F H gd => ?_)
  · obtain ⟨ys, q, _, r⟩ := hq σ F H i gd
    exact ⟨ys, q, dps_len r⟩
  · obtain ⟨rfl, y⟩ := y
    obtain ⟨ys, q, _, r⟩ := hq σ F _ i gd
    obtain ⟨d, e1, e2⟩ := dps_getV r (y ys q)
    refine ⟨F, gd, ?_⟩
    rw [List.getD_eq_getElem?_getD, e1]
    exact e2
  · have e1 : ds[i]? = some (ds.getD i .none) := by rw [List.getD_eq_getElem?_getD, List.getElem?_eq_getElem hi]; rfl
    exact hb (.ref a) i _ e1
  · exact hd σ F H (gd.le (LeS.refl _) fun q hq => List.mem_cons_of_mem _ hq)
/-- over range(n), range(a, b) -/
theorem r_forR1 {tr : TA} {n : Int} (h : EvA C tr e [.int n]) (hn : n ≤ 1000000) (hm : -1000000 ≤ n) (S : Nat → List Sl) (O : Nat → List Ow) (h0 : LeS e.s (S 0)) (hO : e.o = O 0)
    (hb : ∀ i : Nat, (i : Int) < n → ∃ bE js, TgE C g js (.int (i : Int)) ⟨S i, O i, e.g⟩ bE ∧ Run C bE (t { D with nx := NX C ⟨S (i + 1), O (i + 1), e.g⟩, ct := NX C ⟨S (i + 1), O (i + 1), e.g⟩, bk := D.nx }))
    (hd : Run C ⟨S n.toNat, O n.toNat, e.g⟩ D.nx) : Run C e (tFor (iRng1 tr) g t D) := fun σ F H gd => h σ F H gd _ fun vs F1 H1 w1 r => by
  obtain ⟨v, rfl, d1⟩ := dps_one r
  cases d1
  refine ⟨n, rfl, by omega, by omega, ?_⟩
  have G0 : Good C ⟨S 0, O 0, e.g⟩ σ F1 H1 := by
    have := (gd.grow w1).le (s' := S 0) (g' := e.g) h0 (fun q hq => hq)
    rw [← hO]; exact this
  refine for_core (C := C) (g := g) (t := t) (D := D) (walk_range (lo := 0) (n := n.toNat)) (fun i => ⟨S i, O i, e.g⟩) (fun i => .int (i : Int)) ⟨F1, G0⟩ (fun _ _ _ _ _ _ => trivial) (fun i σ F H x H' hi gd y => ?_) (fun i hi => hb i (by omega)) hd
  obtain ⟨rfl, rfl⟩ := y
  refine ⟨F, gd, ?_⟩
  show Dp C.K F (.int (0 + (i : Int))) (.int (i : Int))
  rw [Int.zero_add]
  exact .int _
theorem r_forR2 {tr : TA} {lo n : Int} (h : EvA C tr e [.int lo, .int n]) (hn : n ≤ 1000000 ∧ -1000000 ≤ n ∧ lo ≤ 1000000 ∧ -1000000 ≤ lo) (S : Nat → List Sl) (O : Nat → List Ow) (h0 : LeS e.s (S 0)) (hO : e.o = O 0)
    (hb : ∀ i : Nat, lo + (i : Int) < n → ∃ bE js, TgE C g js (.int (lo + (i : Int))) ⟨S i, O i, e.g⟩ bE ∧ Run C bE (t { D with nx := NX C ⟨S (i + 1), O (i + 1), e.g⟩, ct := NX C ⟨S (i + 1), O (i + 1), e.g⟩, bk := D.nx }))
    (hd : Run C ⟨S (n - lo).toNat, O (n - lo).toNat, e.g⟩ D.nx) : Run C e (tFor (iRng2 tr) g t D) := fun σ F H gd => h σ F H gd _ fun vs F1 H1 w1 r => by
  cases r with
  | cons r1 r =>
    obtain ⟨v, rfl, d1⟩ := dps_one r
    cases r1
    cases d1
    refine ⟨lo, n, rfl, ⟨by omega, by omega, by omega, by omega⟩, ?_⟩
    have G0 : Good C ⟨S 0, O 0, e.g⟩ σ F1 H1 := by
      have := (gd.grow w1).le (s' := S 0) (g' := e.g) h0 (fun q hq => hq)
      rw [← hO]; exact this
    refine for_core (C := C) (g := g) (t := t) (D := D) (walk_range (lo := lo) (n := (n - lo).toNat)) (fun i => ⟨S i, O i, e.g⟩) (fun i => .int (lo + (i : Int))) ⟨F1, G0⟩ (fun _ _ _ _ _ _ => trivial) (fun i σ F H x H' hi gd y => ?_) (fun i hi => hb i (by omega)) hd
    obtain ⟨rfl, rfl⟩ := y
    exact ⟨F, gd, .int _⟩
/-- over a text's signs -/
theorem r_forS {zz : Str} (h : EvE C tl e (.str zz)) (S : Nat → List Sl) (O : Nat → List Ow) (h0 : LeS e.s (S 0)) (hO : e.o = O 0)
    (hb : ∀ i (c : Nat), zz.cps[i]? = some c → ∃ bE js, TgE C g js (.str ⟨#[c]⟩) ⟨S i, O i, e.g⟩ bE ∧ Run C bE (t { D with nx := NX C ⟨S (i + 1), O (i + 1), e.g⟩, ct := NX C ⟨S (i + 1), O (i + 1), e.g⟩, bk := D.nx }))
    (hd : Run C ⟨S zz.cps.size, O zz.cps.size, e.g⟩ D.nx) : Run C e (tFor (iStr tl) g t D) := fun σ F H gd => h σ F H gd _ fun v F1 H1 w1 r => by
  cases r
  refine ⟨zz, rfl, ?_⟩
  have G0 : Good C ⟨S 0, O 0, e.g⟩ σ F1 H1 := by
    have := (gd.grow w1).le (s' := S 0) (g' := e.g) h0 (fun q hq => hq)
    rw [← hO]; exact this
  refine for_core (C := C) (g := g) (t := t) (D := D) (walk_str (z := zz)) (fun i => ⟨S i, O i, e.g⟩) (fun i => .str ⟨#[zz.cps.getD i 0]⟩) ⟨F1, G0⟩ (fun _ _ _ _ _ _ => trivial) (fun i σ F H x H' hi gd y => ?_) (fun i hi => hb i _ ?_) hd
  · obtain ⟨rfl, c, e1, rfl⟩ := y
    refine ⟨F, gd, ?_⟩
    have : zz.cps.getD i 0 = c := by rw [Array.getD_eq_getD_getElem?, e1]; rfl
    rw [this]
    exact .str _
  · rw [Array.getElem?_eq_getElem hi]
    congr 1
    rw [Array.getD_eq_getD_getElem?, Array.getElem?_eq_getElem hi]; rfl

/-! ### comprehensions -/
def wipeS (s : List Sl) : List Nat → List Sl
  | [] => s
  | v :: vs => (wipeS s vs).set v .un
theorem wipeS_at {s : List Sl} {vs : List Nat} : ∀ {i : Nat} {x : Sl}, (wipeS s vs)[i]? = some x → x = .un ∨ (s[i]? = some x ∧ i ∉ vs) := by
  induction vs with
  | nil => intro i x h; exact .inr ⟨h, by simp⟩
  | cons v vs ih =>
    intro i x h
    unfold wipeS at h
    by_cases hv : v = i
    · subst hv
      rw [List.getElem?_set] at h
      simp only [if_true] at h
      split at h
      · exact .inl (Option.some.inj h).symm
      · cases h
    · rw [List.getElem?_set_ne hv] at h
      rcases ih h with z | ⟨z, n⟩
      · exact .inl z
      · exact .inr ⟨z, by intro m; rcases List.mem_cons.mp m with q | q; exact hv q.symm; exact n q⟩
theorem wipeS_len {s : List Sl} : ∀ {vs : List Nat}, (wipeS s vs).length = s.length
  | [] => rfl
  | v :: vs => by unfold wipeS; rw [List.length_set]; exact wipeS_len
theorem wipe_at {σ : Stt} {vs : List Nat} : ∀ {i : Nat}, i ∉ vs → (wipe σ vs)[i]? = σ[i]? := by
  induction vs with
  | nil => intro i _; rfl
  | cons v vs ih =>
    intro i h
    unfold wipe
    have h1 : v ≠ i := fun z => h (by simp [z])
    rw [List.getElem?_set_ne h1]
    exact ih fun z => h (List.mem_cons_of_mem _ z)
theorem wipe_in {σ : Stt} {vs : List Nat} : ∀ {i : Nat}, i ∈ vs → i < σ.length → (wipe σ vs)[i]? = some none := by
  induction vs with
  | nil => intro i h; cases h
  | cons v vs ih =>
    intro i h hl
    unfold wipe
    by_cases hv : v = i
    · subst hv
      rw [List.getElem?_set_self (by rw [wipe_length]; exact hl)]
    · rw [List.getElem?_set_ne hv]
      exact ih (by rcases List.mem_cons.mp h with q | q; exact absurd q.symm hv; exact q) hl
theorem wipe_same {σ σ2 : Stt} {vs : List Nat} (h : Same0 vs (wipe σ vs) σ2) : wipe σ2 vs = wipe σ vs := by
  have hl : σ2.length = σ.length := by rw [h.1, wipe_length]
  refine List.ext_getElem? fun i => ?_
  by_cases hi : i ∈ vs
  · by_cases hs : i < σ.length
    · rw [wipe_in hi hs, wipe_in hi (by omega)]
    · rw [List.getElem?_eq_none (by rw [wipe_length]; omega), List.getElem?_eq_none (by rw [wipe_length]; omega)]
  · rw [wipe_at hi]
    exact h.2 i hi
theorem Parts.wipe {K : PySem.W.Frag} {R F H : Hp} {σ : Stt} {as : List Addr} {hs : List Hp} {vs : List Nat} (p : Parts K R F H σ e as hs) : Parts K R F H (L2.wipe σ vs) ⟨wipeS e.s vs, e.o, e.g⟩ as hs := by
  refine ⟨by show (wipeS e.s vs).length ≤ _; rw [wipeS_len, wipe_length]; exact p.len, fun i x v h1 h2 => ?_, p.la, p.lh, p.obj, p.sub, p.dF, p.dR, p.dd, p.gh⟩
  rcases wipeS_at h1 with z | ⟨z, n⟩
  · subst z; trivial
  · rw [wipe_at n] at h2
    exact p.slot i x v z h2
/-- what a comprehension has given behind n turns -/
def givenD (n : Nat) (p : Nat → Bool) (f : Nat → PyData) : List PyData := ((List.range n).filter p).map f
theorem givenD_yes {n : Nat} {p : Nat → Bool} {f : Nat → PyData} (h : p n = true) : givenD (n + 1) p f = givenD n p f ++ [f n] := by
  unfold givenD
  rw [List.range_succ, List.filter_append, List.map_append]
  simp [h]
theorem givenD_no {n : Nat} {p : Nat → Bool} {f : Nat → PyData} (h : p n = false) : givenD (n + 1) p f = givenD n p f := by
  unfold givenD
  rw [List.range_succ, List.filter_append, List.map_append]
  simp [h]
theorem givenD_len (n : Nat) (p : Nat → Bool) (f : Nat → PyData) : (givenD n p f).length ≤ n := by
  unfold givenD
  rw [List.length_map]
  have h := List.length_filter_le p (List.range n)
  rw [List.length_range] at h
  exact h
theorem comp_core {J : It} {n : Nat} {G : Hp → Prop} {Y : Nat → Hp → V → Hp → Prop} (w : Walk J n G Y) {σ : Stt} {F1 H1 : Hp} {vs : List Nat} (gd : Good C e σ F1 H1) (it : Nat → PyData) (p : Nat → Bool) (f : Nat → PyData) (hn : n ≤ 1000000)
    (hG : ∀ F H, Ex F1 F → Ex F H → G H) (hY : ∀ i F H x H', i < n → Ex F1 F → Ex F H → Y i H x H' → H' = H ∧ Dp C.K F x (it i))
    (hb : ∀ i, i < n → ∃ bE, TgE C g vs (it i) ⟨wipeS e.s vs, e.o, e.g⟩ bE ∧ EvB C tt bE (p i) ∧ (p i = true → EvE C te bE (f i)))
    {Q : VK} (q : ∀ v F2 H2, Grow F1 H1 F2 H2 → Dp C.K F2 v (.list (givenD n p f)) → Q v H2) :
    ∀ Dl, H1 Dl = none → ∃ W : Nat → Nat → Hp → Prop, (∃ m, W 0 m (upd H1 Dl (.lst []))) ∧ ∀ i m H, W i m H →
      (J.stop i H ∧ Q (.ref Dl) H) ∨ (J.go i H ∧ ∃ Nx : Hp → Prop, (∀ H', Nx H' → ∃ m', m' < m ∧ W (i + 1) m' H') ∧ ∀ x H', J.yld i H x H' → g x (wipe σ vs) H' fun σ2 H2 => wipe σ2 vs = wipe σ vs ∧ tt σ2 H2 fun b H3 =>
        if b = true then te σ2 H3 fun y H4 => ∃ acc, H4 Dl = some (.lst acc) ∧ acc.length < sizeLine ∧ Nx (upd H4 Dl (.lst (acc ++ [y]))) else Nx H3) := by
  intro Dl hD
  obtain ⟨as, hs, pa⟩ := gd.parts
  have hsD : ∀ (i : Nat) (h : Hp), hs[i]? = some h → h Dl = none := fun i h hh => ex_none (pa.sub i h hh) hD
  have rD : C.R Dl = none := ex_none gd.rh hD
  let Pv : Nat → Hp → Prop := fun i H => ∃ F acc, Ex F1 F ∧ Ex F H ∧ F Dl = none ∧ Ex H1 H ∧ (∀ b o, F b = some o → F1 b = none → H1 b = none) ∧ H Dl = some (.lst acc) ∧ DpAll C.K F acc (givenD i p f) ∧ Parts C.K C.R F H σ e as hs
  have good : ∀ F H, Ex F1 F → Ex F H → Ex H1 H → (∀ b o, F b = some o → F1 b = none → H1 b = none) → Parts C.K C.R F H σ e as hs → Good C ⟨wipeS e.s vs, e.o, e.g⟩ (wipe σ vs) F H := fun F H e1 e2 e3 nw pp =>
    ⟨gd.ff.trans e1, gd.rh.trans e3, e2, fun b o h m => by
      cases z : F1 b with
      | none => exact ex_none gd.rh (nw b o h z)
      | some u => exact gd.fnew b u z m, as, hs, pp.wipe⟩
  have exD : ∀ {X H : Hp} {o : HO}, Ex X H → X Dl = none → Ex X (upd H Dl o) := fun {X H o} e m b u hb => by
    rw [upd_ne (ne_of_none hb m)]; exact e b u hb
  have partsD : ∀ {F H : Hp} {o : HO}, Parts C.K C.R F H σ e as hs → Parts C.K C.R F (upd H Dl o) σ e as hs := fun {F H o} pp =>
    ⟨pp.len, pp.slot, pp.la, pp.lh, pp.obj, fun i h hh => exD (pp.sub i h hh) (hsD i h hh), pp.dF, pp.dR, pp.dd, pp.gh⟩
  refine lc_it w Pv ⟨F1, [], Ex.refl F1, exD gd.fh (ex_none gd.fh hD), ex_none gd.fh hD, exD (Ex.refl H1) hD, fun b o h m => by (rw [h] at m; cases m), upd_same, .nil, partsD pa⟩ (fun i H hi ⟨F, acc, e1, e2, _⟩ => hG F H e1 e2) ?_ ?_
  · rintro i x H H' hi ⟨F, acc, e1, e2, fD, e3, nw, hl, rs, pp⟩ y
    obtain ⟨rfl, r⟩ := hY i F H x H' hi e1 e2 y
    obtain ⟨bE, ht, hp, hf⟩ := hb i hi
    refine ht _ F H' x (good F H' e1 e2 e3 nw pp) r _ fun σ2 g2 s2 => ⟨wipe_same s2, ?_⟩
    refine hp σ2 F H' g2 _ fun F2 H2 w2 => ?_
    have f2D : F2 Dl = none := by
      cases z : F2 Dl with
      | none => rfl
      | some u => have := w2.new Dl u z fD; rw [hl] at this; cases this
    have nw2 : ∀ b o, F2 b = some o → F1 b = none → H1 b = none := fun b o h m => by
      cases z : F b with
      | none => exact ex_none e3 (w2.new b o h z)
      | some u => exact nw b u z m
    cases hc : p i with
    | true =>
      show te σ2 H2 _
      refine hf hc σ2 F2 H2 (g2.grow w2) _ fun v F3 H3 w3 r3 => ⟨acc, w3.h _ _ (w2.h _ _ hl), ?_, ?_⟩
      · rw [dps_len rs]
        have := givenD_len i p f
        exact Nat.lt_of_le_of_lt (Nat.le_trans this (Nat.le_of_lt (Nat.lt_of_lt_of_le hi hn))) (by decide)
      · have w23 := w2.trans w3
        have f3D : F3 Dl = none := by
          cases z : F3 Dl with
          | none => rfl
          | some u => have := w3.new Dl u z f2D; rw [w2.h _ _ hl] at this; cases this
        refine ⟨F3, acc ++ [v], e1.trans w23.f, exD w3.sub f3D, f3D, exD (e3.trans w23.h) hD, fun b o h m => ?_, upd_same, ?_, partsD (pp.grow w23)⟩
        · cases z : F2 b with
          | none => exact ex_none (e3.trans w2.h) (w3.new b o h z)
          | some u => exact nw2 b u z m
        · rw [givenD_yes hc]
          exact dps_app (dps_mono w23.f _ _ rs) (.cons r3 .nil)
    | false =>
      show Pv (i + 1) H2
      refine ⟨F2, acc, e1.trans w2.f, w2.sub, f2D, e3.trans w2.h, nw2, w2.h _ _ hl, ?_, pp.grow w2⟩
      rw [givenD_no hc]
      exact dps_mono w2.f _ _ rs
  · rintro H ⟨F, acc, e1, e2, fD, e3, nw, hl, rs, pp⟩
    refine q (.ref Dl) (upd F Dl (.lst acc)) H ⟨e1.trans (Ex.new fD), e3, fun b o h => ?_, fun b o h m => ?_⟩ (.lst (sq_of upd_same) (dps_mono (Ex.new fD) _ _ rs))
    · by_cases hb : b = Dl
      · subst hb; rw [upd_same] at h; rw [hl]; exact h
      · rw [upd_ne hb] at h; exact e2 b o h
    · by_cases hb : b = Dl
      · subst hb; exact hD
      · rw [upd_ne hb] at h; exact nw b o h m
theorem ee_lcL {vs : List Nat} (h : EvE C tl e (.list ds)) (p : Nat → Bool) (f : Nat → PyData) (hn : ds.length ≤ 1000000)
    (hb : ∀ i d, ds[i]? = some d → ∃ bE, TgE C g vs d ⟨wipeS e.s vs, e.o, e.g⟩ bE ∧ EvB C tt bE (p i) ∧ (p i = true → EvE C te bE (f i))) : EvE C (tLc (iList C.K tl) g tt te vs) e (.list (givenD ds.length p f)) := fun σ F H gd Q q =>
  h σ F H gd _ fun v F1 H1 w1 r => by
    obtain ⟨a, xs, rfl, hl, rs⟩ := dp_list r
    have el : xs.length = ds.length := dps_len rs
    refine ⟨a, rfl, ⟨xs, ex_l w1.sub hl⟩, ?_⟩
    have wk : Walk (Itl C.K a) ds.length (fun H => SqL C.K H a xs) (YAt xs) := by rw [← el]; exact walk_list
    refine comp_core wk (gd.grow w1) (fun i => ds.getD i .none) p f hn (fun F H e1 e2 => ex_l (e1.trans e2) hl) (fun i F H x H' hi e1 e2 y => ?_) (fun i hi => ?_) fun v F2 H2 w2 r2 => q v F2 H2 (w1.trans w2) r2
    · obtain ⟨d, d1, d2⟩ := dps_getV (dps_mono e1 _ _ rs) y.2
      refine ⟨y.1, ?_⟩
      rw [List.getD_eq_getElem?_getD, d1]
      exact d2
    · exact hb i _ (by rw [List.getD_eq_getElem?_getD, List.getElem?_eq_getElem hi]; rfl)
theorem ee_lcT {vs : List Nat} (h : EvE C tl e (.tuple ds)) (p : Nat → Bool) (f : Nat → PyData) (hn : ds.length ≤ 1000000)
    (hb : ∀ i d, ds[i]? = some d → ∃ bE, TgE C g vs d ⟨wipeS e.s vs, e.o, e.g⟩ bE ∧ EvB C tt bE (p i) ∧ (p i = true → EvE C te bE (f i))) : EvE C (tLc (iTup C.K tl) g tt te vs) e (.list (givenD ds.length p f)) := fun σ F H gd Q q =>
  h σ F H gd _ fun v F1 H1 w1 r => by
    obtain ⟨a, xs, rfl, hl, rs⟩ := dp_tuple r
    have el : xs.length = ds.length := dps_len rs
    refine ⟨a, rfl, ⟨xs, ex_t w1.sub hl⟩, ?_⟩
    have wk : Walk (Itt C.K a) ds.length (fun H => SqT C.K H a xs) (YAt xs) := by rw [← el]; exact walk_tup
    refine comp_core wk (gd.grow w1) (fun i => ds.getD i .none) p f hn (fun F H e1 e2 => ex_t (e1.trans e2) hl) (fun i F H x H' hi e1 e2 y => ?_) (fun i hi => ?_) fun v F2 H2 w2 r2 => q v F2 H2 (w1.trans w2) r2
    · obtain ⟨d, d1, d2⟩ := dps_getV (dps_mono e1 _ _ rs) y.2
      refine ⟨y.1, ?_⟩
      rw [List.getD_eq_getElem?_getD, d1]
      exact d2
    · exact hb i _ (by rw [List.getD_eq_getElem?_getD, List.getElem?_eq_getElem hi]; rfl)
theorem ee_lcS {vs : List Nat} {zz : Str} (h : EvE C tl e (.str zz)) (p : Nat → Bool) (f : Nat → PyData) (hn : zz.cps.size ≤ 1000000)
    (hb : ∀ i c, zz.cps[i]? = some c → ∃ bE, TgE C g vs (.str ⟨#[c]⟩) ⟨wipeS e.s vs, e.o, e.g⟩ bE ∧ EvB C tt bE (p i) ∧ (p i = true → EvE C te bE (f i))) : EvE C (tLc (iStr tl) g tt te vs) e (.list (givenD zz.cps.size p f)) := fun σ F H gd Q q =>
  h σ F H gd _ fun v F1 H1 w1 r => by
    cases r
    refine ⟨zz, rfl, ?_⟩
    refine comp_core (walk_str (z := zz)) (gd.grow w1) (fun i => .str ⟨#[zz.cps.getD i 0]⟩) p f hn (fun _ _ _ _ => trivial) (fun i F H x H' hi e1 e2 y => ?_) (fun i hi => hb i _ ?_) fun v F2 H2 w2 r2 => q v F2 H2 (w1.trans w2) r2
    · obtain ⟨rfl, c, e1, rfl⟩ := y
      refine ⟨rfl, ?_⟩
      have : zz.cps.getD i 0 = c := by rw [Array.getD_eq_getD_getElem?, e1]; rfl
      rw [this]
      exact .str _
    · rw [Array.getElem?_eq_getElem hi]
      congr 1
      rw [Array.getD_eq_getD_getElem?, Array.getElem?_eq_getElem hi]; rfl
theorem ee_lcR1 {vs : List Nat} {tr : TA} {n : Int} (h : EvA C tr e [.int n]) (p : Nat → Bool) (f : Nat → PyData) (hn : n ≤ 1000000 ∧ -1000000 ≤ n)
    (hb : ∀ i : Nat, (i : Int) < n → ∃ bE, TgE C g vs (.int (i : Int)) ⟨wipeS e.s vs, e.o, e.g⟩ bE ∧ EvB C tt bE (p i) ∧ (p i = true → EvE C te bE (f i))) : EvE C (tLc (iRng1 tr) g tt te vs) e (.list (givenD n.toNat p f)) := fun σ F H gd Q q =>
  h σ F H gd _ fun us F1 H1 w1 r => by
    obtain ⟨v, rfl, d1⟩ := dps_one r
    cases d1
    refine ⟨n, rfl, by omega, by omega, ?_⟩
    refine comp_core (walk_range (lo := 0) (n := n.toNat)) (gd.grow w1) (fun i => .int (i : Int)) p f (by omega) (fun _ _ _ _ => trivial) (fun i F H x H' hi e1 e2 y => ?_) (fun i hi => hb i (by omega)) fun v F2 H2 w2 r2 => q v F2 H2 (w1.trans w2) r2
    obtain ⟨rfl, rfl⟩ := y
    refine ⟨rfl, ?_⟩
    show Dp C.K F (.int (0 + (i : Int))) (.int (i : Int))
    rw [Int.zero_add]
    exact .int _
theorem ee_lcR2 {vs : List Nat} {tr : TA} {lo n : Int} (h : EvA C tr e [.int lo, .int n]) (p : Nat → Bool) (f : Nat → PyData) (hn : n ≤ 400000 ∧ -400000 ≤ n ∧ lo ≤ 400000 ∧ -400000 ≤ lo)
    (hb : ∀ i : Nat, lo + (i : Int) < n → ∃ bE, TgE C g vs (.int (lo + (i : Int))) ⟨wipeS e.s vs, e.o, e.g⟩ bE ∧ EvB C tt bE (p i) ∧ (p i = true → EvE C te bE (f i))) : EvE C (tLc (iRng2 tr) g tt te vs) e (.list (givenD (n - lo).toNat p f)) := fun σ F H gd Q q =>
  h σ F H gd _ fun us F1 H1 w1 r => by
    cases r with
    | cons r1 r =>
      obtain ⟨v, rfl, d1⟩ := dps_one r
      cases r1
      cases d1
      refine ⟨lo, n, rfl, ⟨by omega, by omega, by omega, by omega⟩, ?_⟩
      refine comp_core (walk_range (lo := lo) (n := (n - lo).toNat)) (gd.grow w1) (fun i => .int (lo + (i : Int))) p f (by omega) (fun _ _ _ _ => trivial) (fun i F H x H' hi e1 e2 y => ?_) (fun i hi => hb i (by omega)) fun v F2 H2 w2 r2 => q v F2 H2 (w1.trans w2) r2
      obtain ⟨rfl, rfl⟩ := y
      exact ⟨rfl, .int _⟩
theorem eb_yes : EvB C tYes e true := fun σ F H g Q q => q F H (Grow.refl g.fh)
/-- what a comprehension over a list without a test gives -/
theorem givenD_map {α : Type} (xs : List α) (f : Nat → PyData) (k : α → PyData) (h : ∀ i x, xs[i]? = some x → f i = k x) : givenD xs.length (fun _ => true) f = xs.map k := by
  unfold givenD
  refine List.ext_getElem? fun i => ?_
  have e : (List.range xs.length).filter (fun _ => true) = List.range xs.length := List.filter_eq_self.mpr fun _ _ => rfl
  rw [e, List.getElem?_map, List.getElem?_map]
  by_cases hi : i < xs.length
  · rw [List.getElem?_range hi, List.getElem?_eq_getElem hi]
    show some (f i) = some (k xs[i])
    rw [h i _ (List.getElem?_eq_getElem hi)]
  · rw [List.getElem?_eq_none (by rw [List.length_range]; omega), List.getElem?_eq_none (by omega)]; rfl
/-- .. and with one -/
theorem givenD_filter {α : Type} (xs : List α) (p : Nat → Bool) (f : Nat → PyData) (q : α → Bool) (k : α → PyData) (hp : ∀ i x, xs[i]? = some x → p i = q x) (h : ∀ i x, xs[i]? = some x → f i = k x) : givenD xs.length p f = (xs.filter q).map k := by
  induction xs generalizing p f with
  | nil => rfl
  | cons x xs ih =>
    have e0 : givenD (xs.length + 1) p f = (if p 0 = true then [f 0] else []) ++ givenD xs.length (fun i => p (i + 1)) (fun i => f (i + 1)) := by
      unfold givenD
      rw [List.range_succ_eq_map, List.filter_cons, List.filter_map]
      cases p 0 <;> simp [Function.comp_def]
    rw [List.length_cons, e0, ih (fun i => p (i + 1)) (fun i => f (i + 1)) (fun i y hi => hp (i + 1) y (by simpa using hi)) (fun i y hi => h (i + 1) y (by simpa using hi)), hp 0 x rfl, h 0 x rfl, List.filter_cons]
    cases q x <;> simp
end
end LH

namespace LH
open PySem L2 Evl PySem.Spec PyProof.Rows
section
variable {C : Ct} {e e' e1 e2 : En} {d x y z : PyData} {ds : List PyData} {te ta tb tx tl : TE} {tt tu : TT} {b : Bool} {D : Ends} {t u : TS} {P : Stt → Hp → Prop} {g : TG}
theorem sing_same {a : Addr} {o : HO} : sing a o a = some o := upd_same
theorem sing_at {a b : Addr} {o u : HO} (h : sing a o b = some u) : b = a ∧ u = o := by
  unfold sing upd at h
  split at h
  · exact ⟨by assumption, (Option.some.inj h).symm⟩
  · cases h
theorem sing_ne {a b : Addr} {o : HO} (h : b ≠ a) : sing a o b = none := by
  unfold sing; rw [upd_ne h]; rfl
/-- xs = [..], a list of one's own -/
theorem r_newL {ta : TA} {i : Nat} (h : EvA C ta e ds) (hl : ds.length ≤ 100000) (k : Run C ⟨e.s.set i (.o e.o.length), e.o ++ [Ow.lst C.K ds], e.g⟩ D.nx) : Run C e (tAsg (tLst ta) (gName i) D) := fun σ F H gd =>
  h σ F H gd _ fun vs F1 H1 w1 r => ⟨sz_of (by rw [dps_len r]; exact hl), fun p hp => by
    have g1 := gd.grow w1
    obtain ⟨as, hs, pa⟩ := g1.parts
    have ex1 : ∀ {X : Hp}, Ex X H1 → Ex X (upd H1 p (.lst vs)) := fun {X} e => e.trans (Ex.new hp)
    have ha : ∀ (n : Nat) (h : Hp), (hs ++ [sing p (.lst vs)])[n]? = some h → hs[n]? = some h ∨ (n = hs.length ∧ h = sing p (.lst vs)) := fun n h q => by
      rcases Nat.lt_trichotomy n hs.length with z | z | z
      · rw [List.getElem?_append_left z] at q; exact .inl q
      · subst z; simp at q; exact .inr ⟨rfl, q.symm⟩
      · rw [List.getElem?_append_right (by omega), List.getElem?_eq_none (by simp; omega)] at q; cases q
    refine k _ F1 _ ⟨g1.ff, ex1 g1.rh, ex1 g1.fh, g1.fnew, as ++ [p], hs ++ [sing p (.lst vs)], by simpa using pa.len, fun j x w h1 h2 => ?_, by simp [pa.la], by simp [pa.lh], fun n a h o h1 h2 h3 => ?_, fun n h q => ?_, fun n h q => ?_, fun n h q => ?_, fun n m h k nm q1 q2 => ?_, fun q hq => ?_⟩
    · by_cases hj : i = j
      · subst hj
        have h1' : (e.s.set i (.o e.o.length))[i]? = some x := h1
        rw [List.getElem?_set] at h1' h2
        simp only [if_true] at h1' h2
        split at h1'
        · split at h2
          · cases h1'; cases h2; exact ⟨p, rfl, by rw [← pa.la]; simp⟩
          · cases h2
        · cases h1'
      · have h1' : (e.s.set i (.o e.o.length))[j]? = some x := h1
        rw [List.getElem?_set_ne hj] at h1' h2
        have z := pa.slot j x w h1' h2
        cases x with
        | un => trivial
        | d x => exact z
        | o n =>
          obtain ⟨a, e1, e2⟩ := z
          exact ⟨a, e1, by rw [List.getElem?_append_left (List.getElem?_eq_some_iff.mp e2).1]; exact e2⟩
    · rcases ha n h h2 with z | ⟨z1, z2⟩
      · have hn : n < hs.length := (List.getElem?_eq_some_iff.mp z).1
        rw [List.getElem?_append_left (by have := pa.la; have := pa.lh; omega)] at h1
        have h3' : (e.o ++ [Ow.lst C.K ds])[n]? = some o := h3
        rw [List.getElem?_append_left (by have := pa.lh; omega)] at h3'
        exact pa.obj n a h o h1 z h3'
      · subst z1 z2
        have h3' : (e.o ++ [Ow.lst C.K ds])[hs.length]? = some o := h3
        rw [pa.lh] at h3'
        simp at h3'
        subst h3'
        have e5 : hs.length = as.length := by rw [pa.lh, pa.la]
        rw [e5] at h1
        simp at h1
        subst h1
        exact ⟨vs, rfl, r⟩
    · rcases ha n h q with z | ⟨z1, z2⟩
      · exact ex1 (pa.sub n h z)
      · subst z2
        intro b u hb
        obtain ⟨rfl, rfl⟩ := sing_at hb
        exact upd_same
    · rcases ha n h q with z | ⟨z1, z2⟩
      · exact pa.dF n h z
      · subst z2
        intro b u hb
        exact sing_ne (ne_of_none (g1.fh _ _ hb) hp)
    · rcases ha n h q with z | ⟨z1, z2⟩
      · exact pa.dR n h z
      · subst z2
        intro b u hb
        exact sing_ne (ne_of_none (g1.rh _ _ hb) hp)
    · rcases ha n h q1 with z | ⟨z1, z2⟩
      · rcases ha m k q2 with y | ⟨y1, y2⟩
        · exact pa.dd n m h k nm z y
        · subst y2
          intro b u hb
          exact sing_ne (ne_of_none (pa.sub n h z _ _ hb) hp)
      · rcases ha m k q2 with y | ⟨y1, y2⟩
        · subst z2
          intro b u hb
          obtain ⟨rfl, rfl⟩ := sing_at hb
          exact ex_none (pa.sub m k y) hp
        · exact absurd (z1.trans y1.symm) nm
    · have z := pa.gh q hq
      revert z
      cases q.2 with
      | un => exact fun z => z
      | d x => exact fun z => z
      | o n => exact fun ⟨a, e1, e2⟩ => ⟨a, e1, by rw [List.getElem?_append_left (List.getElem?_eq_some_iff.mp e2).1]; exact e2⟩⟩
/-- own object j is changed to h' (its part of the heap at a alone changed or grew by what is new) -/
theorem Good.write {σ : Stt} {F H : Hp} {j : Nat} {a : Addr} {o' : Ow} {u : HO} (gd : Good C e σ F H) (as : List Addr) (hs : List Hp) (pa : Parts C.K C.R F H σ e as hs) (h : Hp) (hj : hs[j]? = some h) (ha : (h a).isSome = true)
    (ho : ∀ b, as[j]? = some b → o'.P b F (upd h a u)) : Good C ⟨e.s, e.o.set j o', e.g⟩ σ F (upd H a u) := by
  have hsub : Ex h H := pa.sub j h hj
  obtain ⟨ua, hua⟩ := Option.isSome_iff_exists.mp ha
  have nF : F a = none := (pa.dF j h hj).symm a ua hua
  have nR : C.R a = none := (pa.dR j h hj).symm a ua hua
  have exU : ∀ {X : Hp}, Ex X H → X a = none → Ex X (upd H a u) := fun {X} e m b v hb => by
    rw [upd_ne (ne_of_none hb m)]; exact e b v hb
  have nO : ∀ (n : Nat) (k : Hp), n ≠ j → hs[n]? = some k → k a = none := fun n k nj q => (pa.dd j n h k (Ne.symm nj) hj q) a ua hua
  have at_ : ∀ (n : Nat) (k : Hp), (hs.set j (upd h a u))[n]? = some k → (n = j ∧ k = upd h a u) ∨ (n ≠ j ∧ hs[n]? = some k) := fun n k q => by
    by_cases hn : j = n
    · subst hn
      rw [List.getElem?_set_self (List.getElem?_eq_some_iff.mp hj).1] at q
      exact .inl ⟨rfl, (Option.some.inj q).symm⟩
    · rw [List.getElem?_set_ne hn] at q
      exact .inr ⟨Ne.symm hn, q⟩
  have dU : ∀ {X : Hp}, Disj X h → X a = none → Disj X (upd h a u) := fun {X} d m b v hb => by
    rw [upd_ne (ne_of_none hb m)]; exact d b v hb
  refine ⟨gd.ff, exU gd.rh nR, exU gd.fh nF, gd.fnew, as, hs.set j (upd h a u), pa.len, pa.slot, by simp [pa.la], by simp [pa.lh], fun n b k o h1 h2 h3 => ?_, fun n k q => ?_, fun n k q => ?_, fun n k q => ?_, fun n m k l nm q1 q2 => ?_, pa.gh⟩
  · rcases at_ n k h2 with ⟨rfl, rfl⟩ | ⟨nj, q⟩
    · have h3' : (e.o.set n o')[n]? = some o := h3
      rw [List.getElem?_set_self (by rw [← pa.lh]; exact (List.getElem?_eq_some_iff.mp hj).1)] at h3'
      cases h3'
      exact ho b h1
    · have h3' : (e.o.set j o')[n]? = some o := h3
      rw [List.getElem?_set_ne (Ne.symm nj)] at h3'
      exact pa.obj n b k o h1 q h3'
  · rcases at_ n k q with ⟨rfl, rfl⟩ | ⟨nj, q⟩
    · intro b v hb
      by_cases hb' : b = a
      · subst hb'; rw [upd_same] at hb ⊢; exact hb
      · rw [upd_ne hb'] at hb ⊢; exact hsub b v hb
    · exact exU (pa.sub n k q) (nO n k nj q)
  · rcases at_ n k q with ⟨rfl, rfl⟩ | ⟨nj, q⟩
    · exact dU (pa.dF n h hj) nF
    · exact pa.dF n k q
  · rcases at_ n k q with ⟨rfl, rfl⟩ | ⟨nj, q⟩
    · exact dU (pa.dR n h hj) nR
    · exact pa.dR n k q
  · rcases at_ n k q1 with ⟨rfl, rfl⟩ | ⟨nj, p1⟩
    · rcases at_ m l q2 with ⟨rfl, rfl⟩ | ⟨mj, p2⟩
      · exact absurd rfl nm
      · exact (dU (pa.dd n m h l nm hj p2).symm (nO m l mj p2)).symm
    · rcases at_ m l q2 with ⟨rfl, rfl⟩ | ⟨mj, p2⟩
      · exact dU (pa.dd n m k h nm p1 hj) (nO n k nj p1)
      · exact pa.dd n m k l nm p1 p2
/-- xs.append(e), xs a list of one's own -/
theorem r_app {i j : Nat} (hi : e.s[i]? = some (.o j)) (hj : e.o[j]? = some (Ow.lst C.K ds)) (h : EvE C te e d) (hl : ds.length < 100000) (k : Run C ⟨e.s, e.o.set j (Ow.lst C.K (ds ++ [d])), e.g⟩ D.nx) :
    Run C e (tDrop (tBM C.K "list" rAppend (tVar i) (tCons te tNil)) D) := fun σ F H gd => by
  obtain ⟨as, hs, pa⟩ := gd.parts
  have hi' : i < σ.length := Nat.lt_of_lt_of_le (List.getElem?_eq_some_iff.mp hi).1 pa.len
  obtain ⟨a, ea, eas⟩ := pa.slot i _ _ hi (List.getElem?_eq_getElem hi')
  have hjl : j < hs.length := by rw [pa.lh]; exact (List.getElem?_eq_some_iff.mp hj).1
  obtain ⟨xs, hx, rx⟩ := pa.obj j a _ _ eas (List.getElem?_eq_getElem hjl) hj
  have hH : H a = some (.lst xs) := pa.sub j _ (List.getElem?_eq_getElem hjl) a _ (by rw [hx]; exact sing_same)
  refine ⟨.ref a, by rw [List.getElem?_eq_getElem hi', ea], .inl ⟨rfl, xs, sq_of hH⟩, ?_⟩
  refine h σ F H gd _ fun v F1 H1 w1 r => ?_
  refine ⟨a, xs, v, rfl, rfl, w1.h _ _ hH, sz_lt (by rw [dps_len rx]; exact hl), ?_⟩
  have g1 := gd.grow w1
  have pa1 := pa.grow w1
  refine k σ F1 _ (g1.write (o' := Ow.lst C.K (ds ++ [d])) as hs pa1 _ (List.getElem?_eq_getElem hjl) (by rw [hx, sing_same]; rfl) fun b hb => ?_)
  rw [eas] at hb
  cases hb
  refine ⟨xs ++ [v], ?_, dps_app (dps_mono w1.f _ _ rx) (.cons r .nil)⟩
  rw [hx]
  unfold sing
  rw [upd_upd]
/-- what was one's own list is data from here on -/
def frzS (s : List Sl) (j : Nat) (ds : List PyData) : List Sl := s.map fun x => match x with
  | .o n => if n = j then .d (.list ds) else .o n
  | x => x
def frzG (g : List (V × Sl)) (j : Nat) (ds : List PyData) : List (V × Sl) := g.map fun q => (q.1, match q.2 with
  | .o n => if n = j then .d (.list ds) else .o n
  | x => x)
theorem Good.frz {σ : Stt} {F H : Hp} {j : Nat} (gd : Good C e σ F H) (hj : e.o[j]? = some (Ow.lst C.K ds)) : ∃ F2, Good C ⟨frzS e.s j ds, e.o.set j Ow.emp, frzG e.g j ds⟩ σ F2 H ∧ Ex F F2 := by
  obtain ⟨as, hs, pa⟩ := gd.parts
  have hjl : j < hs.length := by rw [pa.lh]; exact (List.getElem?_eq_some_iff.mp hj).1
  have hja : j < as.length := by rw [pa.la]; exact (List.getElem?_eq_some_iff.mp hj).1
  have ehj := List.getElem?_eq_getElem hjl
  obtain ⟨xs, hx, rx⟩ := pa.obj j _ _ _ (List.getElem?_eq_getElem hja) ehj hj
  have hH : H as[j] = some (.lst xs) := pa.sub j _ ehj _ _ (by rw [hx]; exact sing_same)
  have nF : F as[j] = none := (pa.dF j _ ehj).symm as[j] (.lst xs) (by rw [hx]; exact sing_same)
  have nR : C.R as[j] = none := (pa.dR j _ ehj).symm as[j] (.lst xs) (by rw [hx]; exact sing_same)
  have eF : Ex F (upd F as[j] (.lst xs)) := Ex.new nF
  have at_ : ∀ (n : Nat) (k : Hp), (hs.set j LH.emp)[n]? = some k → (n = j ∧ k = LH.emp) ∨ (n ≠ j ∧ hs[n]? = some k) := fun n k q => by
    by_cases hn : j = n
    · subst hn
      rw [List.getElem?_set_self hjl] at q
      exact .inl ⟨rfl, (Option.some.inj q).symm⟩
    · rw [List.getElem?_set_ne hn] at q
      exact .inr ⟨Ne.symm hn, q⟩
  have nO : ∀ (n : Nat) (k : Hp), n ≠ j → hs[n]? = some k → k as[j] = none := fun n k nj q => (pa.dd j n _ k (Ne.symm nj) ehj q) as[j] (.lst xs) (by rw [hx]; exact sing_same)
  have dE : ∀ {X : Hp}, Disj X LH.emp := fun _ _ _ => rfl
  have dE2 : ∀ {X : Hp}, Disj LH.emp X := fun _ _ h => by cases h
  refine ⟨upd F as[j] (.lst xs), ⟨gd.ff.trans eF, gd.rh, fun b o h => ?_, fun b o h n => ?_, as, hs.set j LH.emp, by show (frzS e.s j ds).length ≤ _; unfold frzS; rw [List.length_map]; exact pa.len, fun i x v h1 h2 => ?_, by simp [pa.la], by simp [pa.lh], fun n a k o h1 h2 h3 => ?_, fun n k q => ?_, fun n k q => ?_, fun n k q => ?_, fun n m k l nm q1 q2 => ?_, fun q hq => ?_⟩, eF⟩
  · by_cases hb : b = as[j]
    · subst hb; rw [upd_same] at h; rw [hH]; exact h
    · rw [upd_ne hb] at h; exact gd.fh b o h
  · by_cases hb : b = as[j]
    · subst hb; exact nR
    · rw [upd_ne hb] at h; exact gd.fnew b o h n
  · have h1' : (frzS e.s j ds)[i]? = some x := h1
    unfold frzS at h1'
    rw [List.getElem?_map] at h1'
    cases q : e.s[i]? with
    | none => rw [q] at h1'; cases h1'
    | some s0 =>
      rw [q] at h1'
      have z := pa.slot i s0 v q h2
      cases s0 with
      | un => cases h1'; trivial
      | d x0 => cases h1'; obtain ⟨u, e1, r⟩ := z; exact ⟨u, e1, dp_mono eF _ _ r⟩
      | o n =>
        have h1'' : (if n = j then Sl.d (.list ds) else Sl.o n) = x := Option.some.inj h1'
        obtain ⟨a, e1, e2⟩ := z
        by_cases hn : n = j
        · rw [if_pos hn] at h1''
          subst hn
          rw [← h1'']
          have ea : as[n] = a := by rw [List.getElem?_eq_getElem hja] at e2; exact Option.some.inj e2
          exact ⟨.ref a, e1, .lst (by rw [← ea]; exact sq_of upd_same) (dps_mono eF _ _ rx)⟩
        · rw [if_neg hn] at h1''
          rw [← h1'']
          exact ⟨a, e1, e2⟩
  · rcases at_ n k h2 with ⟨rfl, rfl⟩ | ⟨nj, q⟩
    · have h3' : (e.o.set n Ow.emp)[n]? = some o := h3
      rw [List.getElem?_set_self (by rw [← pa.lh]; exact hjl)] at h3'
      cases h3'
      rfl
    · have h3' : (e.o.set j Ow.emp)[n]? = some o := h3
      rw [List.getElem?_set_ne (Ne.symm nj)] at h3'
      exact o.mono _ _ _ _ eF (pa.obj n a k o h1 q h3')
  · rcases at_ n k q with ⟨rfl, rfl⟩ | ⟨nj, q⟩
    · intro b v hb; cases hb
    · exact pa.sub n k q
  · rcases at_ n k q with ⟨rfl, rfl⟩ | ⟨nj, q⟩
    · exact dE
    · intro b v hb
      by_cases hb' : b = as[j]
      · subst hb'; exact nO n k nj q
      · rw [upd_ne hb'] at hb; exact pa.dF n k q b v hb
  · rcases at_ n k q with ⟨rfl, rfl⟩ | ⟨nj, q⟩
    · exact dE
    · exact pa.dR n k q
  · rcases at_ n k q1 with ⟨rfl, rfl⟩ | ⟨nj, q1⟩
    · exact dE2
    · rcases at_ m l q2 with ⟨rfl, rfl⟩ | ⟨mj, q2⟩
      · exact dE
      · exact pa.dd n m k l nm q1 q2
  · obtain ⟨⟨v0, s0⟩, hm, rfl⟩ := List.mem_map.mp hq
    have z := pa.gh _ hm
    cases s0 with
    | un => trivial
    | d x0 => exact z.mono eF
    | o n =>
      obtain ⟨a, e1, e2⟩ := z
      show SlotOk C.K _ as (some v0) (if n = j then Sl.d (.list ds) else Sl.o n)
      by_cases hn : n = j
      · rw [if_pos hn]
        subst hn
        have ea : as[n] = a := by rw [List.getElem?_eq_getElem hja] at e2; exact Option.some.inj e2
        exact ⟨.ref a, e1, .lst (by rw [← ea]; exact sq_of upd_same) (dps_mono eF _ _ rx)⟩
      · rw [if_neg hn]
        exact ⟨a, e1, e2⟩
theorem r_frz {j : Nat} (hj : e.o[j]? = some (Ow.lst C.K ds)) (k : Run C ⟨frzS e.s j ds, e.o.set j Ow.emp, frzG e.g j ds⟩ P) : Run C e P := fun σ F H gd => by
  obtain ⟨F2, g2, _⟩ := gd.frz hj
  exact k σ F2 H g2
/-- a value without objects read off one's own list -/
def scalD : PyData → Bool
  | .none => true
  | .bool _ => true
  | .int _ => true
  | .str _ => true
  | _ => false
theorem dp_scal {K : PySem.W.Frag} {F F2 : Hp} {v : V} (h : Dp K F v d) (hs : scalD d = true) : Dp K F2 v d := by
  cases h with
  | non => exact .non
  | bl b => exact .bl b
  | int i => exact .int i
  | str x => exact .str x
  | lst h r => cases hs
  | tup h r => cases hs
theorem ee_peek {j : Nat} (hj : e.o[j]? = some (Ow.lst C.K ds)) (hs : scalD d = true) (h : EvE C te ⟨frzS e.s j ds, e.o.set j Ow.emp, frzG e.g j ds⟩ d) : EvE C te e d := fun σ F H gd Q q => by
  obtain ⟨F2, g2, eF⟩ := gd.frz hj
  exact h σ F2 H g2 Q fun v F3 H3 w r => q v F H3 ⟨Ex.refl F, w.h, (eF.trans w.f).trans w.sub, fun b o h n => by (rw [h] at n; cases n)⟩ (dp_scal r hs)
theorem eb_peek {j : Nat} (hj : e.o[j]? = some (Ow.lst C.K ds)) (h : EvB C tt ⟨frzS e.s j ds, e.o.set j Ow.emp, frzG e.g j ds⟩ b) : EvB C tt e b := fun σ F H gd Q q => by
  obtain ⟨F2, g2, eF⟩ := gd.frz hj
  exact h σ F2 H g2 Q fun F3 H3 w => q F H3 ⟨Ex.refl F, w.h, (eF.trans w.f).trans w.sub, fun b o h n => by (rw [h] at n; cases n)⟩
end
/-! ### a def of data -/
section
variable {P : Program} {w : World} {K : PySem.W.Frag} {mg : Str → Option Value} {base : Heap} {CX : CXT} {x qual : Str} {params : Arguments} {body : List Stmt} {scope : Scope} {dvs : List V} {kws : List (Str × V)} {f : Addr} {fd : FuncData}
/-- the slots at a def's beginning -/
def begS (N : List Str) (ds : List PyData) : List Sl := ds.map .d ++ List.replicate (N.length - ds.length) .un
theorem good0 {N : List Str} {H F : Hp} {vs : List V} {ds : List PyData} (hF : Ex F H) (r : DpAll K F vs ds) : Good ⟨K, H, F⟩ ⟨begS N ds, [], []⟩ (L2.start N vs) F H := by
  have el := dps_len r
  refine ⟨Ex.refl F, Ex.refl H, hF, fun b o h n => (by (have n' : F b = none := n); (rw [h] at n'; cases n')), [], [], ?_, fun i x v h1 h2 => ?_, rfl, rfl, fun i a h o h1 => by simp at h1, fun i h h1 => by simp at h1, fun i h h1 => by simp at h1, fun i h h1 => by simp at h1, fun i j h k _ h1 => by simp at h1, fun q hq => by cases hq⟩
  · show (begS N ds).length ≤ (L2.start N vs).length
    unfold begS L2.start
    simp [el]
  · have h1' : (begS N ds)[i]? = some x := h1
    unfold begS at h1'
    unfold L2.start at h2
    by_cases hi : i < ds.length
    · rw [List.getElem?_append_left (by simpa using hi), List.getElem?_map, List.getElem?_eq_getElem hi] at h1'
      rw [List.getElem?_append_left (by simp; omega), List.getElem?_map, List.getElem?_eq_getElem (by omega)] at h2
      cases h1'; cases h2
      obtain ⟨u, e1, e2⟩ := dps_get r (List.getElem?_eq_getElem hi)
      rw [List.getElem?_eq_getElem (by omega)] at e1
      cases e1
      exact ⟨_, rfl, e2⟩
    · rw [List.getElem?_append_right (by simp; omega)] at h1'
      have := List.getElem?_eq_some_iff.mp h1'
      obtain ⟨_, z⟩ := this
      rw [List.getElem_replicate] at z
      subst z
      trivial
/-- THE RULE: a def whose body runs on data -/
theorem ok_data {N ps : List Str} {k : Nat} {fr : List PyData → PyData → Prop} (F : FunD K x qual params body scope dvs kws f fd) (S : FnScope N ps scope) (len : ∀ ds d, fr ds d → ds.length = ps.length)
    (hbody : ∀ (cdv : Value) (A : Around) (outer : List Env) (s : Shared) (H : Hp) (E : XK), Room k (A.deeper (envOfC qual scope s.heap.objs.size f cdv)) →
      ∃ t, PSs (cxOf CX P w K mg base N qual scope f cdv A outer s H E) body t ∧ ∀ ds d, fr ds d → ∀ (R F : Hp) (D : Ends), (∀ e, RetE ⟨K, R, F⟩ e D d) → (∀ e, d = .none → Run ⟨K, R, F⟩ e D.nx) → Run ⟨K, R, F⟩ ⟨begS N ds, [], []⟩ (t D)) :
    FnOk P w K mg base CX (k + 1) f fd ps (spF K fr) := by
  refine F.ok S (fun vs H Q E ⟨F0, ds, d, _, r, h, _⟩ => ?_) (fun cdv A outer s H vs Q E hr h => ?_)
  · rw [dps_len r]; exact len ds d h
  · obtain ⟨t, ht, hrun⟩ := hbody cdv A outer s H E hr
    obtain ⟨F0, ds, d, eF, r, h, q⟩ := h
    refine ⟨t, ht, hrun ds d h H F0 { nx := fun _ H' => Q .non H', rt := Q } (fun e σ v F2 H2 gd r2 => q v F2 H2 (gd.ret eF) r2) (fun e hd σ F2 H2 gd => ?_) _ F0 H (good0 eF r)⟩
    subst hd
    exact q .non F2 H2 (gd.ret eF) .non
end
end LH

namespace LH
open PySem L2 Evl PySem.Spec PyProof.Rows
/-- what stands behind the top, for a def that is called by its name -/
structure CalOk (P : Program) (w : World) (K : PySem.W.Frag) (mg : Str → Option Value) (base : Heap) (CX : CXT) (k : Nat) (x : Str) (ps : List Str) (sp : Sp) : Prop where
  ex : ∃ f fd, mg x = some (.ref f) ∧ PySem.W.keepIn K (.ref f) = true ∧ Binds K fd ps [] ∧ FnOk P w K mg base CX k f fd ps sp
section
variable {X : Cx} {CX : CXT} {k j : Nat} {ps : List Str} {sp : Sp} {E : XK} {x : Str} {p pos : Pos} {e : Expr} {es : List Expr} {t : TA}
theorem pe_callC (c : CalOk X.prog X.w X.K X.mg X.base CX j x ps sp) (hr : Room j X.A) (hx : Passes CX X E) (hg : Gl X x) (ha : PA X (e :: es) t) (hdb : (x == ("__debug__" : Str)) = false := by decide)
    (he : starEach (e :: es) X.env = (false, eval e X.env) :: starEach es X.env := by rfl) (hpl : (backTo pos (starEach es X.env)).any (·.1) = false := by rfl) :
    PE X (.Call (.Name x p) (e :: es) [] pos) (tCall sp [] E t) := by
  obtain ⟨f, fd, hm, hk, hb, F⟩ := c.ex
  exact pe_call F hr hg hm hk hb .nil hx ha hdb he hpl
theorem pe_callC0 (c : CalOk X.prog X.w X.K X.mg X.base CX j x ps sp) (hr : Room j X.A) (hx : Passes CX X E) (hg : Gl X x) (hdb : (x == ("__debug__" : Str)) = false := by decide) :
    PE X (.Call (.Name x p) [] [] pos) (tCall sp [] E tNil) := by
  obtain ⟨f, fd, hm, hk, hb, F⟩ := c.ex
  exact pe_call0 F hr hg hm hk hb .nil hx hdb
/-- a constant of the module -/
theorem pe_globI {x : Str} {i : Int} {pos : Pos} (h : ∃ t, X.mg x = some (.int i t)) (hg : Gl X x) (hd : (x == ("__debug__" : Str)) = false := by decide) : PE X (.Name x pos) (tC (.int i)) := by
  obtain ⟨t, h⟩ := h
  exact pe_glob hg h ⟨t, rfl⟩ hd
theorem pe_globR {x : Str} {a : Addr} {pos : Pos} (h : X.mg x = some (.ref a)) (hg : Gl X x) (hd : (x == ("__debug__" : Str)) = false := by decide) : PE X (.Name x pos) (tC (.ref a)) := pe_glob hg h rfl hd
end
/-! ### the same rules, the written part told by name (so that a comprehension's block has the reading of the def around it) -/
section
variable {X : Cx} {K : PySem.W.Frag} {pos : Pos}
theorem op_addK (hK : X.K = K) : OpR X (binaryOp .Add) (rAddA K) := by subst hK; exact op_addA
theorem op_eqK (hK : X.K = K) (hu : X.A.units + 64 < cLine) : OpR X (compareOp .Eq) (rEqA K) := by subst hK; exact op_eqA hu
theorem op_neK (hK : X.K = K) (hu : X.A.units + 64 < cLine) : OpR X (compareOp .NotEq) (rNeA K) := by subst hK; exact op_neA hu
theorem call_lenK (hK : X.K = K) : CallR X (.builtin "len") (rLenA K) := by subst hK; exact call_lenA
theorem call_isiK (hK : X.K = K) : CallR X (.builtin "isinstance") (rIsi K) := by subst hK; exact call_isi
theorem sl_anyK (hK : X.K = K) : SlR X (rSlA2 K) := by subst hK; exact sl_any
theorem ix_seqK (hK : X.K = K) : IxR X (rIx K) := by subst hK; exact ix_seq
theorem pi_listK {tg e : Expr} {tl : TE} (hK : X.K = K) (h : PE X e tl) : PI X tg e (iList K tl) := by subst hK; exact pi_list h
theorem pi_tupK {tg e : Expr} {tl : TE} (hK : X.K = K) (h : PE X e tl) : PI X tg e (iTup K tl) := by subst hK; exact pi_tup h
theorem pg_tupK {es : List Expr} {k : Nat} {t : TGs} {n : Nat} (hK : X.K = K) (hc : X.calm = true) (h : PGs X es t) (hn : (assignEach es X.env).length = n := by rfl) (hst : (assignEach es X.env).findIdx? (·.1) = none := by rfl) :
    PG X (.Tuple es k pos) (gTup K n t) := by subst hK; exact pg_tup hc h hn hst
theorem pe_bmK {T id : String} {name : Str} {r : V → List V → Hp → VK → Prop} {o e : Expr} {es : List Expr} {to : TE} {t : TA} {apos cpos : Pos} (hK : X.K = K) (pa : PlainAttrs T) (slot : Slot T name id) (hty : typeOf (.builtin id) = pure (.type "method_descriptor")) (hm : MtR X id r) (ho : PE X o to) (ha : PA X (e :: es) t)
    (hbase : attributeBase o name X.env (eval o X.env) = eval o X.env := by rfl)
    (hfew : ((backTo cpos (starEach (e :: es) X.env)).all (fun x => !x.1) && (backToKw cpos (keywordEach [] X.env)).all (fun x => x.1.isSome)
      && decide ((e :: es).length + ([] : List Keyword).length + (if ([] : List Keyword).isEmpty then 0 else 1) < 30)) = true := by rfl)
    (hline : (apos.endLine == cpos.line) = true := by rfl) (hs : starEach (e :: es) X.env = (false, eval e X.env) :: starEach es X.env := by rfl) (hplain : (backTo cpos (starEach es X.env)).any (·.1) = false := by rfl) :
    PE X (.Call (.Attribute o name apos) (e :: es) [] cpos) (tBM K T r to t) := by subst hK; exact pe_bm pa slot hty hm ho ha hbase hfew hline hs hplain
end
section
variable {fa : List He.Fa} {fn : List He.DefD} {K : PySem.W.Frag} {mg : Str → Option Value}
/-- what the top has left -/
structure Top (fa : List He.Fa) (fn : List He.DefD) (K : PySem.W.Frag) (mg : Str → Option Value) : Prop where
  c : He.SaysD fa fn K
  h : ∃ h : Heap, K.In h ∧ h.Ns mainGlobals mg
theorem Top.glo (T : Top fa fn K mg) (i : Nat) {x : Str} (h : fa[i]? = some (.glo x) := by rfl) : mg x = some (.ref (He.ga K x)) := let ⟨_, X, G⟩ := T.h; He.glo_ok X G (T.c.fact i h)
theorem Top.free (T : Top fa fn K mg) (i : Nat) {x : Str} (h : fa[i]? = some (.free x) := by rfl) : mg x = none := let ⟨_, X, G⟩ := T.h; He.free_ok X G (T.c.fact i h)
theorem Top.int (T : Top fa fn K mg) (i : Nat) {x : Str} {n : Int} (h : fa[i]? = some (.int x n) := by rfl) : ∃ t, mg x = some (.int n t) := let ⟨_, X, G⟩ := T.h; He.int_ok X G (T.c.fact i h)
theorem Top.cls (T : Top fa fn K mg) (i : Nat) {x : Str} (h : fa[i]? = some (.cls x) := by rfl) : Cls K (He.ga K x) := He.cls_ok (T.c.fact i h)
theorem Top.noat (T : Top fa fn K mg) (i : Nat) {x f : Str} (h : fa[i]? = some (.noat x f) := by rfl) : NoAttr K (He.ga K x) f := He.noat_ok (T.c.fact i h)
theorem Top.meth (T : Top fa fn K mg) (i : Nat) {x f : Str} (h : fa[i]? = some (.meth x f) := by rfl) : Meth K (He.ga K x) f (He.ma K (He.ga K x) f) := He.meth_ok (T.c.fact i h)
theorem Top.mkr (T : Top fa fn K mg) (i : Nat) {x : Str} (h : fa[i]? = some (.mkr x) := by rfl) : Mk K (He.ga K x) (He.ma K (He.ga K x) "__init__") := He.mkr_ok (T.c.fact i h)
theorem Top.keep (T : Top fa fn K mg) (i : Nat) {x : Str} (h : fa[i]? = some (.keep x) := by rfl) : PySem.W.keepIn K (.ref (He.ga K x)) = true := He.keep_ok (T.c.fact i h)
theorem Top.exm (T : Top fa fn K mg) (i : Nat) {x y : Str} {b : Bool} (h : fa[i]? = some (.exm x y b) := by rfl) : PySem.W.exmOne K (.ref (He.ga K x)) (.ref (He.ga K y)) = some b := He.exm_ok (T.c.fact i h)
/-- a def of data at its name -/
theorem cal_of {P : Program} {w : World} {base : Heap} {CX : CXT} {k : Nat} {x qual : Str} {params : Arguments} {body : List Stmt} {scope : Scope} {kws : List (Str × V)} {f : Addr} {fd : FuncData} {ps : List Str} {sp : Sp}
    (F : FunD K x qual params body scope [] kws f fd) (hm : mg x = some (.ref f)) (ok : FnOk P w K mg base CX k f fd ps sp)
    (hb : ∀ (kV doc pm : Value) (an : Option Addr) (cdv ct : Value) (us : List Value), us.length = ps.length → bindArgs (PySem.W.fnOf x qual params body scope .none kV doc pm an cdv ct) ⟨us, []⟩ = pure (ps.zip us)) :
    CalOk P w K mg base CX k x ps sp := ⟨f, fd, hm, F.kp, F.bindsN hb, ok⟩
end
end LH

namespace LH
open PySem L2 Evl TL
/-! ### data compared -/
/-- no dict within, at most n deep -/
def flatN : Nat → PyData → Bool
  | _, .none => true
  | _, .bool _ => true
  | _, .int _ => true
  | _, .str x => x.cps.all (· < 0x110000)
  | n + 1, .list xs => xs.all (flatN n)
  | n + 1, .tuple xs => xs.all (flatN n)
  | _, _ => false
theorem flat_canLay : ∀ (n : Nat) (d : PyData), flatN n d = true → d.canLay0 = true
  | _, .none, _ => rfl
  | _, .bool _, _ => rfl
  | _, .int _, _ => rfl
  | 0, .str _, h => h
  | _ + 1, .str _, h => h
  | 0, .list _, h => by simp [flatN] at h
  | 0, .tuple _, h => by simp [flatN] at h
  | n + 1, .list xs, h => by
    have h' : xs.all (flatN n) = true := h
    have : ∀ ys : List PyData, ys.all (flatN n) = true → PyData.canLayAll0 ys = true := by
      intro ys; induction ys with
      | nil => intro _; rfl
      | cons y ys ih => intro q; rw [List.all_cons, Bool.and_eq_true] at q; show (y.canLay0 && PyData.canLayAll0 ys) = true; rw [flat_canLay n y q.1, ih q.2]; rfl
    exact this xs h'
  | n + 1, .tuple xs, h => by
    have h' : xs.all (flatN n) = true := h
    have : ∀ ys : List PyData, ys.all (flatN n) = true → PyData.canLayAll0 ys = true := by
      intro ys; induction ys with
      | nil => intro _; rfl
      | cons y ys ih => intro q; rw [List.all_cons, Bool.and_eq_true] at q; show (y.canLay0 && PyData.canLayAll0 ys) = true; rw [flat_canLay n y q.1, ih q.2]; rfl
    exact this xs h'
  | _, .dict _, h => by simp [flatN] at h
theorem flat_depth : ∀ (n : Nat) (d : PyData), flatN n d = true → d.depth ≤ n
  | _, .none, _ => Nat.zero_le _
  | _, .bool _, _ => Nat.zero_le _
  | _, .int _, _ => Nat.zero_le _
  | _, .str _, _ => Nat.zero_le _
  | 0, .list _, h => by simp [flatN] at h
  | 0, .tuple _, h => by simp [flatN] at h
  | n + 1, .list xs, h => by
    have h' : xs.all (flatN n) = true := h
    have : ∀ ys : List PyData, ys.all (flatN n) = true → PyData.depthAll ys ≤ n := by
      intro ys; induction ys with
      | nil => intro _; exact Nat.zero_le _
      | cons y ys ih => intro q; rw [List.all_cons, Bool.and_eq_true] at q; exact Nat.max_le.mpr ⟨flat_depth n y q.1, ih q.2⟩
    exact Nat.succ_le_succ (this xs h')
  | n + 1, .tuple xs, h => by
    have h' : xs.all (flatN n) = true := h
    have : ∀ ys : List PyData, ys.all (flatN n) = true → PyData.depthAll ys ≤ n := by
      intro ys; induction ys with
      | nil => intro _; exact Nat.zero_le _
      | cons y ys ih => intro q; rw [List.all_cons, Bool.and_eq_true] at q; exact Nat.max_le.mpr ⟨flat_depth n y q.1, ih q.2⟩
    exact Nat.succ_le_succ (this xs h')
  | _, .dict _, h => by simp [flatN] at h
theorem shaped_of {d : PyData} (n : Nat) (h : flatN n d = true) (hn : n ≤ 64 := by decide) : SeqAt.shaped d = true := by
  unfold SeqAt.shaped
  rw [flat_canLay n d h, decide_eq_true (Nat.le_trans (flat_depth n d h) hn)]; rfl
theorem shaped_int {i : Int} : SeqAt.shaped (.int i) = true := shaped_of 0 rfl
theorem shaped_bool {i : Bool} : SeqAt.shaped (.bool i) = true := shaped_of 0 rfl
theorem shaped_none : SeqAt.shaped .none = true := shaped_of 0 rfl
theorem shaped_map {α : Type} {f : α → PyData} (xs : List α) (n : Nat) (hf : ∀ x, flatN n (f x) = true) (hn : n + 1 ≤ 64 := by decide) : SeqAt.shaped (.list (xs.map f)) = true :=
  shaped_of (n + 1) (by show (xs.map f).all (flatN n) = true; rw [List.all_map]; exact List.all_eq_true.mpr fun x _ => hf x) hn
/-- without truth values, equal is the same -/
def noB : PyData → Bool
  | .none => true
  | .bool _ => false
  | .int _ => true
  | .str _ => true
  | .list xs => noBs xs
  | .tuple xs => noBs xs
  | .dict _ => false
where noBs : List PyData → Bool
  | [] => true
  | x :: xs => noB x && noBs xs
mutual
theorem eqv_iff : ∀ (a b : PyData), noB a = true → noB b = true → (PyData.eqv a b = true ↔ a = b)
  | .none, b, _, _ => by cases b <;> simp [PyData.eqv]
  | .bool _, _, h, _ => by simp [noB] at h
  | .dict _, _, h, _ => by simp [noB] at h
  | .int i, b, _, hb => by cases b <;> simp [PyData.eqv, noB] at hb ⊢
  | .str i, b, _, hb => by cases b <;> simp [PyData.eqv, noB] at hb ⊢
  | .list xs, b, ha, hb => by
    cases b with
    | list ys => simpa [PyData.eqv] using eqvs_iff xs ys (by simpa [noB] using ha) (by simpa [noB] using hb)
    | _ => simp [PyData.eqv, noB] at hb ⊢
  | .tuple xs, b, ha, hb => by
    cases b with
    | tuple ys => simpa [PyData.eqv] using eqvs_iff xs ys (by simpa [noB] using ha) (by simpa [noB] using hb)
    | _ => simp [PyData.eqv, noB] at hb ⊢
theorem eqvs_iff : ∀ (xs ys : List PyData), noB.noBs xs = true → noB.noBs ys = true → (PyData.eqvAll xs ys = true ↔ xs = ys)
  | [], [], _, _ => by simp [PyData.eqvAll]
  | [], _ :: _, _, _ => by simp [PyData.eqvAll]
  | _ :: _, [], _, _ => by simp [PyData.eqvAll]
  | x :: xs, y :: ys, ha, hb => by
    simp only [noB.noBs, Bool.and_eq_true] at ha hb
    simp only [PyData.eqvAll, Bool.and_eq_true, List.cons.injEq]
    rw [eqv_iff x y ha.1 hb.1, eqvs_iff xs ys ha.2 hb.2]
end
theorem eqv_dec {a b : PyData} [Decidable (a = b)] (ha : noB a = true) (hb : noB b = true) : PyData.eqv a b = decide (a = b) := by
  cases h : PyData.eqv a b with
  | true => exact (decide_eq_true ((eqv_iff a b ha hb).mp h)).symm
  | false => exact (decide_eq_false fun e => by rw [(eqv_iff a b ha hb).mpr e] at h; cases h).symm
theorem eqv_self {a : PyData} (ha : noB a = true) : PyData.eqv a a = true := (eqv_iff a a ha ha).mpr rfl
theorem noBs_map {α : Type} {f : α → PyData} : ∀ (xs : List α), (∀ x, noB (f x) = true) → noB.noBs (xs.map f) = true
  | [], _ => rfl
  | x :: xs, h => by
    show (noB (f x) && noB.noBs (xs.map f)) = true
    rw [h x, noBs_map xs h]; rfl
theorem eqv_bb {a b : Bool} : PyData.eqv (.bool a) (.bool b) = (a == b) := rfl
theorem eqv_ii {a b : Int} : PyData.eqv (.int a) (.int b) = (a == b) := rfl
theorem eqv_ss {a b : Str} : PyData.eqv (.str a) (.str b) = (a == b) := rfl
/-! ### texts, names, numbers, ids by their signs -/
def isSmall (c : Nat) : Bool := decide (97 ≤ c) && decide (c ≤ 122)
def isDig (c : Nat) : Bool := decide (48 ≤ c) && decide (c ≤ 57)
def isOffL (l : List Nat) : Bool := decide (1 ≤ l.length) && (decide (l.length ≤ 12) && l.all isSmall)
def isNumL (l : List Nat) : Bool := decide (1 ≤ l.length) && (decide (l.length ≤ 10) && (!(l.head? == some 48) && (l.all isDig && decide (NumText.digitsVal l ≤ 1000000000))))
def isThingL (l : List Nat) : Bool := match par [45] [] l with
  | some (a, b) => isOffL a && isNumL b
  | none => false
theorem small_ascii : ∀ c : Nat, c < 128 → (Unicode.isAlpha c && !(Unicode.isUpper c || Unicode.isTitle c)) = isSmall c := by decide +kernel
theorem small_lower : ∀ c : Nat, c < 128 → isSmall c = true → Unicode.isLower c = true := by decide +kernel
theorem dig_ascii : ∀ c : Nat, c < 128 → Unicode.isDecimal c = isDig c := by decide +kernel
theorem small_lt {c : Nat} (h : isSmall c = true) : c < 128 := by
  simp only [isSmall, Bool.and_eq_true, decide_eq_true_eq] at h; omega
theorem dig_lt {c : Nat} (h : isDig c = true) : c < 128 := by
  simp only [isDig, Bool.and_eq_true, decide_eq_true_eq] at h; omega
theorem arr_all {x : Str} {p : Nat → Bool} : x.cps.all p = (tl x).all p := by rw [Array.all_toList]
theorem arr_any {x : Str} {p : Nat → Bool} : x.cps.any p = (tl x).any p := by rw [Array.any_toList]
theorem len_pos {x : Str} : (decide (x.length > 0)) = decide (1 ≤ (tl x).length) := by
  rw [len_tl]
  by_cases h : 1 ≤ (tl x).length
  · rw [decide_eq_true h, decide_eq_true (by omega)]
  · rw [decide_eq_false h, decide_eq_false (by omega)]
/-- is_office, as the program has it -/
theorem office_iff (x : Str) : (decide ((x.length : Int) ≤ 12) && (Txt.isascii x && (Txt.isalpha x && Txt.islower x))) = isOffL (tl x) := by
  unfold Txt.isascii Txt.isalpha Txt.islower isOffL
  simp only [arr_all, arr_any, len_pos]
  generalize hl : tl x = l
  have e0 : decide ((x.length : Int) ≤ 12) = decide (l.length ≤ 12) := by
    rw [len_tl, hl]
    by_cases h : l.length ≤ 12
    · rw [decide_eq_true h, decide_eq_true (by omega)]
    · rw [decide_eq_false h, decide_eq_false (by omega)]
  rw [e0]
  rw [Bool.eq_iff_iff]
  simp only [Bool.and_eq_true, decide_eq_true_eq, List.all_eq_true, List.any_eq_true, Bool.not_eq_true', List.any_eq_false, Bool.or_eq_true, not_or]
  constructor
  · rintro ⟨h1, h2, ⟨h3, h4⟩, h5, h6⟩
    refine ⟨h3, h1, fun c hc => ?_⟩
    have e := small_ascii c (h2 c hc)
    rw [← e, h4 c hc]
    have := h6 c hc
    simp [this.1, this.2]
  · rintro ⟨h3, h1, h4⟩
    have hA : ∀ c ∈ l, Unicode.isAlpha c = true ∧ Unicode.isUpper c = false ∧ Unicode.isTitle c = false := fun c hc => by
      have e := small_ascii c (small_lt (h4 c hc))
      rw [h4 c hc] at e
      simp only [Bool.and_eq_true, Bool.not_eq_true', Bool.or_eq_false_iff] at e
      exact ⟨e.1, e.2.1, e.2.2⟩
    refine ⟨h1, fun c hc => small_lt (h4 c hc), ⟨h3, fun c hc => (hA c hc).1⟩, ?_, fun c hc => by simp [(hA c hc).2.1, (hA c hc).2.2]⟩
    cases l with
    | nil => simp at h3
    | cons c l => exact ⟨c, List.mem_cons_self, small_lower c (small_lt (h4 c List.mem_cons_self)) (h4 c List.mem_cons_self)⟩

/-- the same, the length asked ahead -/
theorem off_long {x : Str} (h : decide ((12 : Int) < (x.length : Int)) = true) : isOffL (tl x) = false := by
  rw [← office_iff, decide_eq_false (by have := of_decide_eq_true h; omega)]; rfl
theorem off_short {x : Str} (h : decide ((12 : Int) < (x.length : Int)) = false) : (Txt.isascii x && (Txt.isalpha x && Txt.islower x)) = isOffL (tl x) := by
  rw [← office_iff, decide_eq_true (by have := of_decide_eq_false h; omega), Bool.true_and]
theorem starts_iff {x y : Str} (hy : tl y ≠ []) : Txt.startswith x y = pre (tl y) (tl x) := by
  rw [Bool.eq_iff_iff]
  have h := at_iff (x := x) hy 0
  rw [List.drop_zero] at h
  rw [← h]
  unfold Txt.startswith StrLaws.At
  simp
theorem pre1 {c : Nat} {l : List Nat} : pre [c] l = (l.head? == some c) := by
  cases l with
  | nil => rfl
  | cons a l => simp [pre]
theorem dec_len {x : Str} {n : Nat} : decide ((x.length : Int) ≤ (n : Int)) = decide ((tl x).length ≤ n) := by
  rw [len_tl]
  by_cases h : (tl x).length ≤ n
  · rw [decide_eq_true h, decide_eq_true (by omega)]
  · rw [decide_eq_false h, decide_eq_false (by omega)]
/-- is_number, as the program has it -/
def numP (x : Str) : Bool :=
  if (decide ((10 : Int) < (x.length : Int)) || Txt.startswith x (Str.ofString "0")) = true then false
  else Txt.isascii x && (Txt.isdecimal x && decide ((NumText.digitsVal (tl x) : Int) ≤ 1000000000))
theorem ascii_dec {x : Str} : (Txt.isascii x && Txt.isdecimal x) = (decide (1 ≤ (tl x).length) && (tl x).all isDig) := by
  unfold Txt.isascii Txt.isdecimal
  simp only [arr_all, len_pos]
  generalize tl x = l
  rw [Bool.eq_iff_iff]
  simp only [Bool.and_eq_true, decide_eq_true_eq, List.all_eq_true]
  constructor
  · rintro ⟨h1, h2, h3⟩
    exact ⟨h2, fun c hc => by rw [← dig_ascii c (h1 c hc)]; exact h3 c hc⟩
  · rintro ⟨h1, h2⟩
    exact ⟨fun c hc => dig_lt (h2 c hc), h1, fun c hc => by rw [dig_ascii c (dig_lt (h2 c hc))]; exact h2 c hc⟩
theorem number_iff (x : Str) : numP x = isNumL (tl x) := by
  unfold numP
  rw [starts_iff (by decide), show tl (Str.ofString "0") = [48] from rfl, pre1, ← Bool.and_assoc, ascii_dec, len_tl]
  unfold isNumL
  generalize tl x = l
  have e2 : decide ((NumText.digitsVal l : Int) ≤ 1000000000) = decide (NumText.digitsVal l ≤ 1000000000) := by
    by_cases h : NumText.digitsVal l ≤ 1000000000
    · rw [decide_eq_true h, decide_eq_true (by omega)]
    · rw [decide_eq_false h, decide_eq_false (by omega)]
  rw [e2]
  by_cases h : l.length ≤ 10
  · have h1 : decide ((10 : Int) < (l.length : Int)) = false := decide_eq_false (by omega)
    rw [h1, decide_eq_true h, Bool.false_or, Bool.true_and]
    cases l.head? == some 48 <;> simp [Bool.and_assoc]
  · have h1 : decide ((10 : Int) < (l.length : Int)) = true := decide_eq_true (by omega)
    rw [h1, decide_eq_false h]
    simp
theorem allDigits_of {l : List Nat} (h : l.all isDig = true) : NumText.AllDigits l := fun c hc => by
  have := List.all_eq_true.mp h c hc
  simp only [isDig, Bool.and_eq_true, decide_eq_true_eq] at this
  exact this
theorem int_of {x : Str} (h1 : Txt.isascii x = true) (h2 : Txt.isdecimal x = true) (hl : x.length ≤ 4300) : intText? x = some ((NumText.digitsVal (tl x) : Nat) : Int) := by
  have e := ascii_dec (x := x)
  rw [h1, h2] at e
  have e' : (decide (1 ≤ (tl x).length) && (tl x).all isDig) = true := e.symm
  simp only [Bool.and_eq_true, decide_eq_true_eq] at e'
  exact PySem.intText_digits (allDigits_of e'.2) (by intro z; have := e'.1; rw [show (tl x) = x.cps.toList from rfl, z] at this; simp at this) hl
/-- is_thing, as the program has it -/
theorem thing_iff (x : Str) : (isOffL (tl (Txt.partition x (Str.ofString "-")).1) && numP (Txt.partition x (Str.ofString "-")).2.2) = isThingL (tl x) := by
  rw [number_iff, partition_par x _ (by decide), show tl (Str.ofString "-") = [45] from rfl]
  unfold isThingL
  cases h : par [45] [] (tl x) with
  | none =>
    show (isOffL (tl x) && isNumL (tl Str.empty)) = false
    have : isNumL (tl Str.empty) = false := by decide
    rw [this, Bool.and_false]
  | some ab => rfl

/-! ### comprehensions over signs, compared with the empty list -/
theorem sign_lt {a b : Nat} : decide (([a] : List Nat) < [b]) = decide (a < b) := by
  rw [decide_eq_decide]
  constructor
  · intro h
    cases h with
    | rel h => exact h
    | cons h => cases h
  · exact fun h => .rel h
theorem eqv_nil {xs : List PyData} : PyData.eqv (.list xs) (.list []) = xs.isEmpty := by
  cases xs <;> simp [PyData.eqv, PyData.eqvAll]
theorem isEmpty_filter {α : Type} (p : α → Bool) (l : List α) : (l.filter p).isEmpty = l.all fun x => !p x := by
  induction l with
  | nil => rfl
  | cons x l ih =>
    rw [List.filter_cons, List.all_cons]
    cases h : p x <;> simp [ih]
theorem givenS {z : Str} {p : Nat → Bool} {f : Nat → PyData} (q : Nat → Bool) (k : Nat → PyData) (hp : ∀ i c, z.cps[i]? = some c → p i = q c) (hf : ∀ i c, z.cps[i]? = some c → f i = k c) :
    givenD z.cps.size p f = ((tl z).filter q).map k := by
  have e : z.cps.size = (tl z).length := by simp
  rw [e]
  refine givenD_filter (tl z) p f q k (fun i c h => hp i c ?_) fun i c h => hf i c ?_ <;> simpa using h
def okStr (z : Str) : Bool := z.cps.all (· < 0x110000)
theorem okStr_iff {z : Str} : okStr z = true ↔ ∀ c ∈ tl z, c < 0x110000 := by
  unfold okStr
  rw [arr_all, List.all_eq_true]
  simp
theorem shaped_signs {z : Str} (h : okStr z = true) (q : Nat → Bool) : SeqAt.shaped (.list (((tl z).filter q).map fun c => PyData.str ⟨#[c]⟩)) = true := by
  refine shaped_of 1 ?_
  show (((tl z).filter q).map fun c => PyData.str ⟨#[c]⟩).all (flatN 0) = true
  rw [List.all_map, List.all_eq_true]
  intro c hc
  have := okStr_iff.mp h c (List.mem_filter.mp hc).1
  show (⟨#[c]⟩ : Str).cps.all (· < 0x110000) = true
  simpa using this
theorem shaped_nil : SeqAt.shaped (.list []) = true := shaped_of 1 rfl
section
variable {C : Ct} {e : En} {te tl' : TE} {tt : TT} {g : TG} {vs : List Nat}
/-- a comprehension over a text's signs -/
theorem ee_lcS' {z : Str} (h : EvE C tl' e (.str z)) (q : Nat → Bool) (k : Nat → PyData) (hn : z.length ≤ 1000000)
    (hb : ∀ c ∈ tl z, ∃ bE, TgE C g vs (.str ⟨#[c]⟩) ⟨wipeS e.s vs, e.o, e.g⟩ bE ∧ EvB C tt bE (q c) ∧ (q c = true → EvE C te bE (k c))) : EvE C (tLc (iStr tl') g tt te vs) e (.list (((tl z).filter q).map k)) := by
  have hc : ∀ i c, z.cps[i]? = some c → z.cps.getD i 0 = c := fun i c h => by rw [Array.getD_eq_getD_getElem?, h]; rfl
  refine EvE.is (ee_lcS h (fun i => q (z.cps.getD i 0)) (fun i => k (z.cps.getD i 0)) hn fun i c hi => ?_) (congrArg PyData.list (givenS q k (fun i c h => by rw [hc i c h]) fun i c h => by rw [hc i c h]))
  rw [hc i c hi]
  exact hb c (by rw [Array.getElem?_eq_some_iff] at hi; obtain ⟨hl, rfl⟩ := hi; simp)
/-- a comprehension over a list -/
theorem ee_lcL' {α : Type} {enc : α → PyData} (xs : List α) (h : EvE C tl' e (.list (xs.map enc))) (q : α → Bool) (k : α → PyData) (hn : xs.length ≤ 1000000) 
    (hb : ∀ x ∈ xs, ∃ bE, TgE C g vs (enc x) ⟨wipeS e.s vs, e.o, e.g⟩ bE ∧ EvB C tt bE (q x) ∧ (q x = true → EvE C te bE (k x))) : EvE C (tLc (iList C.K tl') g tt te vs) e (.list ((xs.filter q).map k)) := by
  by_cases hx : xs = []
  · subst hx
    exact EvE.is (ee_lcL h (fun _ => true) (fun _ => .none) (by simp) fun i d hd => by simp at hd) rfl
  · obtain ⟨x0, hx0⟩ := List.exists_mem_of_ne_nil _ hx
    have hc : ∀ i x, xs[i]? = some x → xs.getD i x0 = x := fun i x h => by rw [List.getD_eq_getElem?_getD, h]; rfl
    have e1 : (xs.map enc).length = xs.length := by simp
    refine EvE.is (ee_lcL h (fun i => q (xs.getD i x0)) (fun i => k (xs.getD i x0)) (by omega) fun i d hi => ?_) ?_
    · rw [List.getElem?_map] at hi
      cases hq : xs[i]? with
      | none => rw [hq] at hi; cases hi
      | some x =>
        rw [hq] at hi
        cases hi
        rw [hc i x hq]
        exact hb x (List.mem_of_getElem? hq)
    · rw [e1]
      exact congrArg PyData.list (givenD_filter xs _ _ q k (fun i x h => by rw [hc i x h]) fun i x h => by rw [hc i x h])
theorem filter_yes {α : Type} (xs : List α) : xs.filter (fun _ => true) = xs := List.filter_eq_self.mpr fun _ _ => rfl
end
/-! ### where the dash stands -/
def posOf (l : List Nat) : List Nat := (List.range l.length).filter fun i => l.getD i 0 == 45
theorem posOf_cons (c : Nat) (l : List Nat) : posOf (c :: l) = (if c = 45 then [0] else []) ++ (posOf l).map (· + 1) := by
  unfold posOf
  rw [List.length_cons, List.range_succ_eq_map, List.filter_cons, List.filter_map]
  by_cases h : c = 45
  · subst h; simp [Function.comp_def]
  · simp [h, Function.comp_def]
theorem posOf_free {l : List Nat} (h : 45 ∉ l) : posOf l = [] := by
  induction l with
  | nil => rfl
  | cons c l ih =>
    rw [posOf_cons, ih fun z => h (List.mem_cons_of_mem _ z), if_neg fun z => h (by rw [z]; exact List.mem_cons_self)]
    rfl
theorem posOf_app {a b : List Nat} (h : 45 ∉ a) : posOf (a ++ 45 :: b) = a.length :: (posOf b).map (· + (a.length + 1)) := by
  induction a with
  | nil => rw [List.nil_append, posOf_cons]; simp
  | cons c a ih =>
    rw [List.cons_append, posOf_cons, ih fun z => h (List.mem_cons_of_mem _ z), if_neg fun z => h (by rw [z]; exact List.mem_cons_self)]
    simp [Function.comp_def, Nat.add_assoc]
theorem split45 (l : List Nat) : 45 ∉ l ∨ ∃ a b, l = a ++ 45 :: b ∧ 45 ∉ a := by
  induction l with
  | nil => exact .inl (by simp)
  | cons c l ih =>
    by_cases h : c = 45
    · exact .inr ⟨[], l, by rw [h]; rfl, by simp⟩
    · rcases ih with z | ⟨a, b, e, z⟩
      · exact .inl (by simp; exact ⟨fun q => h q.symm, z⟩)
      · exact .inr ⟨c :: a, b, by rw [e]; rfl, by simp; exact ⟨fun q => h q.symm, z⟩⟩
theorem num_dash {b : List Nat} (h : 45 ∈ b) : isNumL b = false := by
  unfold isNumL
  have : b.all isDig = false := by
    rw [List.all_eq_false]
    exact ⟨45, h, by decide⟩
  rw [this]; simp
theorem posOf_mem {b : List Nat} (h : 45 ∈ b) : posOf b ≠ [] := by
  rcases split45 b with z | ⟨x, y, e, z⟩
  · exact absurd h z
  · rw [e, posOf_app z]; simp
theorem thing_pos {l : List Nat} : isThingL l = if (posOf l).length = 1 then isOffL (l.take ((posOf l).headD 0)) && isNumL (l.drop ((posOf l).headD 0 + 1)) else false := by
  unfold isThingL
  rcases split45 l with h | ⟨a, b, rfl, h⟩
  · rw [par_none1 h, posOf_free h]
    rfl
  · have e : par [45] [] (a ++ ([45] ++ b)) = some ([] ++ a, b) := par_part1 h
    rw [show a ++ 45 :: b = a ++ ([45] ++ b) from rfl, e, show a ++ ([45] ++ b) = a ++ 45 :: b from rfl, posOf_app h]
    show (isOffL a && isNumL b) = _
    by_cases hb : 45 ∈ b
    · rw [num_dash hb, Bool.and_false, if_neg]
      intro z
      rw [List.length_cons, List.length_map] at z
      exact posOf_mem hb (List.length_eq_zero_iff.mp (by omega))
    · rw [posOf_free hb, if_pos (show (a.length :: List.map (fun x => x + (a.length + 1)) []).length = 1 from rfl)]
      show _ = (isOffL ((a ++ 45 :: b).take a.length) && isNumL ((a ++ 45 :: b).drop (a.length + 1)))
      rw [List.take_left, show a.length + 1 = (a ++ [45]).length by simp, show a ++ 45 :: b = (a ++ [45]) ++ b by simp, List.drop_left]
end LH

set_option maxHeartbeats 400000
namespace LH
open PySem L2 TL PySem.Spec PyProof.Rows
def thingS (o : Str) (n : Int) : Str := o ++ Str.ofString "-" ++ Str.ofString (toString n)
theorem join3 (a b c : Str) : joinS Str.empty [a, b, c] = a ++ b ++ c := by
  show Str.empty ++ a ++ b ++ c = a ++ b ++ c
  have : Str.empty ++ a = a := ext_tl (by rw [tl_append]; rfl)
  rw [this]
theorem num_tl {n : Int} (h0 : 0 ≤ n) : tl (Str.ofString (toString n)) = numL n.toNat := by
  have e : n = ((n.toNat : Nat) : Int) := by omega
  rw [e, tl_num]
  rfl
theorem num_len {n : Int} (h0 : 0 ≤ n) (h1 : n ≤ 1000000000) : (Str.ofString (toString n)).length ≤ 10 := by
  rw [len_tl, num_tl h0]
  exact numL_len (by decide) (by omega)
theorem num_log {n : Int} (h0 : 0 ≤ n) (h1 : n ≤ 1000000000) : n.natAbs.log2 < 1920 := by
  have h : n.natAbs < 2 ^ 40 := by omega
  by_cases hz : n.natAbs = 0
  · rw [hz]; decide
  · have := (Nat.log2_lt hz).mpr h
    omega
theorem int_back {n : Int} (h0 : 0 ≤ n) (h1 : n ≤ 1000000000) : intText? (Str.ofString (toString n)) = some n := by
  have e : n = ((n.toNat : Nat) : Int) := by omega
  rw [e]
  refine int_num ?_
  have := numL_len (n := n.toNat) (k := 10) (by decide) (by omega)
  omega
/-- a cell of the script -/
def cellA (ns : List Int) (k : Int) : Int := if k < (ns.length : Int) then ns.getD k.toNat 0 else 7 * k
/-- the drawn name of an office -/
def offSt (c : Int) : Nat → Str × Int
  | 0 => (Str.ofString "", (c.natAbs : Int))
  | i + 1 => ((offSt c i).1 ++ ⟨#[97 + ((offSt c i).2 / 12 % 26).toNat]⟩, (offSt c i).2 / 7 + 31 * (i : Int))
def officeOf (c : Int) : Str := (offSt c (1 + (c.natAbs : Int) % 12).toNat).1
theorem offSt_len (c : Int) : ∀ i, (offSt c i).1.length = i
  | 0 => rfl
  | i + 1 => by
    show ((offSt c i).1 ++ (⟨#[97 + ((offSt c i).2 / 12 % 26).toNat]⟩ : Str)).length = i + 1
    rw [str_len_app, offSt_len c i]
    rfl
theorem abc_at {i : Int} (h0 : 0 ≤ i) (h1 : i < 26) : atI (tl (Str.ofString "abcdefghijklmnopqrstuvwxyz")) i = some (97 + i.toNat) := by
  refine atI_nat' h0 ?_
  have : ∀ j, j < 26 → (tl (Str.ofString "abcdefghijklmnopqrstuvwxyz"))[j]? = some (97 + j) := by decide +kernel
  exact this i.toNat (by omega)
theorem small_add {x : Int} (h0 : 0 ≤ x) (h1 : x < 26) : isSmall (97 + x.toNat) = true := by
  unfold isSmall; simp; omega
theorem offSt_small (c : Int) : ∀ i, ∀ k ∈ tl (offSt c i).1, isSmall k = true
  | 0, k, h => by cases h
  | i + 1, k, h => by
    have h' : k ∈ tl ((offSt c i).1 ++ (⟨#[97 + ((offSt c i).2 / 12 % 26).toNat]⟩ : Str)) := h
    rw [tl_append] at h'
    rcases List.mem_append.mp h' with z | z
    · exact offSt_small c i k z
    · have : k = 97 + ((offSt c i).2 / 12 % 26).toNat := by simpa [tl] using z
      rw [this]
      exact small_add (by omega) (by omega)
theorem officeOf_ok (c : Int) : isOffL (tl (officeOf c)) = true := by
  unfold isOffL officeOf
  have hl := offSt_len c (1 + (c.natAbs : Int) % 12).toNat
  rw [len_tl] at hl
  rw [hl]
  simp only [Bool.and_eq_true, decide_eq_true_eq, List.all_eq_true]
  exact ⟨by omega, by omega, offSt_small c _⟩
theorem off_free {l : List Nat} (h : isOffL l = true) : 45 ∉ l := fun hm => by
  unfold isOffL at h
  simp only [Bool.and_eq_true, List.all_eq_true] at h
  have := h.2.2 45 hm
  exact absurd this (by decide)
theorem off_okStr {o : Str} (h : isOffL (tl o) = true) : okStr o = true := okStr_iff.mpr fun c hc => by
  unfold isOffL at h
  simp only [Bool.and_eq_true, List.all_eq_true] at h
  have := small_lt (h.2.2 c hc)
  omega
def GoodS (k : Nat) (s : Str) : Prop := s.length ≤ k ∧ okStr s = true
theorem GoodS.app {a b : Nat} {x y : Str} (h : GoodS a x) (g : GoodS b y) : GoodS (a + b) (x ++ y) := ⟨by rw [str_len_app]; have := h.1; have := g.1; omega, okStr_iff.mpr fun c hc => by
  rw [tl_append] at hc
  rcases List.mem_append.mp hc with z | z
  · exact okStr_iff.mp h.2 c z
  · exact okStr_iff.mp g.2 c z⟩
theorem GoodS.mono {a b : Nat} {x : Str} (h : GoodS a x) (l : a ≤ b) : GoodS b x := ⟨Nat.le_trans h.1 l, h.2⟩
/-- a drawn text -/
def txtSt (c : Int) : Nat → Str × Int
  | 0 => (Str.ofString "", (c.natAbs : Int))
  | i + 1 => ((txtSt c i).1 ++ ⟨#[(tl (Str.ofString "abz-0A19_ y-x")).getD ((txtSt c i).2 / 16 % 13).toNat 0]⟩, (txtSt c i).2 / 13 + 5 * (i : Int))
def textOf (c : Int) : Str := (txtSt c ((c.natAbs : Int) % 16).toNat).1
theorem txtSt_len (c : Int) : ∀ i, (txtSt c i).1.length = i
  | 0 => rfl
  | i + 1 => by
    show ((txtSt c i).1 ++ (⟨#[(tl (Str.ofString "abz-0A19_ y-x")).getD ((txtSt c i).2 / 16 % 13).toNat 0]⟩ : Str)).length = i + 1
    rw [str_len_app, txtSt_len c i]
    rfl
theorem textOf_ok (c : Int) : okStr (textOf c) = true := by
  unfold textOf
  generalize ((c.natAbs : Int) % 16).toNat = n
  refine okStr_iff.mpr ?_
  induction n with
  | zero => intro k h; cases h
  | succ i ih =>
    intro k h
    have h' : k ∈ tl ((txtSt c i).1 ++ (⟨#[(tl (Str.ofString "abz-0A19_ y-x")).getD ((txtSt c i).2 / 16 % 13).toNat 0]⟩ : Str)) := h
    rw [tl_append] at h'
    rcases List.mem_append.mp h' with z | z
    · exact ih k z
    · have hk : k = (tl (Str.ofString "abz-0A19_ y-x")).getD ((txtSt c i).2 / 16 % 13).toNat 0 := by simpa [tl] using z
      have : ∀ j, (tl (Str.ofString "abz-0A19_ y-x")).getD j 0 < 0x110000 := fun j => by
        by_cases hj : j < 13
        · have : ∀ j, j < 13 → (tl (Str.ofString "abz-0A19_ y-x")).getD j 0 < 0x110000 := by decide +kernel
          exact this j hj
        · rw [List.getD_eq_getElem?_getD, List.getElem?_eq_none (by rw [show (tl (Str.ofString "abz-0A19_ y-x")).length = 13 from rfl]; omega)]; decide
      rw [hk]
      exact this _
theorem signs_at {i : Int} (h0 : 0 ≤ i) (h1 : i < 13) : atI (tl (Str.ofString "abz-0A19_ y-x")) i = some ((tl (Str.ofString "abz-0A19_ y-x")).getD i.toNat 0) := by
  refine atI_nat' h0 ?_
  have : ∀ j, j < 13 → (tl (Str.ofString "abz-0A19_ y-x"))[j]? = some ((tl (Str.ofString "abz-0A19_ y-x")).getD j 0) := by decide +kernel
  exact this i.toNat (by omega)
theorem not_small (c : Nat) : (decide ((⟨#[c]⟩ : Str).cps.toList < (Str.ofString "a").cps.toList) || decide ((Str.ofString "z").cps.toList < (⟨#[c]⟩ : Str).cps.toList)) = !isSmall c := by
  show (decide (([c] : List Nat) < [97]) || decide (([122] : List Nat) < [c])) = !isSmall c
  rw [sign_lt, sign_lt]
  unfold isSmall
  by_cases h1 : 97 ≤ c <;> by_cases h2 : c ≤ 122 <;> simp [h1, h2] <;> omega
theorem not_dig (c : Nat) : (decide ((⟨#[c]⟩ : Str).cps.toList < (Str.ofString "0").cps.toList) || decide ((Str.ofString "9").cps.toList < (⟨#[c]⟩ : Str).cps.toList)) = !isDig c := by
  show (decide (([c] : List Nat) < [48]) || decide (([57] : List Nat) < [c])) = !isDig c
  rw [sign_lt, sign_lt]
  unfold isDig
  by_cases h1 : 48 ≤ c <;> by_cases h2 : c ≤ 57 <;> simp [h1, h2] <;> omega
theorem lawOffice (s : Str) : ((decide ((1 : Int) ≤ (s.length : Int)) && decide ((s.length : Int) ≤ 12)) && (tl s).all fun c => !!isSmall c) = isOffL (tl s) := by
  unfold isOffL
  rw [len_tl]
  generalize tl s = l
  have e1 : decide ((1 : Int) ≤ (l.length : Int)) = decide (1 ≤ l.length) := decide_eq_decide.mpr (by omega)
  have e2 : decide ((l.length : Int) ≤ 12) = decide (l.length ≤ 12) := decide_eq_decide.mpr (by omega)
  rw [e1, e2, Bool.and_assoc]
  simp only [Bool.not_not]
theorem lawNumber (s : Str) : isNumL (tl s) = if (decide (s = Str.ofString "") || (decide ((⟨#[(tl s).getD 0 0]⟩ : Str) = Str.ofString "0") || (decide ((10 : Int) < (s.length : Int)) || !((tl s).filter fun c => !isDig c).isEmpty))) = true then false else decide ((NumText.digitsVal (tl s) : Int) ≤ 1000000000) := by
  have e0 : decide (s = Str.ofString "") = decide (tl s = []) := decide_eq_decide.mpr ⟨fun e => by rw [e]; rfl, fun e => ext_tl e⟩
  have e1 : decide ((⟨#[(tl s).getD 0 0]⟩ : Str) = Str.ofString "0") = decide ((tl s).getD 0 0 = 48) := decide_eq_decide.mpr ⟨fun e => by have := congrArg tl e; simpa [tl] using List.head_eq_of_cons_eq (this : [(tl s).getD 0 0] = [48]), fun e => by rw [e]; rfl⟩
  rw [e0, e1, len_tl, isEmpty_filter]
  unfold isNumL
  generalize tl s = l
  have e2 : decide ((10 : Int) < (l.length : Int)) = !decide (l.length ≤ 10) := by
    by_cases h : l.length ≤ 10
    · rw [decide_eq_true h, decide_eq_false (by omega)]; rfl
    · rw [decide_eq_false h, decide_eq_true (by omega)]; rfl
  have e3 : decide ((NumText.digitsVal l : Int) ≤ 1000000000) = decide (NumText.digitsVal l ≤ 1000000000) := decide_eq_decide.mpr (by omega)
  rw [e2, e3]
  cases l with
  | nil => rfl
  | cons c l =>
    simp only [Bool.not_not]
    by_cases h1 : c = 48
    · subst h1; simp
    · cases h2 : decide ((c :: l).length ≤ 10) <;> cases h3 : (c :: l).all isDig <;> simp [h1]
theorem sign_is (c k : Nat) : decide ((⟨#[c]⟩ : Str) = ⟨#[k]⟩) = (c == k) := by
  by_cases h : c = k
  · subst h; simp
  · rw [decide_eq_false (fun e => h (by have := congrArg tl e; exact List.head_eq_of_cons_eq (this : [c] = [k])))]
    simp [h]
theorem cut_to (s : Str) (j : Nat) : tl (cutS s none (some (j : Int))) = (tl s).take j := by
  unfold cutS
  rw [tl_mk, HT.sIx_none, HT.sIx_nat, List.drop_zero, Nat.sub_zero, len_tl]
  show (tl s).take (min j (tl s).length) = (tl s).take j
  by_cases h : j ≤ (tl s).length
  · rw [Nat.min_eq_left h]
  · rw [Nat.min_eq_right (by omega), List.take_of_length_le (Nat.le_refl _), List.take_of_length_le (by omega)]
theorem cut_from (s : Str) (j : Nat) : tl (cutS s (some (j : Int)) none) = (tl s).drop j := by
  unfold cutS
  rw [tl_mk, HT.sIx_none, HT.sIx_nat, len_tl]
  show ((tl s).drop (min j (tl s).length)).take ((tl s).length - min j (tl s).length) = (tl s).drop j
  by_cases h : j ≤ (tl s).length
  · rw [Nat.min_eq_left h, List.take_of_length_le (by rw [List.length_drop]; omega)]
  · rw [Nat.min_eq_right (by omega), List.drop_of_length_le (Nat.le_refl _), List.drop_of_length_le (by omega)]; simp
/-- a drawn number -/
def numberOf (c : Int) : Int := [1 + c / 4 % 9, 1 + c / 4 % 1000000000, 1000000000 - c / 4 % 3, 1 + c / 4 % 200].getD (c % 4).toNat 0
theorem numberOf_in (c : Int) : 1 ≤ numberOf c ∧ numberOf c ≤ 1000000000 := by
  unfold numberOf
  rcases (by omega : c % 4 = 0 ∨ c % 4 = 1 ∨ c % 4 = 2 ∨ c % 4 = 3) with e | e | e | e <;> rw [e] <;> simp <;> omega
end LH
namespace K14
open PySem L2 TL LH PySem.Spec PyProof.Rows
local macro_rules | `(tactic| walk_at "side") => `(tactic| first | assumption | omega | (simp only [str_len_app]; omega) | exact Nat.le_of_ble_eq_true rfl | (decide +kernel))
local macro_rules | `(tactic| walk_at "beg") => `(tactic| try dsimp only [L2.cxOf, L2.Cx.wish])
local macro_rules | `(tactic| walk_at "r2") => `(tactic| first
  | with_reducible exact r2_addI | with_reducible exact r2_cmpI | with_reducible exact r2_sub | with_reducible exact r2_eqI | with_reducible exact r2_neI | with_reducible exact r2_eqS | with_reducible exact r2_neS | with_reducible exact r2_cmpS | with_reducible exact r2_eqB | with_reducible exact r2_neB
  | ((with_reducible refine' r2_I ?hc (fun _ => .int _)); (case hc => first | exact ⟨by decide, by decide⟩ | (show (0 : Int) < _; decide) | exact .inl ⟨by decide, by decide⟩ | exact .inr ⟨by decide, by decide⟩ | exact .inl ⟨by omega, by omega⟩ | exact .inr ⟨by omega, by omega⟩ | walk_at "side"))
  | ((with_reducible refine' r2_addS ?hc); (case hc => walk_at "side"))
  | ((with_reducible refine' r2_ixL ?hc); (case hc => walk_at "side"))
  | ((with_reducible refine' r2_ixT ?hc); (case hc => walk_at "side"))
  | ((with_reducible refine' r2_ixS ?hc ?hd); (case hc => walk_at "side"); (case hd => walk_at "side"))
  | ((with_reducible refine' r2_addL ?hc); (case hc => walk_at "side"))
  | ((with_reducible refine' r2_eqD ?hc ?hd); (case hc => first | assumption | exact shaped_nil); (case hd => first | assumption | exact shaped_nil))
  | ((with_reducible refine' r2_neD ?hc ?hd); (case hc => first | assumption | exact shaped_nil); (case hd => first | assumption | exact shaped_nil)))
local macro_rules | `(tactic| walk_at "le") => `(tactic| first
  | exact LeS.nil
  | (refine' LeS.same ?hc; (case hc => walk_at "le"))
  | (refine' LeS.un ?hc; (case hc => walk_at "le")))
local macro_rules | `(tactic| walk_at "nx") => `(tactic| (refine' r_nxle ?hc rfl (fun _ h => h); (case hc => walk_at "le")))
local macro_rules | `(tactic| walk_at "rc") => `(tactic| first
  | with_reducible exact rc_lenL | with_reducible exact rc_lenT | with_reducible exact rc_intI | with_reducible exact rc_strS | with_reducible exact rc_abs
  | ((with_reducible refine' rc_lenS ?hc); (case hc => walk_at "side"))
  | ((with_reducible refine' rc_strI ?hc); (case hc => walk_at "side"))
  | ((with_reducible refine' rc_intS ?hc ?hd); (case hc => walk_at "side"); (case hd => walk_at "side")))
local macro_rules | `(tactic| walk_at "ea") => `(tactic| first
  | with_reducible exact ea_nil
  | ((with_reducible refine' ea_cons ?h1 ?h2); (case h1 => walk_at "ev"); (case h2 => walk_at "ea")))
local macro_rules | `(tactic| walk_at "eo") => `(tactic| first
  | with_reducible exact eo_no
  | ((with_reducible refine' eo_some ?h1); (case h1 => walk_at "ev")))
local macro_rules | `(tactic| walk_at "ej") => `(tactic| first
  | with_reducible exact EvJ.nil
  | ((with_reducible refine' EvJ.cons ?h1 ?h2); (case h1 => walk_at "ev"); (case h2 => walk_at "ej")))
local macro_rules | `(tactic| walk_at "ev") => `(tactic| first
  | with_reducible exact ee_int | with_reducible exact ee_str | with_reducible exact ee_bl | with_reducible exact ee_non | with_reducible exact ee_var rfl
  | ((with_reducible refine' ee_op ?h1 ?h2 ?h3); (case h1 => walk_at "ev"); (case h2 => walk_at "ev"); (case h3 => walk_at "r2"))
  | ((with_reducible refine' ee_chain ?h1 ?h2 ?h3 ?h4 ?h5); (case h1 => walk_at "ev"); (case h2 => walk_at "ev"); (case h3 => walk_at "ev"); (case h4 => walk_at "r2"); (case h5 => walk_at "r2"))
  | ((with_reducible refine' ee_cb ?h1 ?h2); (case h1 => walk_at "ea"); (case h2 => walk_at "rc"))
  | ((with_reducible refine' ee_m0b ?h1); (case h1 => walk_at "ev"))
  | ((with_reducible refine' ee_m1b ?h1 ?h2); (case h1 => walk_at "ev"); (case h2 => walk_at "ev"))
  | ((with_reducible refine' ee_isN ?h1); (case h1 => walk_at "ev"))
  | ((with_reducible refine' ee_notV ?h1); (case h1 => walk_at "ev"))
  | ((with_reducible refine' ee_andV ?h1 ?h2); (case h1 => walk_at "ev"); (case h2 => (intro _; walk_at "ev")))
  | ((with_reducible refine' ee_orV ?h1 ?h2); (case h1 => walk_at "ev"); (case h2 => (intro _; walk_at "ev")))
  | ((with_reducible refine' ee_call ?h1 ?h2); (case h1 => walk_at "ea"); (case h2 => walk_at "call"))
  | ((with_reducible refine' ee_lst ?h1 ?h2); (case h1 => walk_at "ea"); (case h2 => walk_at "side"))
  | ((with_reducible refine' ee_tup ?h1 ?h2); (case h1 => walk_at "ea"); (case h2 => walk_at "side"))
  | ((with_reducible refine' ee_part ?h1 ?h2 ?h3 ?h4); (case h1 => walk_at "ev"); (case h2 => walk_at "ev"); (case h3 => walk_at "side"); (case h4 => walk_at "side"))
  | ((with_reducible refine' ee_slS ?h1 ?h2 ?h3 ?h4); (case h1 => walk_at "ev"); (case h2 => walk_at "eo"); (case h3 => walk_at "eo"); (case h4 => walk_at "side"))
  | ((with_reducible refine' ee_slL ?h1 ?h2 ?h3); (case h1 => walk_at "ev"); (case h2 => walk_at "eo"); (case h3 => walk_at "eo"))
  | ((with_reducible refine' ee_upper ?h1 ?h2); (case h1 => walk_at "ev"); (case h2 => walk_at "side"))
  | ((with_reducible refine' ee_fmtI ?h1 ?h2); (case h1 => walk_at "ev"); (case h2 => walk_at "side"))
  | ((with_reducible refine' ee_fmtS ?h1 ?h2); (case h1 => walk_at "ev"); (case h2 => walk_at "side"))
  | ((with_reducible refine' ee_jo ?h1 ?h2); (case h1 => walk_at "ej"); (case h2 => walk_at "side"))
  | ((with_reducible refine' ee_isi ?h1 ht_c ?h3); (case h1 => walk_at "ev"); (case h3 => first | exact kit_bool | exact kit_list | exact kit_tuple | exact kit_str | exact kit_int | exact kit_intB | exact kit_boolI | exact kit_strB)))
local macro_rules | `(tactic| walk_at "eb") => `(tactic| first
  | ((with_reducible refine' eb_test ?h1); (case h1 => walk_at "ev"))
  | ((with_reducible refine' eb_B ?h1); (case h1 => walk_at "ev"))
  | ((with_reducible refine' eb_and ?h1 ?h2); (case h1 => walk_at "eb"); (case h2 => (intro _; walk_at "eb")))
  | ((with_reducible refine' eb_or ?h1 ?h2); (case h1 => walk_at "eb"); (case h2 => (intro _; walk_at "eb")))
  | ((with_reducible refine' eb_not ?h1); (case h1 => walk_at "eb"))
  | with_reducible exact eb_yes)

local macro_rules | `(tactic| walk_at "call") => `(tactic| first
  | exact ⟨_, by omega, rfl, rfl⟩
  | exact ⟨_, by omega, by assumption, rfl, rfl⟩
  | exact ⟨_, _, by assumption, by omega, by omega, rfl, rfl⟩
  | exact ⟨_, rfl, rfl⟩
  | exact ⟨_, _, by omega, by omega, by omega, rfl, rfl⟩
  | exact ⟨_, _, by omega, by assumption, by omega, by omega, rfl, rfl⟩)
def top (i : Nat) : Stmt := PySem.Challenge.pw_letterheld_k14_names_and_ids.main.body.getD i (.Pass ⟨0, 0, 0, 0⟩)
abbrev s_is_office : Stmt := top 3
abbrev N_is_office : List Str := ["text"]
theorem sc_is_office : FnScope N_is_office ["text"] (defScope s_is_office) := ⟨rfl, rfl, rfl, by decide +kernel, rfl, by decide +kernel, by decide +kernel⟩
def d_is_office : He.DefD := ⟨("is_office", none), "is_office", "is_office", defArgs s_is_office, defBody s_is_office, defScope s_is_office, [], []⟩
abbrev s_is_number : Stmt := top 4
abbrev N_is_number : List Str := ["text"]
theorem sc_is_number : FnScope N_is_number ["text"] (defScope s_is_number) := ⟨rfl, rfl, rfl, by decide +kernel, rfl, by decide +kernel, by decide +kernel⟩
def d_is_number : He.DefD := ⟨("is_number", none), "is_number", "is_number", defArgs s_is_number, defBody s_is_number, defScope s_is_number, [], []⟩
abbrev s_is_thing : Stmt := top 5
abbrev N_is_thing : List Str := ["text", "office", "_", "number"]
theorem sc_is_thing : FnScope N_is_thing ["text"] (defScope s_is_thing) := ⟨rfl, rfl, rfl, by decide +kernel, rfl, by decide +kernel, by decide +kernel⟩
def d_is_thing : He.DefD := ⟨("is_thing", none), "is_thing", "is_thing", defArgs s_is_thing, defBody s_is_thing, defScope s_is_thing, [], []⟩
abbrev s_id_of : Stmt := top 6
abbrev N_id_of : List Str := ["office", "number"]
theorem sc_id_of : FnScope N_id_of ["office", "number"] (defScope s_id_of) := ⟨rfl, rfl, rfl, by decide +kernel, rfl, by decide +kernel, by decide +kernel⟩
def d_id_of : He.DefD := ⟨("id_of", none), "id_of", "id_of", defArgs s_id_of, defBody s_id_of, defScope s_id_of, [], []⟩
abbrev s_maker_of : Stmt := top 7
abbrev N_maker_of : List Str := ["thing", "office", "_", "number"]
theorem sc_maker_of : FnScope N_maker_of ["thing"] (defScope s_maker_of) := ⟨rfl, rfl, rfl, by decide +kernel, rfl, by decide +kernel, by decide +kernel⟩
def d_maker_of : He.DefD := ⟨("maker_of", none), "maker_of", "maker_of", defArgs s_maker_of, defBody s_maker_of, defScope s_maker_of, [], []⟩
abbrev s_law_cell : Stmt := top 9
abbrev N_law_cell : List Str := ["script", "k"]
theorem sc_law_cell : FnScope N_law_cell ["script", "k"] (defScope s_law_cell) := ⟨rfl, rfl, rfl, by decide +kernel, rfl, by decide +kernel, by decide +kernel⟩
def d_law_cell : He.DefD := ⟨("_law_cell", none), "_law_cell", "_law_cell", defArgs s_law_cell, defBody s_law_cell, defScope s_law_cell, [], []⟩
abbrev s_law_office : Stmt := top 10
abbrev N_law_office : List Str := ["cell", "name", "rest", "k"]
theorem sc_law_office : FnScope N_law_office ["cell"] (defScope s_law_office) := ⟨rfl, rfl, rfl, by decide +kernel, rfl, by decide +kernel, by decide +kernel⟩
def d_law_office : He.DefD := ⟨("_law_office", none), "_law_office", "_law_office", defArgs s_law_office, defBody s_law_office, defScope s_law_office, [], []⟩
abbrev s_law_number : Stmt := top 11
abbrev N_law_number : List Str := ["cell"]
theorem sc_law_number : FnScope N_law_number ["cell"] (defScope s_law_number) := ⟨rfl, rfl, rfl, by decide +kernel, rfl, by decide +kernel, by decide +kernel⟩
def d_law_number : He.DefD := ⟨("_law_number", none), "_law_number", "_law_number", defArgs s_law_number, defBody s_law_number, defScope s_law_number, [], []⟩
abbrev s_law_text : Stmt := top 12
abbrev N_law_text : List Str := ["cell", "signs", "text", "rest", "k"]
theorem sc_law_text : FnScope N_law_text ["cell"] (defScope s_law_text) := ⟨rfl, rfl, rfl, by decide +kernel, rfl, by decide +kernel, by decide +kernel⟩
def d_law_text : He.DefD := ⟨("_law_text", none), "_law_text", "_law_text", defArgs s_law_text, defBody s_law_text, defScope s_law_text, [], []⟩
abbrev s_law_is_office : Stmt := top 13
abbrev N_law_is_office : List Str := ["text", "sign"]
theorem sc_law_is_office : FnScope N_law_is_office ["text"] (defScope s_law_is_office) := ⟨rfl, rfl, rfl, by decide +kernel, rfl, by decide +kernel, by decide +kernel⟩
def d_law_is_office : He.DefD := ⟨("_law_is_office", none), "_law_is_office", "_law_is_office", defArgs s_law_is_office, defBody s_law_is_office, defScope s_law_is_office, [], []⟩
abbrev s_law_is_number : Stmt := top 14
abbrev N_law_is_number : List Str := ["text", "sign"]
theorem sc_law_is_number : FnScope N_law_is_number ["text"] (defScope s_law_is_number) := ⟨rfl, rfl, rfl, by decide +kernel, rfl, by decide +kernel, by decide +kernel⟩
def d_law_is_number : He.DefD := ⟨("_law_is_number", none), "_law_is_number", "_law_is_number", defArgs s_law_is_number, defBody s_law_is_number, defScope s_law_is_number, [], []⟩
abbrev s_law_is_thing : Stmt := top 15
abbrev N_law_is_thing : List Str := ["text", "places", "k"]
theorem sc_law_is_thing : FnScope N_law_is_thing ["text"] (defScope s_law_is_thing) := ⟨rfl, rfl, rfl, by decide +kernel, rfl, by decide +kernel, by decide +kernel⟩
def d_law_is_thing : He.DefD := ⟨("_law_is_thing", none), "_law_is_thing", "_law_is_thing", defArgs s_law_is_thing, defBody s_law_is_thing, defScope s_law_is_thing, [], []⟩
abbrev s_law : Stmt := top 16
abbrev N_law : List Str := ["script", "office", "number", "thing", "texts", "text", "k"]
theorem sc_law : FnScope N_law ["script"] (defScope s_law) := ⟨rfl, rfl, rfl, by decide +kernel, rfl, by decide +kernel, by decide +kernel⟩
def d_law : He.DefD := ⟨("law", none), "law", "law", defArgs s_law, defBody s_law, defScope s_law, [], []⟩
def fn : List He.DefD := [d_is_office, d_is_number, d_is_thing, d_id_of, d_maker_of, d_law_cell, d_law_office, d_law_number, d_law_text, d_law_is_office, d_law_is_number, d_law_is_thing, d_law]
def fa : List He.Fa := [.glo "is_office", .glo "is_number", .glo "is_thing", .glo "id_of", .glo "maker_of", .glo "_law_cell", .glo "_law_office", .glo "_law_number", .glo "_law_text", .glo "_law_is_office", .glo "_law_is_number", .glo "_law_is_thing", .glo "law", .free "len", .int "LONGEST_NAME" 12, .free "isinstance", .free "str", .free "int", .int "GREATEST" 1000000000, .free "range", .free "abs", .free "bool"]

section
variable {P : Program} {w : World} {K : PySem.W.Frag} {mg : Str → Option Value} {base : Heap}
def f_is_office (ds : List PyData) (d : PyData) : Prop := ∃ s : Str, s.length ≤ 100000 ∧ ds = [.str s] ∧ d = .bool (isOffL (tl s))
theorem ok_is_office (T : Top fa fn K mg) : CalOk P w K mg base CX0 1 "is_office" ["text"] (spF K f_is_office) := by
  obtain ⟨fd, F⟩ := T.c.def_ 0 (d := d_is_office) rfl
  refine cal_of F (T.glo 0) (ok_data F sc_is_office ?_ (fun cdv A outer s H E hr => ⟨_, (PSs.nox (pss_cons (ps_if (PW.pt (pw_or (pt_not (pt_val (pe_callB (call_isiK (K := K) rfl) (by rfl) (T.free 15) (by decide +kernel) (pa_cons (pv 0) (pa_cons (pe_bltn (v := .ty "str") rfl (T.free 16) (by decide +kernel) rfl) pa_nil))))) (pw_or1 (pt_cmpR op_gtA (pe_callB (call_lenK (K := K) rfl) (by rfl) (T.free 13) (by decide +kernel) (pa_cons (pv 0) pa_nil)) (pe_globI (T.int 14) rfl) (nomark _))))) (pss_one (ps_ret pe_bl)) pss_nil) (pss_one (ps_ret (pe_and (pe_m0 PySem.F.slot_str_isascii PySem.F.type_str_isascii ml_isascii (pv 0)) (pe_and (pe_m0 PySem.F.slot_str_isalpha PySem.F.type_str_isalpha ml_isalpha (pv 0)) (pe_one (pe_m0 PySem.F.slot_str_islower PySem.F.type_str_islower ml_islower (pv 0))))))))), ?_⟩)) (fun _ _ _ _ _ _ us hl => match us, hl with | [_], _ => rfl)
  · rintro ds d ⟨s, h, rfl, rfl⟩; rfl
  · rintro ds d ⟨s, h, rfl, rfl⟩ R F D hD hN; walk_at "beg"
    refine r_seq (r_if (b := decide ((12 : Int) < (s.length : Int))) (EvB.is (by walk_at "eb") (by simp)) (fun hb => ?_) (fun hb => ?_))
    · exact r_ret (EvE.is ee_bl (by rw [off_long hb])) (hD _)
    · refine r_next ?_
      dsimp only
      exact r_ret (EvE.is (by walk_at "ev") (congrArg PyData.bool (off_short hb))) (hD _)
def f_is_number (ds : List PyData) (d : PyData) : Prop := ∃ s : Str, s.length ≤ 100000 ∧ ds = [.str s] ∧ d = .bool (isNumL (tl s))
theorem ok_is_number (T : Top fa fn K mg) : CalOk P w K mg base CX0 1 "is_number" ["text"] (spF K f_is_number) := by
  obtain ⟨fd, F⟩ := T.c.def_ 1 (d := d_is_number) rfl
  refine cal_of F (T.glo 1) (ok_data F sc_is_number ?_ (fun cdv A outer s H E hr => ⟨_, (PSs.nox (pss_cons (ps_if (PW.pt (pw_or (pt_cmpR op_gtA (pe_callB (call_lenK (K := K) rfl) (by rfl) (T.free 13) (by decide +kernel) (pa_cons (pv 0) pa_nil)) (pe_callB (call_lenK (K := K) rfl) (by rfl) (T.free 13) (by decide +kernel) (pa_cons (pe_callTy call_strA (by rfl) (T.free 16) (by decide +kernel) (pa_cons (pe_globI (T.int 18) rfl) pa_nil)) pa_nil)) (nomark _)) (pw_or1 (pt_val (pe_m1 PySem.F.slot_str_startswith PySem.F.type_str_startswith ml_startswith (pv 0) pe_str))))) (pss_one (ps_ret pe_bl)) pss_nil) (pss_one (ps_ret (pe_and (pe_m0 PySem.F.slot_str_isascii PySem.F.type_str_isascii ml_isascii (pv 0)) (pe_and (pe_m0 PySem.F.slot_str_isdecimal PySem.F.type_str_isdecimal ml_isdecimal (pv 0)) (pe_one (pe_cmpR op_leA (pe_callTy call_intA (by rfl) (T.free 17) (by decide +kernel) (pa_cons (pv 0) pa_nil)) (pe_globI (T.int 18) rfl) (nomark _))))))))), ?_⟩)) (fun _ _ _ _ _ _ us hl => match us, hl with | [_], _ => rfl)
  · rintro ds d ⟨s, h, rfl, rfl⟩; rfl
  · rintro ds d ⟨s, h, rfl, rfl⟩ R F D hD hN; walk_at "beg"
    have hL : (Str.ofString (toString (1000000000 : Int))).length = 10 := by decide +kernel
    have hs : (Str.ofString (toString (1000000000 : Int))).length ≤ 1000000 := by omega
    have e0 : numP s = isNumL (tl s) := number_iff s
    rw [← e0] at hD
    refine r_seq (r_if (b := decide ((10 : Int) < (s.length : Int)) || Txt.startswith s (Str.ofString "0")) (EvB.is (by walk_at "eb") (by rw [hL]; rfl)) (fun hb => ?_) fun hb => ?_)
    · refine r_ret (EvE.is ee_bl ?_) (hD _)
      unfold numP; rw [if_pos hb]
    · refine r_next ?_
      dsimp only
      have hl : s.length ≤ 10 := by
        rw [Bool.or_eq_false_iff] at hb
        have := of_decide_eq_false hb.1
        omega
      refine r_ret (d := .bool (Txt.isascii s && (Txt.isdecimal s && decide ((NumText.digitsVal (tl s) : Int) ≤ 1000000000)))) (ee_andV (by walk_at "ev") fun h1 => ee_andV (by walk_at "ev") fun h2 => ee_op (ee_cb (ea_cons (ee_var rfl) ea_nil) (rc_intS (int_of h1 h2 (by omega)) (by omega))) ee_int r2_cmpI) ?_
      have e1 : numP s = (Txt.isascii s && (Txt.isdecimal s && decide ((NumText.digitsVal (tl s) : Int) ≤ 1000000000))) := by
        unfold numP; rw [if_neg (by rw [hb]; decide)]
      rw [← e1]
      exact hD _
def f_is_thing (ds : List PyData) (d : PyData) : Prop := ∃ s : Str, s.length ≤ 100000 ∧ ds = [.str s] ∧ d = .bool (isThingL (tl s))
theorem ok_is_thing (T : Top fa fn K mg) (c_is_number : CalOk P w K mg base CX0 1 "is_number" ["text"] (spF K f_is_number)) (c_is_office : CalOk P w K mg base CX0 1 "is_office" ["text"] (spF K f_is_office)) : CalOk P w K mg base CX0 2 "is_thing" ["text"] (spF K f_is_thing) := by
  obtain ⟨fd, F⟩ := T.c.def_ 2 (d := d_is_thing) rfl
  refine cal_of F (T.glo 2) (ok_data F sc_is_thing ?_ (fun cdv A outer s H E hr => ⟨_, (PSs.nox (pss_cons (ps_asg (pe_m1 PySem.F.slot_str_partition PySem.F.type_str_partition ml_partition (pv 0) pe_str) (pg_tupK (K := K) rfl (by rfl) (pgs_cons (pg_name (i := 1) sc_is_thing.nd rfl (by first | exact Or.inl rfl | exact Or.inr rfl)) (pgs_cons (pg_name (i := 2) sc_is_thing.nd rfl (by first | exact Or.inl rfl | exact Or.inr rfl)) (pgs_cons (pg_name (i := 3) sc_is_thing.nd rfl (by first | exact Or.inl rfl | exact Or.inr rfl)) pgs_nil))))) (pss_one (ps_ret (pe_and (pe_callC c_is_office (hr.mono (by decide)) pass0 rfl (pa_cons (pv 1) pa_nil)) (pe_one (pe_callC c_is_number (hr.mono (by decide)) pass0 rfl (pa_cons (pv 3) pa_nil)))))))), ?_⟩)) (fun _ _ _ _ _ _ us hl => match us, hl with | [_], _ => rfl)
  · rintro ds d ⟨s, h, rfl, rfl⟩; rfl
  · rintro ds d ⟨s, h, rfl, rfl⟩ R F D hD hN; walk_at "beg"
    have hp := PyProof.Rows.fact_partition s (Str.ofString "-")
    rw [← thing_iff] at hD
    refine r_seq (r_asgG (by walk_at "ev") (tg_tup (tg_cons tg_name (tg_cons tg_name (tg_cons tg_name tg_nil))) rfl) ?_)
    dsimp only
    refine r_ret (ee_andV (by walk_at "ev") fun h1 => by walk_at "ev") ?_
    rw [← number_iff] at *
    exact hD _
def f_id_of (ds : List PyData) (d : PyData) : Prop := ∃ (o : Str) (n : Int), o.length ≤ 1000 ∧ 0 ≤ n ∧ n ≤ 1000000000 ∧ ds = [.str o, .int n] ∧ d = .str (thingS o n)
theorem ok_id_of (T : Top fa fn K mg) : CalOk P w K mg base CX0 1 "id_of" ["office", "number"] (spF K f_id_of) := by
  obtain ⟨fd, F⟩ := T.c.def_ 3 (d := d_id_of) rfl
  refine cal_of F (T.glo 3) (ok_data F sc_id_of ?_ (fun cdv A outer s H E hr => ⟨_, (PSs.nox (pss_one (ps_ret (pe_jo (PJ.cons (pe_fmt (pv 0)) (PJ.cons pe_str (PJ.cons (pe_fmt (pv 1)) PJ.nil))))))), ?_⟩)) (fun _ _ _ _ _ _ us hl => match us, hl with | [_, _], _ => rfl)
  · rintro ds d ⟨s, n, h, h0, h1, rfl, rfl⟩; rfl
  · rintro ds d ⟨s, n, h, h0, h1, rfl, rfl⟩ R F D hD hN; walk_at "beg"
    have hl := num_len h0 h1
    have hg := num_log h0 h1
    have hz : (joinS Str.empty [s, Str.ofString "-", Str.ofString (toString n)]).length ≤ 1000000 := by
      rw [join3, str_len_app, str_len_app]
      have : (Str.ofString "-").length = 1 := rfl
      omega
    refine r_ret (EvE.is (by walk_at "ev") ?_) (hD _)
    exact congrArg PyData.str (join3 _ _ _)
def f_maker_of (ds : List PyData) (d : PyData) : Prop := ∃ (o : Str) (n : Int), o.length ≤ 1000 ∧ 45 ∉ tl o ∧ 0 ≤ n ∧ n ≤ 1000000000 ∧ ds = [.str (thingS o n)] ∧ d = .tuple [.str o, .int n]
theorem ok_maker_of (T : Top fa fn K mg) : CalOk P w K mg base CX0 1 "maker_of" ["thing"] (spF K f_maker_of) := by
  obtain ⟨fd, F⟩ := T.c.def_ 4 (d := d_maker_of) rfl
  refine cal_of F (T.glo 4) (ok_data F sc_maker_of ?_ (fun cdv A outer s H E hr => ⟨_, (PSs.nox (pss_cons (ps_asg (pe_m1 PySem.F.slot_str_partition PySem.F.type_str_partition ml_partition (pv 0) pe_str) (pg_tupK (K := K) rfl (by rfl) (pgs_cons (pg_name (i := 1) sc_maker_of.nd rfl (by first | exact Or.inl rfl | exact Or.inr rfl)) (pgs_cons (pg_name (i := 2) sc_maker_of.nd rfl (by first | exact Or.inl rfl | exact Or.inr rfl)) (pgs_cons (pg_name (i := 3) sc_maker_of.nd rfl (by first | exact Or.inl rfl | exact Or.inr rfl)) pgs_nil))))) (pss_one (ps_ret (pe_tup (pa_cons (pv 1) (pa_cons (pe_callTy call_intA (by rfl) (T.free 17) (by decide +kernel) (pa_cons (pv 3) pa_nil)) pa_nil))))))), ?_⟩)) (fun _ _ _ _ _ _ us hl => match us, hl with | [_], _ => rfl)
  · rintro ds d ⟨s, n, h, hs, h0, h1, rfl, rfl⟩; rfl
  · rintro ds d ⟨s, n, h, hs, h0, h1, rfl, rfl⟩ R F D hD hN; walk_at "beg"
    have hl := num_len h0 h1
    have ep : Txt.partition (thingS s n) (Str.ofString "-") = (s, Str.ofString "-", Str.ofString (toString n)) := partition_app (s := 45) (S := []) rfl hs
    have hz : (thingS s n).length ≤ 1000000 := by
      unfold thingS
      rw [str_len_app, str_len_app]
      have : (Str.ofString "-").length = 1 := rfl
      omega
    refine r_seq (r_asgG (EvE.is (by walk_at "ev") (by rw [ep])) (tg_tup (tg_cons tg_name (tg_cons tg_name (tg_cons tg_name tg_nil))) rfl) ?_)
    dsimp only
    have hi := int_back h0 h1
    exact r_ret (by walk_at "ev") (hD _)
def f_law_cell (ds : List PyData) (d : PyData) : Prop := ∃ (ns : List Int) (k : Int), ns.length ≤ 63 ∧ 0 ≤ k ∧ k ≤ 1000 ∧ ds = [.list (ns.map .int), .int k] ∧ d = .int (cellA ns k)
theorem ok_law_cell (T : Top fa fn K mg) : CalOk P w K mg base CX0 1 "_law_cell" ["script", "k"] (spF K f_law_cell) := by
  obtain ⟨fd, F⟩ := T.c.def_ 5 (d := d_law_cell) rfl
  refine cal_of F (T.glo 5) (ok_data F sc_law_cell ?_ (fun cdv A outer s H E hr => ⟨_, (PSs.nox (pss_cons (ps_if (pt_cmpR op_ltA (pv 1) (pe_callB (call_lenK (K := K) rfl) (by rfl) (T.free 13) (by decide +kernel) (pa_cons (pv 0) pa_nil)) (nomark _)) (pss_one (ps_ret (pe_callTy call_intA (by rfl) (T.free 17) (by decide +kernel) (pa_cons (pe_ix (ix_seqK (K := K) rfl) (pv 0) (pv 1) (fun _ _ => rfl)) pa_nil)))) pss_nil) (pss_one (ps_ret (pe_op op_mul pe_int (pv 1)))))), ?_⟩)) (fun _ _ _ _ _ _ us hl => match us, hl with | [_, _], _ => rfl)
  · rintro ds d ⟨ns, k, h, h0, h1, rfl, rfl⟩; rfl
  · rintro ds d ⟨ns, k, h, h0, h1, rfl, rfl⟩ R F D hD hN; walk_at "beg"
    refine r_seq (r_if (b := decide (k < ((ns.map PyData.int).length : Int))) (by walk_at "eb") (fun hb => ?_) fun hb => ?_)
    · have hb' := of_decide_eq_true hb
      rw [List.length_map] at hb'
      have hx : atI (ns.map PyData.int) k = some (.int (cellA ns k)) := atI_nat' h0 (by
        rw [List.getElem?_map, List.getElem?_eq_getElem (by omega)]
        unfold cellA
        rw [if_pos hb', List.getD_eq_getElem?_getD, List.getElem?_eq_getElem (by omega)]
        rfl)
      exact r_ret (by walk_at "ev") (hD _)
    · have hb' := of_decide_eq_false hb
      rw [List.length_map] at hb'
      refine r_next ?_
      dsimp only
      refine r_ret (EvE.is (by walk_at "ev") ?_) (hD _)
      unfold cellA
      rw [if_neg hb']
def f_law_office (ds : List PyData) (d : PyData) : Prop := ∃ c : Int, ds = [.int c] ∧ d = .str (officeOf c)
theorem ok_law_office (T : Top fa fn K mg) : CalOk P w K mg base CX0 1 "_law_office" ["cell"] (spF K f_law_office) := by
  obtain ⟨fd, F⟩ := T.c.def_ 6 (d := d_law_office) rfl
  refine cal_of F (T.glo 6) (ok_data F sc_law_office ?_ (fun cdv A outer s H E hr => ⟨_, (PSs.nox (pss_cons (ps_set (i := 1) sc_law_office.nd rfl (by first | exact Or.inl rfl | exact Or.inr rfl) pe_str) (pss_cons (ps_set (i := 2) sc_law_office.nd rfl (by first | exact Or.inl rfl | exact Or.inr rfl) (pe_callB call_absA (by rfl) (T.free 20) (by decide +kernel) (pa_cons (pv 0) pa_nil))) (pss_cons (ps_for PassesOwn.never rfl (pi_range1 (by rfl) (T.free 19) (pa_cons (pe_op (op_addK (K := K) rfl) pe_int (pe_op op_mod (pv 2) pe_int)) pa_nil)) (pg_name (i := 3) sc_law_office.nd rfl (by first | exact Or.inl rfl | exact Or.inr rfl)) (pss_cons (ps_set (i := 1) sc_law_office.nd rfl (by first | exact Or.inl rfl | exact Or.inr rfl) (pe_op (op_addK (K := K) rfl) (pv 1) (pe_ix (ix_seqK (K := K) rfl) pe_str (pe_op op_mod (pe_op op_fdiv (pv 2) pe_int) pe_int) (fun _ _ => rfl)))) (pss_one (ps_set (i := 2) sc_law_office.nd rfl (by first | exact Or.inl rfl | exact Or.inr rfl) (pe_op (op_addK (K := K) rfl) (pe_op op_fdiv (pv 2) pe_int) (pe_op op_mul pe_int (pv 3))))))) (pss_one (ps_ret (pv 1))))))), ?_⟩)) (fun _ _ _ _ _ _ us hl => match us, hl with | [_], _ => rfl)
  · rintro ds d ⟨c, rfl, rfl⟩; rfl
  · rintro ds d ⟨c, rfl, rfl⟩ R F D hD hN; walk_at "beg"
    refine r_seq (r_asg (by walk_at "ev") ?_)
    dsimp only
    refine r_seq (r_asg (by walk_at "ev") ?_)
    dsimp only
    refine r_seq (r_forR1 (n := 1 + (c.natAbs : Int) % 12) (by walk_at "ea") (by omega) (by omega) (fun i => [.d (.int c), .d (.str (offSt c i).1), .d (.int (offSt c i).2), .un]) (fun _ => []) ?h0 rfl (fun i hi => ⟨_, _, tg_name, ?hb⟩) ?hd)
    case h0 => exact LeS.refl _
    case hb =>
      dsimp only
      have hl := offSt_len c i
      have hx : atI (tl (Str.ofString "abcdefghijklmnopqrstuvwxyz")) ((offSt c i).2 / 12 % 26) = some (97 + ((offSt c i).2 / 12 % 26).toNat) := abc_at (by omega) (by omega)
      have h1 : (⟨#[97 + ((offSt c i).2 / 12 % 26).toNat]⟩ : Str).length = 1 := rfl
      refine r_seq (r_asg (by walk_at "ev") ?_)
      dsimp only
      refine r_asg (by walk_at "ev") ?_
      dsimp only
      walk_at "nx"
    case hd =>
      dsimp only
      exact r_ret (by walk_at "ev") (hD _)
def f_law_number (ds : List PyData) (d : PyData) : Prop := ∃ c : Int, ds = [.int c] ∧ d = .int (numberOf c)
theorem ok_law_number (T : Top fa fn K mg) : CalOk P w K mg base CX0 1 "_law_number" ["cell"] (spF K f_law_number) := by
  obtain ⟨fd, F⟩ := T.c.def_ 7 (d := d_law_number) rfl
  refine cal_of F (T.glo 7) (ok_data F sc_law_number ?_ (fun cdv A outer s H E hr => ⟨_, (PSs.nox (pss_one (ps_ret (pe_ix (ix_seqK (K := K) rfl) (pe_lst (pa_cons (pe_op (op_addK (K := K) rfl) pe_int (pe_op op_mod (pe_op op_fdiv (pv 0) pe_int) pe_int)) (pa_cons (pe_op (op_addK (K := K) rfl) pe_int (pe_op op_mod (pe_op op_fdiv (pv 0) pe_int) pe_int)) (pa_cons (pe_op op_sub pe_int (pe_op op_mod (pe_op op_fdiv (pv 0) pe_int) pe_int)) (pa_cons (pe_op (op_addK (K := K) rfl) pe_int (pe_op op_mod (pe_op op_fdiv (pv 0) pe_int) pe_int)) pa_nil))))) (pe_op op_mod (pv 0) pe_int) (fun _ _ => rfl))))), ?_⟩)) (fun _ _ _ _ _ _ us hl => match us, hl with | [_], _ => rfl)
  · rintro ds d ⟨c, rfl, rfl⟩; rfl
  · rintro ds d ⟨c, rfl, rfl⟩ R F D hD hN; walk_at "beg"
    have hx : atI [PyData.int (1 + c / 4 % 9), .int (1 + c / 4 % 1000000000), .int (1000000000 - c / 4 % 3), .int (1 + c / 4 % 200)] (c % 4) = some (.int (numberOf c)) := atI_nat' (by omega) (by
      unfold numberOf
      rcases (by omega : c % 4 = 0 ∨ c % 4 = 1 ∨ c % 4 = 2 ∨ c % 4 = 3) with e | e | e | e <;> rw [e] <;> rfl)
    exact r_ret (by walk_at "ev") (hD _)
def f_law_text (ds : List PyData) (d : PyData) : Prop := ∃ c : Int, ds = [.int c] ∧ d = .str (textOf c)
theorem ok_law_text (T : Top fa fn K mg) : CalOk P w K mg base CX0 1 "_law_text" ["cell"] (spF K f_law_text) := by
  obtain ⟨fd, F⟩ := T.c.def_ 8 (d := d_law_text) rfl
  refine cal_of F (T.glo 8) (ok_data F sc_law_text ?_ (fun cdv A outer s H E hr => ⟨_, (PSs.nox (pss_cons (ps_set (i := 1) sc_law_text.nd rfl (by first | exact Or.inl rfl | exact Or.inr rfl) pe_str) (pss_cons (ps_set (i := 2) sc_law_text.nd rfl (by first | exact Or.inl rfl | exact Or.inr rfl) pe_str) (pss_cons (ps_set (i := 3) sc_law_text.nd rfl (by first | exact Or.inl rfl | exact Or.inr rfl) (pe_callB call_absA (by rfl) (T.free 20) (by decide +kernel) (pa_cons (pv 0) pa_nil))) (pss_cons (ps_for PassesOwn.never rfl (pi_range1 (by rfl) (T.free 19) (pa_cons (pe_op op_mod (pv 3) pe_int) pa_nil)) (pg_name (i := 4) sc_law_text.nd rfl (by first | exact Or.inl rfl | exact Or.inr rfl)) (pss_cons (ps_set (i := 2) sc_law_text.nd rfl (by first | exact Or.inl rfl | exact Or.inr rfl) (pe_op (op_addK (K := K) rfl) (pv 2) (pe_ix (ix_seqK (K := K) rfl) (pv 1) (pe_op op_mod (pe_op op_fdiv (pv 3) pe_int) pe_int) (fun _ _ => rfl)))) (pss_one (ps_set (i := 3) sc_law_text.nd rfl (by first | exact Or.inl rfl | exact Or.inr rfl) (pe_op (op_addK (K := K) rfl) (pe_op op_fdiv (pv 3) pe_int) (pe_op op_mul pe_int (pv 4))))))) (pss_one (ps_ret (pv 2)))))))), ?_⟩)) (fun _ _ _ _ _ _ us hl => match us, hl with | [_], _ => rfl)
  · rintro ds d ⟨c, rfl, rfl⟩; rfl
  · rintro ds d ⟨c, rfl, rfl⟩ R F D hD hN; walk_at "beg"
    refine r_seq (r_asg (by walk_at "ev") ?_)
    dsimp only
    refine r_seq (r_asg (by walk_at "ev") ?_)
    dsimp only
    refine r_seq (r_asg (by walk_at "ev") ?_)
    dsimp only
    refine r_seq (r_forR1 (n := (c.natAbs : Int) % 16) (by walk_at "ea") (by omega) (by omega) (fun i => [.d (.int c), .d (.str (Str.ofString "abz-0A19_ y-x")), .d (.str (txtSt c i).1), .d (.int (txtSt c i).2), .un]) (fun _ => []) ?h0 rfl (fun i hi => ⟨_, _, tg_name, ?hb⟩) ?hd)
    case h0 => exact LeS.refl _
    case hb =>
      dsimp only
      have hl := txtSt_len c i
      have hx : atI (tl (Str.ofString "abz-0A19_ y-x")) ((txtSt c i).2 / 16 % 13) = some ((tl (Str.ofString "abz-0A19_ y-x")).getD ((txtSt c i).2 / 16 % 13).toNat 0) := signs_at (by omega) (by omega)
      have h1 : (⟨#[(tl (Str.ofString "abz-0A19_ y-x")).getD ((txtSt c i).2 / 16 % 13).toNat 0]⟩ : Str).length = 1 := rfl
      refine r_seq (r_asg (by walk_at "ev") ?_)
      dsimp only
      refine r_asg (by walk_at "ev") ?_
      dsimp only
      walk_at "nx"
    case hd =>
      dsimp only
      exact r_ret (by walk_at "ev") (hD _)
def f_law_is_office (ds : List PyData) (d : PyData) : Prop := ∃ s : Str, s.length ≤ 100000 ∧ okStr s = true ∧ ds = [.str s] ∧ d = .bool (isOffL (tl s))
theorem ok_law_is_office (T : Top fa fn K mg) : CalOk P w K mg base CX0 1 "_law_is_office" ["text"] (spF K f_law_is_office) := by
  obtain ⟨fd, F⟩ := T.c.def_ 9 (d := d_law_is_office) rfl
  refine cal_of F (T.glo 9) (ok_data F sc_law_is_office ?_ (fun cdv A outer s H E hr => ⟨_, (PSs.nox (pss_one (ps_ret (pe_and (pe_chain op_leA op_leA pe_int (pe_callB (call_lenK (K := K) rfl) (by rfl) (T.free 13) (by decide +kernel) (pa_cons (pv 0) pa_nil)) pe_int) (pe_one (pe_cmpR (op_eqK (K := K) rfl hr.units) (pe_lc (own := [("sign", 1)]) rfl sc_law_is_office.nd (pi_str (pv 0)) (blkOk_by (own := [("sign", 1)]) (N := N_law_is_office) (sc := defScope s_law_is_office) (by decide +kernel)) (fun _ _ _ _ _ => (pg_name (i := 1) sc_law_is_office.nd rfl (Or.inl rfl))) (fun _ _ _ _ _ => pts_one (PW.pt (pw_or (pt_cmpR op_ltA (pv 1) pe_str (nomark _)) (pw_or1 (pt_cmpR op_gtA (pv 1) pe_str (nomark _)))))) (fun _ _ _ _ _ => (pv 1))) (pe_lst pa_nil) (nomark _))))))), ?_⟩)) (fun _ _ _ _ _ _ us hl => match us, hl with | [_], _ => rfl)
  · rintro ds d ⟨s, h, ho, rfl, rfl⟩; rfl
  · rintro ds d ⟨s, h, ho, rfl, rfl⟩ R F D hD hN; walk_at "beg"
    refine r_ret (EvE.is (ee_andV (by walk_at "ev") fun _ => ee_op (ee_lcS' (ee_var rfl) (fun c => !isSmall c) (fun c => .str ⟨#[c]⟩) (by omega) fun c _ => ⟨_, tg_name, EvB.is (by walk_at "eb") (not_small c), fun _ => ee_var rfl⟩) (ee_lst ea_nil (by decide)) (r2_eqD (shaped_signs ho _) shaped_nil)) ?_) (hD _)
    rw [eqv_nil, List.isEmpty_map, isEmpty_filter]
    exact congrArg PyData.bool (lawOffice s)
def f_law_is_number (ds : List PyData) (d : PyData) : Prop := ∃ s : Str, s.length ≤ 100000 ∧ okStr s = true ∧ ds = [.str s] ∧ d = .bool (isNumL (tl s))
theorem ok_law_is_number (T : Top fa fn K mg) : CalOk P w K mg base CX0 1 "_law_is_number" ["text"] (spF K f_law_is_number) := by
  obtain ⟨fd, F⟩ := T.c.def_ 10 (d := d_law_is_number) rfl
  refine cal_of F (T.glo 10) (ok_data F sc_law_is_number ?_ (fun cdv A outer s H E hr => ⟨_, (PSs.nox (pss_cons (ps_if (PW.pt (pw_or (pt_cmpR (op_eqK (K := K) rfl hr.units) (pv 0) pe_str (nomark _)) (pw_or (pt_cmpR (op_eqK (K := K) rfl hr.units) (pe_ix (ix_seqK (K := K) rfl) (pv 0) pe_int (fun _ _ => rfl)) pe_str (nomark _)) (pw_or (pt_cmpR op_gtA (pe_callB (call_lenK (K := K) rfl) (by rfl) (T.free 13) (by decide +kernel) (pa_cons (pv 0) pa_nil)) pe_int (nomark _)) (pw_or1 (pt_cmpR (op_neK (K := K) rfl hr.units) (pe_lc (own := [("sign", 1)]) rfl sc_law_is_number.nd (pi_str (pv 0)) (blkOk_by (own := [("sign", 1)]) (N := N_law_is_number) (sc := defScope s_law_is_number) (by decide +kernel)) (fun _ _ _ _ _ => (pg_name (i := 1) sc_law_is_number.nd rfl (Or.inl rfl))) (fun _ _ _ _ _ => pts_one (PW.pt (pw_or (pt_cmpR op_ltA (pv 1) pe_str (nomark _)) (pw_or1 (pt_cmpR op_gtA (pv 1) pe_str (nomark _)))))) (fun _ _ _ _ _ => (pv 1))) (pe_lst pa_nil) (nomark _))))))) (pss_one (ps_ret pe_bl)) pss_nil) (pss_one (ps_ret (pe_cmpR op_leA (pe_callTy call_intA (by rfl) (T.free 17) (by decide +kernel) (pa_cons (pv 0) pa_nil)) pe_int (nomark _)))))), ?_⟩)) (fun _ _ _ _ _ _ us hl => match us, hl with | [_], _ => rfl)
  · rintro ds d ⟨s, h, ho, rfl, rfl⟩; rfl
  · rintro ds d ⟨s, h, ho, rfl, rfl⟩ R F D hD hN; walk_at "beg"
    refine r_seq (r_if (b := decide (s = Str.ofString "") || (decide ((⟨#[(tl s).getD 0 0]⟩ : Str) = Str.ofString "0") || (decide ((10 : Int) < (s.length : Int)) || !((tl s).filter fun c => !isDig c).isEmpty)))
      (eb_or (by walk_at "eb") fun h1 => eb_or ?i0 fun _ => eb_or (by walk_at "eb") fun _ => eb_test (EvE.is (ee_op (ee_lcS' (ee_var rfl) (fun c => !isDig c) (fun c => .str ⟨#[c]⟩) (by omega) fun c _ => ⟨_, tg_name, EvB.is (by walk_at "eb") (not_dig c), fun _ => ee_var rfl⟩) (ee_lst ea_nil (by decide)) (r2_neD (shaped_signs ho _) shaped_nil)) (by rw [eqv_nil, List.isEmpty_map]))) (fun hb => ?_) fun hb => ?_)
    case i0 =>
      have hx : atI s.cps.toList 0 = some ((tl s).getD 0 0) := atI_nat' (Int.le_refl 0) (by
        cases e : tl s with
        | nil => exact absurd (of_decide_eq_false h1) (fun z => z (ext_tl e))
        | cons c l => rw [show s.cps.toList = c :: l from e]; rfl)
      walk_at "eb"
    · refine r_ret (EvE.is ee_bl ?_) (hD _)
      rw [lawNumber, hb]; rfl
    · refine r_next ?_
      dsimp only
      have hb0 := hb
      simp only [Bool.or_eq_false_iff, decide_eq_false_iff_not, Bool.not_eq_false', isEmpty_filter, Bool.not_not] at hb
      have hi : intText? s = some ((NumText.digitsVal (tl s) : Nat) : Int) := intText_digits (allDigits_of hb.2.2.2) (fun z => hb.1 (ext_tl z)) (by omega)
      refine r_ret (EvE.is (by walk_at "ev") ?_) (hD _)
      rw [lawNumber, hb0]
      rfl
def f_law_is_thing (ds : List PyData) (d : PyData) : Prop := ∃ s : Str, s.length ≤ 100000 ∧ okStr s = true ∧ ds = [.str s] ∧ d = .bool (isThingL (tl s))
theorem ok_law_is_thing (T : Top fa fn K mg) (c_law_is_number : CalOk P w K mg base CX0 1 "_law_is_number" ["text"] (spF K f_law_is_number)) (c_law_is_office : CalOk P w K mg base CX0 1 "_law_is_office" ["text"] (spF K f_law_is_office)) : CalOk P w K mg base CX0 2 "_law_is_thing" ["text"] (spF K f_law_is_thing) := by
  obtain ⟨fd, F⟩ := T.c.def_ 11 (d := d_law_is_thing) rfl
  refine cal_of F (T.glo 11) (ok_data F sc_law_is_thing ?_ (fun cdv A outer s H E hr => ⟨_, (PSs.nox (pss_cons (ps_setLc (i := 1) (own := [("k", 2)]) rfl sc_law_is_thing.nd rfl rfl (sw_true rfl rfl rfl (by decide +kernel)) (pi_range1 (by rfl) (T.free 19) (pa_cons (pe_callB (call_lenK (K := K) rfl) (by rfl) (T.free 13) (by decide +kernel) (pa_cons (pv 0) pa_nil)) pa_nil)) (blkOk_by (own := [("k", 2)]) (N := N_law_is_thing) (sc := defScope s_law_is_thing) (by decide +kernel)) (fun _ _ _ _ _ => (pg_name (i := 2) sc_law_is_thing.nd rfl (Or.inl rfl))) (fun _ _ _ _ _ => pts_one (pt_cmpR (op_eqK (K := K) rfl hr.units) (pe_ix (ix_seqK (K := K) rfl) (pv 0) (pv 2) (fun _ _ => rfl)) pe_str (nomark _))) (fun _ _ _ _ _ => (pv 2))) (pss_cons (ps_if (pt_cmpR (op_neK (K := K) rfl hr.units) (pe_callB (call_lenK (K := K) rfl) (by rfl) (T.free 13) (by decide +kernel) (pa_cons (pv 1) pa_nil)) pe_int (nomark _)) (pss_one (ps_ret pe_bl)) pss_nil) (pss_one (ps_ret (pe_and (pe_callC c_law_is_office (hr.mono (by decide)) pass0 rfl (pa_cons (pe_slice (sl_anyK (K := K) rfl) (pv 0) po_none (po_some (pe_ix (ix_seqK (K := K) rfl) (pv 1) pe_int (fun _ _ => rfl)))) pa_nil)) (pe_one (pe_callC c_law_is_number (hr.mono (by decide)) pass0 rfl (pa_cons (pe_slice (sl_anyK (K := K) rfl) (pv 0) (po_some (pe_op (op_addK (K := K) rfl) (pe_ix (ix_seqK (K := K) rfl) (pv 1) pe_int (fun _ _ => rfl)) pe_int)) po_none) pa_nil))))))))), ?_⟩)) (fun _ _ _ _ _ _ us hl => match us, hl with | [_], _ => rfl)
  · rintro ds d ⟨s, h, ho, rfl, rfl⟩; rfl
  · rintro ds d ⟨s, h, ho, rfl, rfl⟩ R F D hD hN; walk_at "beg"
    have hl := len_tl s
    have hP : givenD (s.length : Int).toNat (fun i => (tl s).getD i 0 == 45) (fun i => .int (i : Int)) = (posOf (tl s)).map fun i : Nat => PyData.int (i : Int) := by
      unfold givenD posOf
      rw [← hl]; rfl
    have hPl : (posOf (tl s)).length ≤ s.length := by
      unfold posOf
      have := List.length_filter_le (fun i => (tl s).getD i 0 == 45) (List.range (tl s).length)
      rw [List.length_range] at this
      omega
    refine r_seq (r_asg (EvE.is (ee_lcR1 (n := (s.length : Int)) (by walk_at "ea") (fun i => (tl s).getD i 0 == 45) (fun i => .int (i : Int)) (by omega) (fun i hi => ⟨_, tg_name, ?hb, fun _ => ee_var rfl⟩)) (congrArg PyData.list hP)) ?_)
    case hb =>
      have hx : atI s.cps.toList (i : Int) = some ((tl s).getD i 0) := atI_nat' (by omega) (by
        rw [Int.toNat_natCast, List.getD_eq_getElem?_getD, List.getElem?_eq_getElem (by rw [← hl]; omega)]; rfl)
      refine EvB.is (by walk_at "eb") ?_
      exact sign_is _ _
    dsimp only
    have hm : ((posOf (tl s)).map fun i : Nat => PyData.int (i : Int)).length = (posOf (tl s)).length := List.length_map ..
    refine r_seq (r_if (by walk_at "eb") (fun hb => ?_) fun hb => ?_)
    · refine r_ret (EvE.is ee_bl ?_) (hD _)
      rw [thing_pos, if_neg]
      rw [hm] at hb
      simp only [Bool.not_eq_true', decide_eq_false_iff_not] at hb
      omega
    · refine r_next ?_
      dsimp only
      have h1 : (posOf (tl s)).length = 1 := by
        rw [hm] at hb
        simp only [Bool.not_eq_false', decide_eq_true_eq] at hb
        omega
      obtain ⟨j, hj⟩ := List.length_eq_one_iff.mp h1
      have hx : atI ((posOf (tl s)).map fun i : Nat => PyData.int (i : Int)) 0 = some (.int (j : Int)) := atI_nat' (Int.le_refl 0) (by rw [hj]; rfl)
      have hj2 : j < s.length := by
        have : j ∈ posOf (tl s) := by rw [hj]; simp
        unfold posOf at this
        have := List.mem_range.mp (List.mem_filter.mp this).1
        omega
      have c1 := cut_to s j
      have c2 := cut_from s (j + 1)
      have o1 : okStr (cutS s none (some (j : Int))) = true := by rw [okStr_iff, c1]; exact fun c hc => okStr_iff.mp ho c (List.mem_of_mem_take hc)
      have o2 : okStr (cutS s (some ((j : Int) + 1)) none) = true := by rw [okStr_iff, show ((j : Int) + 1) = ((j + 1 : Nat) : Int) by omega, c2]; exact fun c hc => okStr_iff.mp ho c (List.mem_of_mem_drop hc)
      have l1 : (cutS s none (some (j : Int))).length ≤ 100000 := by rw [len_tl, c1, List.length_take]; omega
      have l2 : (cutS s (some ((j : Int) + 1)) none).length ≤ 100000 := by rw [len_tl, show ((j : Int) + 1) = ((j + 1 : Nat) : Int) by omega, c2, List.length_drop]; omega
      refine r_ret (EvE.is (by walk_at "ev") ?_) (hD _)
      rw [thing_pos, if_pos h1, hj, c1, show ((j : Int) + 1) = ((j + 1 : Nat) : Int) by omega, c2]
      rfl
def f_law (ds : List PyData) (d : PyData) : Prop := ∃ ns : List Int, ns.length ≤ 63 ∧ ds = [.list (ns.map .int)] ∧ d = .bool true
def texts1 (o : Str) (n : Int) : List Str := [o, thingS o n, o ++ "-", "-" ++ Str.ofString (toString n), o ++ "-0" ++ Str.ofString (toString n), o ++ Str.ofString (toString n), thingS o n ++ "-1"]
def texts2 (o : Str) : List Str := [o ++ "-1000000001", o ++ "-1000000000", o ++ "abcdefghijkl-3", Txt.upper o, ""]
def texts3 (ns : List Int) : List Str := (List.range 18).map fun i : Nat => textOf (cellA ns (2 + (i : Int)))
theorem texts_ok {o : Str} {n : Int} {ns : List Int} (ho : isOffL (tl o) = true) (h0 : 0 ≤ n) (h1 : n ≤ 1000000000) : ∀ s ∈ texts1 o n ++ texts2 o ++ texts3 ns, s.length ≤ 1000 ∧ okStr s = true := by
  have hl := ho
  unfold isOffL at hl
  simp only [Bool.and_eq_true, decide_eq_true_eq, List.all_eq_true] at hl
  have gO : GoodS 12 o := ⟨by rw [len_tl]; omega, off_okStr ho⟩
  have gN : GoodS 10 (Str.ofString (toString n)) := ⟨num_len h0 h1, okStr_iff.mpr fun c hc => by
    rw [num_tl h0] at hc
    have := numL_digits _ c hc
    omega⟩
  have g1 : GoodS 20 (Str.ofString "-") := ⟨by decide +kernel, by decide +kernel⟩
  have g2 : GoodS 20 (Str.ofString "-0") := ⟨by decide +kernel, by decide +kernel⟩
  have g3 : GoodS 20 (Str.ofString "-1") := ⟨by decide +kernel, by decide +kernel⟩
  have g4 : GoodS 20 (Str.ofString "-1000000001") := ⟨by decide +kernel, by decide +kernel⟩
  have g5 : GoodS 20 (Str.ofString "-1000000000") := ⟨by decide +kernel, by decide +kernel⟩
  have g6 : GoodS 20 (Str.ofString "abcdefghijkl-3") := ⟨by decide +kernel, by decide +kernel⟩
  have eu := PyProof.Rows.upper_ascii (x := o) fun c hc => small_lt (hl.2.2 c hc)
  have gU : GoodS 12 (Txt.upper o) := ⟨by rw [eu]; exact (by simpa [Str.length] using gO.1), okStr_iff.mpr fun c hc => by
    rw [eu] at hc
    have hc' : c ∈ (tl o).map PyProof.Rows.up1 := by simpa [tl] using hc
    obtain ⟨k, hk, rfl⟩ := List.mem_map.mp hc'
    have hs := hl.2.2 k hk
    have : ∀ k, k < 128 → PyProof.Rows.up1 k < 0x110000 := by decide +kernel
    exact this k (small_lt hs)⟩
  have gT : GoodS 42 (thingS o n) := (gO.app g1).app gN
  have A : ∀ s ∈ texts1 o n, GoodS 1000 s := List.forall_mem_cons.mpr ⟨gO.mono (by decide), List.forall_mem_cons.mpr ⟨gT.mono (by decide), List.forall_mem_cons.mpr ⟨(gO.app g1).mono (by decide), List.forall_mem_cons.mpr ⟨(g1.app gN).mono (by decide), List.forall_mem_cons.mpr ⟨((gO.app g2).app gN).mono (by decide), List.forall_mem_cons.mpr ⟨(gO.app gN).mono (by decide), List.forall_mem_cons.mpr ⟨(gT.app g3).mono (by decide), List.forall_mem_nil _⟩⟩⟩⟩⟩⟩⟩
  have B : ∀ s ∈ texts2 o, GoodS 1000 s := List.forall_mem_cons.mpr ⟨(gO.app g4).mono (by decide), List.forall_mem_cons.mpr ⟨(gO.app g5).mono (by decide), List.forall_mem_cons.mpr ⟨(gO.app g6).mono (by decide), List.forall_mem_cons.mpr ⟨gU.mono (by decide), List.forall_mem_cons.mpr ⟨⟨by decide +kernel, by decide +kernel⟩, List.forall_mem_nil _⟩⟩⟩⟩⟩
  have D : ∀ s ∈ texts3 ns, GoodS 1000 s := fun s hs => by
    obtain ⟨i, _, rfl⟩ := List.mem_map.mp hs
    refine ⟨?_, textOf_ok _⟩
    unfold textOf
    rw [txtSt_len]
    omega
  intro s hs
  rcases List.mem_append.mp hs with z | z
  · rcases List.mem_append.mp z with z | z
    · exact A s z
    · exact B s z
  · exact D s z
theorem fn_law (T : Top fa fn K mg) {fd : FuncData} (F : FunD K d_law.name d_law.qual d_law.params d_law.body d_law.scope (d_law.dvs K) (d_law.kws K) (He.fAd K d_law.at_) fd) : FnOk P w K mg base CX0 3 (He.fAd K d_law.at_) fd ["script"] (spF K f_law) := by
  have c_is_number : CalOk P w K mg base CX0 1 "is_number" ["text"] (spF K f_is_number) := ok_is_number T
  have c_is_office : CalOk P w K mg base CX0 1 "is_office" ["text"] (spF K f_is_office) := ok_is_office T
  have c_is_thing : CalOk P w K mg base CX0 2 "is_thing" ["text"] (spF K f_is_thing) := ok_is_thing T c_is_number c_is_office
  have c_law_is_number : CalOk P w K mg base CX0 1 "_law_is_number" ["text"] (spF K f_law_is_number) := ok_law_is_number T
  have c_law_is_office : CalOk P w K mg base CX0 1 "_law_is_office" ["text"] (spF K f_law_is_office) := ok_law_is_office T
  have c_law_is_thing : CalOk P w K mg base CX0 2 "_law_is_thing" ["text"] (spF K f_law_is_thing) := ok_law_is_thing T c_law_is_number c_law_is_office
  have c_law_text : CalOk P w K mg base CX0 1 "_law_text" ["cell"] (spF K f_law_text) := ok_law_text T
  have c_law_cell : CalOk P w K mg base CX0 1 "_law_cell" ["script", "k"] (spF K f_law_cell) := ok_law_cell T
  have c_maker_of : CalOk P w K mg base CX0 1 "maker_of" ["thing"] (spF K f_maker_of) := ok_maker_of T
  have c_id_of : CalOk P w K mg base CX0 1 "id_of" ["office", "number"] (spF K f_id_of) := ok_id_of T
  have c_law_number : CalOk P w K mg base CX0 1 "_law_number" ["cell"] (spF K f_law_number) := ok_law_number T
  have c_law_office : CalOk P w K mg base CX0 1 "_law_office" ["cell"] (spF K f_law_office) := ok_law_office T
  refine ok_data F sc_law ?_ (fun cdv A outer s H E hr => ⟨_, (PSs.nox (pss_cons (ps_set (i := 1) sc_law.nd rfl (by first | exact Or.inl rfl | exact Or.inr rfl) (pe_callC c_law_office (hr.mono (by decide)) pass0 rfl (pa_cons (pe_callC c_law_cell (hr.mono (by decide)) pass0 rfl (pa_cons (pv 0) (pa_cons pe_int pa_nil))) pa_nil))) (pss_cons (ps_set (i := 2) sc_law.nd rfl (by first | exact Or.inl rfl | exact Or.inr rfl) (pe_callC c_law_number (hr.mono (by decide)) pass0 rfl (pa_cons (pe_callC c_law_cell (hr.mono (by decide)) pass0 rfl (pa_cons (pv 0) (pa_cons pe_int pa_nil))) pa_nil))) (pss_cons (ps_set (i := 3) sc_law.nd rfl (by first | exact Or.inl rfl | exact Or.inr rfl) (pe_callC c_id_of (hr.mono (by decide)) pass0 rfl (pa_cons (pv 1) (pa_cons (pv 2) pa_nil)))) (pss_cons (ps_if (PW.pt (pw_or (pt_cmpR (op_neK (K := K) rfl hr.units) (pv 3) (pe_op (op_addK (K := K) rfl) (pe_op (op_addK (K := K) rfl) (pv 1) pe_str) (pe_callTy call_strA (by rfl) (T.free 16) (by decide +kernel) (pa_cons (pv 2) pa_nil))) (nomark _)) (pw_or1 (pt_cmpR (op_neK (K := K) rfl hr.units) (pe_callC c_maker_of (hr.mono (by decide)) pass0 rfl (pa_cons (pv 3) pa_nil)) (pe_tup (pa_cons (pv 1) (pa_cons (pv 2) pa_nil))) (nomark _))))) (pss_one (ps_ret pe_bl)) pss_nil) (pss_cons (ps_set (i := 4) sc_law.nd rfl (by first | exact Or.inl rfl | exact Or.inr rfl) (pe_lst (pa_cons (pv 1) (pa_cons (pv 3) (pa_cons (pe_op (op_addK (K := K) rfl) (pv 1) pe_str) (pa_cons (pe_op (op_addK (K := K) rfl) pe_str (pe_callTy call_strA (by rfl) (T.free 16) (by decide +kernel) (pa_cons (pv 2) pa_nil))) (pa_cons (pe_op (op_addK (K := K) rfl) (pe_op (op_addK (K := K) rfl) (pv 1) pe_str) (pe_callTy call_strA (by rfl) (T.free 16) (by decide +kernel) (pa_cons (pv 2) pa_nil))) (pa_cons (pe_op (op_addK (K := K) rfl) (pv 1) (pe_callTy call_strA (by rfl) (T.free 16) (by decide +kernel) (pa_cons (pv 2) pa_nil))) (pa_cons (pe_op (op_addK (K := K) rfl) (pv 3) pe_str) pa_nil))))))))) (pss_cons (ps_set (i := 4) sc_law.nd rfl (by first | exact Or.inl rfl | exact Or.inr rfl) (pe_op (op_addK (K := K) rfl) (pv 4) (pe_lst (pa_cons (pe_op (op_addK (K := K) rfl) (pv 1) pe_str) (pa_cons (pe_op (op_addK (K := K) rfl) (pv 1) pe_str) (pa_cons (pe_op (op_addK (K := K) rfl) (pv 1) pe_str) (pa_cons (pe_m0 PySem.F.slot_str_upper PySem.F.type_str_upper ml_upper (pv 1)) (pa_cons pe_str pa_nil)))))))) (pss_cons (ps_set (i := 4) sc_law.nd rfl (by first | exact Or.inl rfl | exact Or.inr rfl) (pe_op (op_addK (K := K) rfl) (pv 4) (pe_lc (own := [("k", 6)]) rfl sc_law.nd (pi_range2 (by rfl) (T.free 19) (pa_cons pe_int (pa_cons pe_int pa_nil))) (blkOk_by (own := [("k", 6)]) (N := N_law) (sc := defScope s_law) (by decide +kernel)) (fun _ _ _ _ _ => (pg_name (i := 6) sc_law.nd rfl (Or.inl rfl))) (fun _ _ _ _ _ => pts_nil) (fun _ _ _ _ _ => (pe_callC c_law_text (hr.mono (by decide)) pass0 rfl (pa_cons (pe_callC c_law_cell (hr.mono (by decide)) pass0 rfl (pa_cons (pv 0) (pa_cons (pv 6) pa_nil))) pa_nil)))))) (pss_cons (ps_for PassesOwn.never rfl (pi_listK (K := K) rfl (pv 4)) (pg_name (i := 5) sc_law.nd rfl (by first | exact Or.inl rfl | exact Or.inr rfl)) (pss_cons (ps_if (PW.pt (pw_or (pt_cmpR (op_neK (K := K) rfl hr.units) (pe_callC c_is_office (hr.mono (by decide)) pass0 rfl (pa_cons (pv 5) pa_nil)) (pe_callC c_law_is_office (hr.mono (by decide)) pass0 rfl (pa_cons (pv 5) pa_nil)) (nomark _)) (pw_or1 (pt_cmpR (op_neK (K := K) rfl hr.units) (pe_callC c_is_thing (hr.mono (by decide)) pass0 rfl (pa_cons (pv 5) pa_nil)) (pe_callC c_law_is_thing (hr.mono (by decide)) pass0 rfl (pa_cons (pv 5) pa_nil)) (nomark _))))) (pss_one (ps_ret pe_bl)) pss_nil) (pss_one (ps_if (PW.pt (pw_or (pt_not (pt_val (pe_callB (call_isiK (K := K) rfl) (by rfl) (T.free 15) (by decide +kernel) (pa_cons (pe_callC c_is_office (hr.mono (by decide)) pass0 rfl (pa_cons (pv 5) pa_nil)) (pa_cons (pe_bltn (v := .ty "bool") rfl (T.free 21) (by decide +kernel) rfl) pa_nil))))) (pw_or1 (pt_not (pt_val (pe_callB (call_isiK (K := K) rfl) (by rfl) (T.free 15) (by decide +kernel) (pa_cons (pe_callC c_is_thing (hr.mono (by decide)) pass0 rfl (pa_cons (pv 5) pa_nil)) (pa_cons (pe_bltn (v := .ty "bool") rfl (T.free 21) (by decide +kernel) rfl) pa_nil)))))))) (pss_one (ps_ret pe_bl)) pss_nil)))) (pss_one (ps_ret pe_bl))))))))))), ?_⟩)
  · rintro ds d ⟨ns, h, rfl, rfl⟩; rfl
  · rintro ds d ⟨ns, h, rfl, rfl⟩ R F D hD hN; walk_at "beg"
    have ho := officeOf_ok (cellA ns 0)
    have hn := numberOf_in (cellA ns 1)
    have hol : (officeOf (cellA ns 0)).length ≤ 12 := by
      rw [len_tl]; unfold isOffL at ho; simp only [Bool.and_eq_true, decide_eq_true_eq] at ho; omega
    have hof : 45 ∉ tl (officeOf (cellA ns 0)) := off_free ho
    have hnl := num_len (n := numberOf (cellA ns 1)) (by omega) hn.2
    have hng := num_log (n := numberOf (cellA ns 1)) (by omega) hn.2
    have l1 : (Str.ofString "-").length = 1 := rfl
    have l2 : (Str.ofString "-0").length = 2 := rfl
    have l3 : (Str.ofString "-1").length = 2 := rfl
    have l4 : (Str.ofString "-1000000001").length = 11 := rfl
    have l5 : (Str.ofString "-1000000000").length = 11 := rfl
    have l6 : (Str.ofString "abcdefghijkl-3").length = 14 := rfl
    have hth : (thingS (officeOf (cellA ns 0)) (numberOf (cellA ns 1))).length ≤ 40 := by unfold thingS; rw [str_len_app, str_len_app]; omega
    refine r_seq (r_asg (by walk_at "ev") ?_)
    dsimp only
    refine r_seq (r_asg (by walk_at "ev") ?_)
    dsimp only
    refine r_seq (r_asg (by walk_at "ev") ?_)
    dsimp only
    refine r_seq (r_if (b := false) ?t1 (fun hb => nomatch hb) fun hb => ?_)
    case t1 =>
      have sh : SeqAt.shaped (.tuple [.str (officeOf (cellA ns 0)), .int (numberOf (cellA ns 1))]) = true := shaped_of 1 (by
        show ([PyData.str (officeOf (cellA ns 0)), .int (numberOf (cellA ns 1))].all (flatN 0)) = true
        rw [List.all_cons, List.all_cons, show flatN 0 (.str (officeOf (cellA ns 0))) = true from off_okStr ho]; rfl)
      refine EvB.is (by walk_at "eb") ?_
      rw [show decide (thingS (officeOf (cellA ns 0)) (numberOf (cellA ns 1)) = officeOf (cellA ns 0) ++ Str.ofString "-" ++ Str.ofString (toString (numberOf (cellA ns 1)))) = true from decide_eq_true rfl, eqv_self (by simp [noB, noB.noBs])]
      rfl
    refine r_next ?_
    dsimp only
    refine r_seq (r_asg (d := .list ((texts1 (officeOf (cellA ns 0)) (numberOf (cellA ns 1))).map .str)) (EvE.is (by walk_at "ev") (by rfl)) ?_)
    dsimp only
    refine r_seq (r_asg (d := .list ((texts1 (officeOf (cellA ns 0)) (numberOf (cellA ns 1)) ++ texts2 (officeOf (cellA ns 0))).map .str)) (EvE.is (ee_op (ee_var rfl) (by walk_at "ev") (r2_addL (by simp [texts1]))) (by rw [List.map_append]; rfl)) ?_)
    dsimp only
    have h3 : givenD (20 - 2 : Int).toNat (fun _ => true) (fun i => .str (textOf (cellA ns (2 + (i : Int))))) = (texts3 ns).map .str := by
      unfold givenD texts3
      rw [filter_yes, List.map_map]; rfl
    refine r_seq (r_asg (d := .list ((texts1 (officeOf (cellA ns 0)) (numberOf (cellA ns 1)) ++ texts2 (officeOf (cellA ns 0)) ++ texts3 ns).map .str)) (EvE.is (ee_op (ee_var rfl) (EvE.is (ee_lcR2 (lo := 2) (n := 20) (by walk_at "ea") (fun _ => true) (fun i => .str (textOf (cellA ns (2 + (i : Int))))) (by decide) fun i hi => ⟨_, tg_name, eb_yes, fun _ => by walk_at "ev"⟩) (congrArg PyData.list h3)) (r2_addL (by simp [texts1, texts2, texts3]))) (by rw [← List.map_append])) ?_)
    dsimp only
    have hall := texts_ok (n := numberOf (cellA ns 1)) (ns := ns) ho (by omega) hn.2
    generalize hT : texts1 (officeOf (cellA ns 0)) (numberOf (cellA ns 1)) ++ texts2 (officeOf (cellA ns 0)) ++ texts3 ns = xs at hall
    refine r_seq (r_forL (ds := xs.map .str) (by walk_at "ev") (fun _ => [.un, .un, .un, .un, .un, .un, .un]) (fun _ => []) (by walk_at "le") rfl (fun v i d hd => ⟨_, _, tg_name, ?hb⟩) ?hd)
    case hb =>
      rw [List.getElem?_map] at hd
      cases hq : xs[i]? with
      | none => rw [hq] at hd; cases hd
      | some s =>
        rw [hq] at hd
        cases hd
        obtain ⟨hl, hok⟩ := hall s (List.mem_of_getElem? hq)
        refine r_seq (r_if (b := false) (EvB.is (by walk_at "eb") (by simp)) (fun hb => nomatch hb) fun hb => ?_)
        refine r_next ?_
        dsimp only
        refine r_if (b := false) (EvB.is (by walk_at "eb") (by simp)) (fun hb => nomatch hb) fun hb => ?_
        refine r_next ?_
        dsimp only
        walk_at "nx"
    case hd =>
      dsimp only
      exact r_ret ee_bl (hD _)
end

/-! ### the head: facts by names, the run -/
abbrev R : PySem.W.OpenRow := PySem.W.OpenLaw.row PySem.Challenge.rw_letterheld_k14_names_and_ids
abbrev hk : PySem.W.Hook := He.hookD 5 fa fn
def ob (s : PySem.W.SharedT) : He.AlD := He.obsDG 5 fa fn (HandSHeadRun.getT s)
theorem ob_eq (s : PySem.W.SharedT) : ob s = hk.obs s.abs := He.obsDG_eq (HandSHeadRun.getT_eq s)
theorem run (w : World) : HandSHeadRun.RunEq R (PySem.W.view R.prog [16]) hk ob 4000 ["GREATEST", "LONGEST_NAME", "is_office", "is_number", "is_thing", "id_of", "maker_of", "_law_cell", "_law_office", "_law_number", "_law_text", "_law_is_office", "_law_is_number", "_law_is_thing"] w := by
  intro os
  kernel_rfl
theorem facts {P : Program} {w : World} {K : PySem.W.Frag} {h : Heap} {mg : Str → Option Value} {f : Addr} (X : K.In h) (G : h.Ns mainGlobals mg) (hfa : mg ("law" : Str) = some (.ref f)) (c : He.SaysD fa fn K) :
    ∃ fd : FuncData, (∀ (s : Shared) (v : Value), BindsTo s fd ⟨[v], []⟩ [("script", v)]) ∧ ∀ base : Heap, K.In base → base.Ns mainGlobals mg → FnOk P w K mg base CX0 3 f fd ["script"] (spF K f_law) := by
  have T : LH.Top fa fn K mg := ⟨c, h, X, G⟩
  obtain ⟨fd, F⟩ := c.def_ 12 (d := d_law) rfl
  have e := hfa.symm.trans (T.glo 12)
  cases e
  have b := FunD.bindsA (ps := ["script"]) F fun _ _ _ _ _ _ us hl => match us, hl with | [_], _ => rfl
  exact ⟨fd, fun s v => b s [v] rfl, fun base _ _ => fn_law T F⟩
end K14
open PySem PySem.W PySem.Calls PyProof.Rows
theorem PySem.Challenge.cw_letterheld_k14_names_and_ids_holds : PySem.Challenge.rw_letterheld_k14_names_and_ids.Holds := by
  w_on; o_law
  refine HandSHeadRun.head_any (r := OpenLaw.row PySem.Challenge.rw_letterheld_k14_names_and_ids) (q := view (OpenLaw.row PySem.Challenge.rw_letterheld_k14_names_and_ids).prog [16]) (H := K14.hk) (ob := K14.ob) (M := 4000) (loose := ["GREATEST", "LONGEST_NAME", "is_office", "is_number", "is_thing", "id_of", "maker_of", "_law_cell", "_law_office", "_law_number", "_law_text", "_law_is_office", "_law_is_number", "_law_is_thing"]) (d := HandSHeadRun.topDef (OpenLaw.row PySem.Challenge.rw_letterheld_k14_names_and_ids).prog 16) (kwd := []) K14.ob_eq
    (by kernel_rfl) (fun s => by kernel_rfl) K14.run (by kernel_rfl) (by kernel_rfl) (by kernel_rfl) (by rfl) (by first | assumption | decide +kernel) (by decide +kernel) ⟨rfl, rfl, rfl, rfl, rfl, by decide +kernel⟩ ?hw ?hc
  case hw => w_witness2
  case hc =>
    refine L2.walk_ofE (l := PySem.Challenge.rw_letterheld_k14_names_and_ids) (n := 63) (k := 3) (x := "script") (CX := L2.CX0) rfl (by decide) (by kernel_rfl) ⟨rfl, by decide, by decide⟩ ?F (fun _ _ _ _ z => z)
    intro w mg fa h Y G hmg0
    obtain ⟨K, KX, c⟩ := Y
    have hmg : mg ("law" : PySem.Str) = some (.ref fa) := by
      have e : (HandSHeadRun.topDef (OpenLaw.row PySem.Challenge.rw_letterheld_k14_names_and_ids).prog 16).name = ("law" : PySem.Str) := by kernel_rfl
      rw [← e]
      exact hmg0
    obtain ⟨fd, hb, hF⟩ := K14.facts (P := (PySem.Challenge.rw_letterheld_k14_names_and_ids).prog) (w := w) KX G hmg c
    exact ⟨K, fd, LH.spF K K14.f_law, KX, hb, fun H a ns hl _ hS => ⟨H, [.list (ns.map .int)], .bool true, Evl.Ex.refl H, .cons (.lst hS (LH.dps_ofInts ns)) .nil, ⟨ns, hl, rfl, rfl⟩, fun v F2 H2 _ dv => LH.dp_bool dv⟩, hF⟩

