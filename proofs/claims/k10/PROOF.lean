import PyProof.Rows.All
import Wide.All
import OpenK.AllK
import Wide.FinOn
import HandS.ForMost
import HandS.Evl
import HandS.FStr
import HandS.StrMore
import HandS.RaiseMore
import HandS.IsInst
import HandS.Walk
import HandS.TupAny
import HandS.Flow
import HandS.Defaults
import HandS.ForExc
import HandS.Head0
import HandS.Head1
import HandS.Head2
import HandS.HeadEnd
import HandS.HeadHook1
import HandS.HeadHook2
import HandS.HeadHook3
import HandS.ExcIs
import HandS.HeadHook4
import HandS.Zip
import HandS.ReplaceLit
import HandS.ReplaceList
import HandS.Text
import PyProof.Rows.StrSplitAre
import HandS.NoneIn
import HandS.TupMul
import KE.GoesEnumKw
import PyProof.Rows.CallKwBuiltin
import HandS.ExcInit
import HandS.ExcField
import HandS.Nested
import KE.KExcSuper
import PySem.Challenge.RW_letterheld_k10_lines_of_journals
set_option Elab.async false
set_option linter.all false
set_option maxRecDepth 100000
/-! A layer of our own over the hand layer: data by value over a frozen part of the heap, own objects apart. -/
namespace LH
open PySem L2 Evl

mutual
theorem dp_mono {K : PySem.W.Frag} {F F2 : Hp} (e : Ex F F2) : ∀ (d : PyData) (v : V), Dp K F v d → Dp K F2 v d
  | .none, _, .non => .non
  | .bool _, _, .bl b => .bl b
  | .int _, _, .int i => .int i
  | .str _, _, .str x => .str x
  | .list ds, _, .lst h r => .lst (ex_l e h) (dps_mono e ds _ r)
  | .tuple ds, _, .tup h r => .tup (ex_t e h) (dps_mono e ds _ r)
theorem dps_mono {K : PySem.W.Frag} {F F2 : Hp} (e : Ex F F2) : ∀ (ds : List PyData) (vs : List V), DpAll K F vs ds → DpAll K F2 vs ds
  | [], _, .nil => .nil
  | d :: ds, _, .cons h r => .cons (dp_mono e d _ h) (dps_mono e ds _ r)
end
theorem dps_len {K : PySem.W.Frag} {F : Hp} : ∀ {vs : List V} {ds : List PyData}, DpAll K F vs ds → vs.length = ds.length
  | [], [], _ => rfl
  | _ :: _, _ :: _, .cons _ r => congrArg Nat.succ (dps_len r)
theorem dps_app {K : PySem.W.Frag} {F : Hp} : ∀ {vs : List V} {ds : List PyData} {ws : List V} {es : List PyData}, DpAll K F vs ds → DpAll K F ws es → DpAll K F (vs ++ ws) (ds ++ es)
  | [], [], _, _, _, s => s
  | _ :: _, _ :: _, _, _, .cons h r, s => .cons h (dps_app r s)
theorem dps_get {K : PySem.W.Frag} {F : Hp} : ∀ {vs : List V} {ds : List PyData} {i : Nat} {d : PyData}, DpAll K F vs ds → ds[i]? = some d → ∃ v, vs[i]? = some v ∧ Dp K F v d
  | [], [], _, _, _, h => by simp at h
  | v :: vs, d :: ds, 0, x, .cons h r, e => by simp at e; subst e; exact ⟨v, rfl, h⟩
  | v :: vs, d :: ds, i + 1, x, .cons h r, e => by
    obtain ⟨u, a, b⟩ := dps_get (i := i) (d := x) r (by simpa using e)
    exact ⟨u, by simpa using a, b⟩
theorem dps_getV {K : PySem.W.Frag} {F : Hp} : ∀ {vs : List V} {ds : List PyData} {i : Nat} {v : V}, DpAll K F vs ds → vs[i]? = some v → ∃ d, ds[i]? = some d ∧ Dp K F v d
  | [], [], _, _, _, h => by simp at h
  | v :: vs, d :: ds, 0, x, .cons h r, e => by simp at e; subst e; exact ⟨d, rfl, h⟩
  | v :: vs, d :: ds, i + 1, x, .cons h r, e => by
    obtain ⟨u, a, b⟩ := dps_getV (i := i) (v := x) r (by simpa using e)
    exact ⟨u, by simpa using a, b⟩
theorem dps_take {K : PySem.W.Frag} {F : Hp} : ∀ {vs : List V} {ds : List PyData} (n : Nat), DpAll K F vs ds → DpAll K F (vs.take n) (ds.take n)
  | _, _, 0, _ => .nil
  | [], [], _ + 1, _ => .nil
  | _ :: _, _ :: _, n + 1, .cons h r => .cons h (dps_take n r)
theorem dps_drop {K : PySem.W.Frag} {F : Hp} : ∀ {vs : List V} {ds : List PyData} (n : Nat), DpAll K F vs ds → DpAll K F (vs.drop n) (ds.drop n)
  | _, _, 0, r => r
  | [], [], _ + 1, _ => .nil
  | _ :: _, _ :: _, n + 1, .cons h r => dps_drop n r
theorem dps_erase {K : PySem.W.Frag} {F : Hp} : ∀ {vs : List V} {ds : List PyData}, DpAll K F vs ds → ∀ (n : Nat), DpAll K F (vs.eraseIdx n) (ds.eraseIdx n)
  | [], [], _, _ => .nil
  | _ :: _, _ :: _, .cons h r, 0 => r
  | _ :: _, _ :: _, .cons h r, n + 1 => .cons h (dps_erase r n)
theorem dps_strs {K : PySem.W.Frag} {F : Hp} : ∀ {vs : List V} {xs : List Str}, DpAll K F vs (xs.map PyData.str) → vs = xs.map V.str
  | [], [], _ => rfl
  | _ :: _, x :: xs, .cons (.str _) r => by rw [List.map_cons, ← dps_strs r]
theorem dps_ofStrs {K : PySem.W.Frag} {F : Hp} : ∀ (xs : List Str), DpAll K F (xs.map V.str) (xs.map PyData.str)
  | [] => .nil
  | x :: xs => .cons (.str x) (dps_ofStrs xs)
theorem dps_ints {K : PySem.W.Frag} {F : Hp} : ∀ {vs : List V} {xs : List Int}, DpAll K F vs (xs.map PyData.int) → vs = xs.map V.int
  | [], [], _ => rfl
  | _ :: _, x :: xs, .cons (.int _) r => by rw [List.map_cons, ← dps_ints r]
theorem dps_ofInts {K : PySem.W.Frag} {F : Hp} : ∀ (xs : List Int), DpAll K F (xs.map V.int) (xs.map PyData.int)
  | [] => .nil
  | x :: xs => .cons (.int x) (dps_ofInts xs)

/-! ### heaps that grow -/
structure Grow (F H F2 H2 : Hp) : Prop where
  f : Ex F F2
  h : Ex H H2
  sub : Ex F2 H2
  new : ∀ b o, F2 b = some o → F b = none → H b = none
theorem ex_none {H H2 : Hp} (e : Ex H H2) {b : Addr} (h : H2 b = none) : H b = none := fresh_back e h
theorem Grow.refl {F H : Hp} (s : Ex F H) : Grow F H F H := ⟨Ex.refl F, Ex.refl H, s, fun b o h n => by rw [h] at n; cases n⟩
theorem Grow.trans {F H F1 H1 F2 H2 : Hp} (a : Grow F H F1 H1) (b : Grow F1 H1 F2 H2) : Grow F H F2 H2 :=
  ⟨a.f.trans b.f, a.h.trans b.h, b.sub, fun c o h n => by
    cases q : F1 c with
    | none => exact ex_none a.h (b.new c o h q)
    | some u => exact a.new c u q n⟩
theorem ex_upd {F H : Hp} {p : Addr} {o : HO} (s : Ex F H) : Ex (upd F p o) (upd H p o) := fun b u h => by
  by_cases e : b = p
  · subst e; rw [upd_same] at h ⊢; exact h
  · rw [upd_ne e] at h ⊢; exact s b u h
theorem Grow.alloc {F H : Hp} {p : Addr} {o : HO} (s : Ex F H) (n : H p = none) : Grow F H (upd F p o) (upd H p o) :=
  ⟨Ex.new (ex_none s n), Ex.new n, ex_upd s, fun b u h q => by
    by_cases e : b = p
    · subst e; exact n
    · rw [upd_ne e, q] at h; cases h⟩

/-! ### own objects -/
structure Ow where
  P : Addr → Hp → Hp → Prop
  mono : ∀ a F F2 h, Ex F F2 → P a F h → P a F2 h
def emp : Hp := fun _ => none
def sing (a : Addr) (o : HO) : Hp := upd emp a o
def Disj (h k : Hp) : Prop := ∀ b o, h b = some o → k b = none
theorem Disj.symm {h k : Hp} (d : Disj h k) : Disj k h := fun b o e => by
  cases q : h b with
  | none => rfl
  | some u => rw [d b u q] at e; cases e
def Ow.emp : Ow := ⟨fun _ _ h => h = LH.emp, fun _ _ _ _ _ x => x⟩
/-- an own list of data -/
def Ow.lst (K : PySem.W.Frag) (ds : List PyData) : Ow :=
  ⟨fun a F h => ∃ xs, h = sing a (.lst xs) ∧ DpAll K F xs ds, fun a F F2 h e ⟨xs, q, r⟩ => ⟨xs, q, dps_mono e ds xs r⟩⟩

/-- what a slot holds: nothing known, data, own object i -/
inductive Sl where
  | un | d (x : PyData) | o (i : Nat)
structure En where
  s : List Sl
  o : List Ow := []
  /-- what else is known: values that a loop walks -/
  g : List (V × Sl) := []
structure Ct where
  K : PySem.W.Frag
  /-- the rest of the heap at the entry: stays -/
  R : Hp
  /-- the frozen part at the entry -/
  F : Hp

def SlotOk (K : PySem.W.Frag) (F : Hp) (as : List Addr) (v : Option V) : Sl → Prop
  | .un => True
  | .d x => ∃ u, v = some u ∧ Dp K F u x
  | .o i => ∃ a, v = some (.ref a) ∧ as[i]? = some a
structure Parts (K : PySem.W.Frag) (R F H : Hp) (σ : St) (e : En) (as : List Addr) (hs : List Hp) : Prop where
  len : e.s.length ≤ σ.length
  slot : ∀ (i : Nat) (x : Sl) (v : Option V), e.s[i]? = some x → σ[i]? = some v → SlotOk K F as v x
  la : as.length = e.o.length
  lh : hs.length = e.o.length
  obj : ∀ (i : Nat) (a : Addr) (h : Hp) (o : Ow), as[i]? = some a → hs[i]? = some h → e.o[i]? = some o → o.P a F h
  sub : ∀ (i : Nat) (h : Hp), hs[i]? = some h → Ex h H
  dF : ∀ (i : Nat) (h : Hp), hs[i]? = some h → Disj F h
  dR : ∀ (i : Nat) (h : Hp), hs[i]? = some h → Disj R h
  dd : ∀ (i j : Nat) (h k : Hp), i ≠ j → hs[i]? = some h → hs[j]? = some k → Disj h k
  gh : ∀ q ∈ e.g, SlotOk K F as (some q.1) q.2
theorem SlotOk.mono {K : PySem.W.Frag} {F F2 : Hp} {as : List Addr} {v : Option V} {x : Sl} (w : Ex F F2) (z : SlotOk K F as v x) : SlotOk K F2 as v x := by
  cases x with
  | un => trivial
  | d x => obtain ⟨u, e, r⟩ := z; exact ⟨u, e, dp_mono w _ _ r⟩
  | o j => exact z
theorem Parts.grow {K : PySem.W.Frag} {R F H F2 H2 : Hp} {σ : St} {e : En} {as : List Addr} {hs : List Hp} (p : Parts K R F H σ e as hs) (w : Grow F H F2 H2) : Parts K R F2 H2 σ e as hs := by
  refine ⟨p.len, fun i x v h1 h2 => ?_, p.la, p.lh, fun i a h o h1 h2 h3 => o.mono _ _ _ _ w.f (p.obj i a h o h1 h2 h3), fun i h h1 => (p.sub i h h1).trans w.h, fun i h h1 b o q => ?_, p.dR, p.dd, fun q hq => (p.gh q hq).mono w.f⟩
  · have z := p.slot i x v h1 h2
    cases x with
    | un => trivial
    | d x => obtain ⟨u, e, r⟩ := z; exact ⟨u, e, dp_mono w.f _ _ r⟩
    | o j => exact z
  · cases q2 : F b with
    | none => exact ex_none (p.sub i h h1) (w.new b o q q2)
    | some u => exact p.dF i h h1 b u q2
structure Good (C : Ct) (e : En) (σ : St) (F H : Hp) : Prop where
  ff : Ex C.F F
  rh : Ex C.R H
  fh : Ex F H
  fnew : ∀ b o, F b = some o → C.F b = none → C.R b = none
  parts : ∃ as hs, Parts C.K C.R F H σ e as hs
theorem Good.grow {C : Ct} {e : En} {σ : St} {F H F2 H2 : Hp} (g : Good C e σ F H) (w : Grow F H F2 H2) : Good C e σ F2 H2 := by
  obtain ⟨as, hs, p⟩ := g.parts
  refine ⟨g.ff.trans w.f, g.rh.trans w.h, w.sub, fun b o h n => ?_, as, hs, p.grow w⟩
  cases q : F b with
  | none => exact ex_none g.rh (w.new b o h q)
  | some u => exact g.fnew b u q n
theorem Good.ret {C : Ct} {e : En} {σ : St} {F H : Hp} (g : Good C e σ F H) (s : Ex C.F C.R) : Grow C.F C.R F H := ⟨g.ff, g.rh, g.fh, g.fnew⟩

/-! ### what evaluates to what -/
def EvE (C : Ct) (te : TE) (e : En) (d : PyData) : Prop := ∀ σ F H, Good C e σ F H → ∀ Q : VK, (∀ v F2 H2, Grow F H F2 H2 → Dp C.K F2 v d → Q v H2) → te σ H Q
def EvB (C : Ct) (tt : TT) (e : En) (b : Bool) : Prop := ∀ σ F H, Good C e σ F H → ∀ Q : Bool → Hp → Prop, (∀ F2 H2, Grow F H F2 H2 → Q b H2) → tt σ H Q
def EvA (C : Ct) (ta : TA) (e : En) (ds : List PyData) : Prop := ∀ σ F H, Good C e σ F H → ∀ Q : List V → Hp → Prop, (∀ vs F2 H2, Grow F H F2 H2 → DpAll C.K F2 vs ds → Q vs H2) → ta σ H Q
/-- a statement, what stands behind it -/
def Run (C : Ct) (e : En) (P : St → Hp → Prop) : Prop := ∀ σ F H, Good C e σ F H → P σ H
def NX (C : Ct) (e : En) : St → Hp → Prop := fun σ H => ∃ F, Good C e σ F H

section
variable {C : Ct} {e e' : En} {d x y z : PyData} {ds : List PyData} {te ta tb tx : TE} {tt tu : TT} {b : Bool}

theorem EvE.is (h : EvE C te e x) (q : x = y) : EvE C te e y := q ▸ h
theorem EvB.is {b' : Bool} (h : EvB C tt e b) (q : b = b') : EvB C tt e b' := q ▸ h

/-- a value's shape by its data -/
theorem dp_int {K : PySem.W.Frag} {F : Hp} {v : V} {i : Int} (h : Dp K F v (.int i)) : v = .int i := by cases h; rfl
theorem dp_str {K : PySem.W.Frag} {F : Hp} {v : V} {i : Str} (h : Dp K F v (.str i)) : v = .str i := by cases h; rfl
theorem dp_bool {K : PySem.W.Frag} {F : Hp} {v : V} {i : Bool} (h : Dp K F v (.bool i)) : v = .bl i := by cases h; rfl
theorem dp_none {K : PySem.W.Frag} {F : Hp} {v : V} (h : Dp K F v .none) : v = .non := by cases h; rfl
theorem dp_list {K : PySem.W.Frag} {F : Hp} {v : V} (h : Dp K F v (.list ds)) : ∃ a xs, v = .ref a ∧ SqL K F a xs ∧ DpAll K F xs ds := by
  cases h with
  | lst h r => exact ⟨_, _, rfl, h, r⟩
theorem dp_tuple {K : PySem.W.Frag} {F : Hp} {v : V} (h : Dp K F v (.tuple ds)) : ∃ a xs, v = .ref a ∧ SqT K F a xs ∧ DpAll K F xs ds := by
  cases h with
  | tup h r => exact ⟨_, _, rfl, h, r⟩

theorem ee_var {i : Nat} (h : e.s[i]? = some (.d d)) : EvE C (tVar i) e d := fun σ F H g Q q => by
  obtain ⟨as, hs, p⟩ := g.parts
  have hi : i < σ.length := Nat.lt_of_lt_of_le (List.getElem?_eq_some_iff.mp h).1 p.len
  obtain ⟨v, e1, r⟩ := p.slot i _ _ h (List.getElem?_eq_getElem hi)
  exact ⟨v, by rw [List.getElem?_eq_getElem hi, e1], q v F H (Grow.refl g.fh) r⟩
theorem ee_int {i : Int} : EvE C (tC (.int i)) e (.int i) := fun σ F H g Q q => q _ F H (Grow.refl g.fh) (.int i)
theorem ee_str {i : Str} : EvE C (tC (.str i)) e (.str i) := fun σ F H g Q q => q _ F H (Grow.refl g.fh) (.str i)
theorem ee_bl {i : Bool} : EvE C (tC (.bl i)) e (.bool i) := fun σ F H g Q q => q _ F H (Grow.refl g.fh) (.bl i)
theorem ee_non : EvE C (tC .non) e .none := fun σ F H g Q q => q _ F H (Grow.refl g.fh) .non
/-- a constant of the module -/
theorem ee_c {v : V} (h : ∀ F, Dp C.K F v d) : EvE C (tC v) e d := fun σ F H g Q q => q _ F H (Grow.refl g.fh) (h F)

/-- an operation on two values -/
def R2E (K : PySem.W.Frag) (r : R2) (x y z : PyData) : Prop := ∀ F H v u, Ex F H → Dp K F v x → Dp K F u y → ∀ Q : VK, (∀ w F2 H2, Grow F H F2 H2 → Dp K F2 w z → Q w H2) → r v u H Q
theorem ee_op {r : R2} (ha : EvE C ta e x) (hb : EvE C tb e y) (hr : R2E C.K r x y z) : EvE C (tOp r ta tb) e z := fun σ F H g Q q =>
  ha σ F H g _ fun v F1 H1 w1 d1 => hb σ F1 H1 (g.grow w1) _ fun u F2 H2 w2 d2 => hr F2 H2 v u w2.sub (dp_mono w2.f _ _ d1) d2 Q fun w F3 H3 w3 d3 => q w F3 H3 ((w1.trans w2).trans w3) d3
theorem r2_I0 {gg : Int → Int → V} {i j : Int} (h : ∀ F, Dp C.K F (gg i j) z) : R2E C.K (rI0 gg) (.int i) (.int j) z := fun F H v u s a b Q q => by
  cases a; cases b
  exact ⟨i, j, rfl, rfl, q _ F H (Grow.refl s) (h F)⟩
theorem r2_I {Co : Int → Int → Prop} {gg : Int → Int → V} {i j : Int} (hc : Co i j) (h : ∀ F, Dp C.K F (gg i j) z) : R2E C.K (rI Co gg) (.int i) (.int j) z := fun F H v u s a b Q q => by
  cases a; cases b
  exact ⟨i, j, rfl, rfl, hc, q _ F H (Grow.refl s) (h F)⟩
theorem r2_add {K : PySem.W.Frag} {i j : Int} : R2E K (rI0 fun i j => .int (i + j)) (.int i) (.int j) (.int (i + j)) := fun F H v u s a b Q q => by
  cases a; cases b
  exact ⟨i, j, rfl, rfl, q _ F H (Grow.refl s) (.int _)⟩
theorem r2_sub {K : PySem.W.Frag} {i j : Int} : R2E K (rI0 fun i j => .int (i - j)) (.int i) (.int j) (.int (i - j)) := fun F H v u s a b Q q => by
  cases a; cases b
  exact ⟨i, j, rfl, rfl, q _ F H (Grow.refl s) (.int _)⟩
theorem r2_bl {K : PySem.W.Frag} {p : Int → Int → Bool} {i j : Int} : R2E K (rI0 fun i j => .bl (p i j)) (.int i) (.int j) (.bool (p i j)) := fun F H v u s a b Q q => by
  cases a; cases b
  exact ⟨i, j, rfl, rfl, q _ F H (Grow.refl s) (.bl _)⟩

/-! ### lists, tuples -/
theorem ea_nil : EvA C tNil e [] := fun σ F H g Q q => q _ F H (Grow.refl g.fh) .nil
theorem ea_cons {tr : TA} (h : EvE C te e d) (hr : EvA C tr e ds) : EvA C (tCons te tr) e (d :: ds) := fun σ F H g Q q =>
  h σ F H g _ fun v F1 H1 w1 d1 => hr σ F1 H1 (g.grow w1) _ fun vs F2 H2 w2 d2 => q _ F2 H2 (w1.trans w2) (.cons (dp_mono w2.f _ _ d1) d2)
theorem ee_lst {tr : TA} (h : EvA C tr e ds) (hl : ds.length ≤ 100000) : EvE C (tLst tr) e (.list ds) := fun σ F H g Q q =>
  h σ F H g _ fun vs F1 H1 w1 d1 => ⟨sz_of (by rw [dps_len d1]; exact hl), fun p hp => q _ _ _ (w1.trans (Grow.alloc w1.sub hp)) (.lst (sq_of upd_same) (dps_mono (Ex.new (ex_none w1.sub hp)) _ _ d1))⟩
theorem ee_tup {tr : TA} (h : EvA C tr e ds) (hl : ds.length ≤ 100000) : EvE C (tTup tr) e (.tuple ds) := fun σ F H g Q q =>
  h σ F H g _ fun vs F1 H1 w1 d1 => ⟨sz_of (by rw [dps_len d1]; exact hl), fun p hp => q _ _ _ (w1.trans (Grow.alloc w1.sub hp)) (.tup (st_of upd_same) (dps_mono (Ex.new (ex_none w1.sub hp)) _ _ d1))⟩

/-! ### tests -/
theorem eb_test (h : EvE C te e (.bool b)) : EvB C (tTest te) e b := fun σ F H g Q q => h σ F H g _ fun v F2 H2 w d => ⟨b, dp_bool d, q F2 H2 w⟩
theorem eb_B (h : EvE C te e (.bool b)) : EvB C (tB te) e b := fun σ F H g Q q => h σ F H g _ fun v F2 H2 w d => ⟨b, dp_bool d, q F2 H2 w⟩
theorem eb_and {a c : Bool} (h1 : EvB C tt e a) (h2 : a = true → EvB C tu e c) : EvB C (tAnd tt tu) e (a && c) := fun σ F H g Q q => h1 σ F H g _ fun F1 H1 w1 => by
  cases a with
  | true =>
    show tu σ H1 Q
    exact h2 rfl σ F1 H1 (g.grow w1) Q fun F2 H2 w2 => q F2 H2 (w1.trans w2)
  | false =>
    show Q false H1
    exact q F1 H1 w1
theorem eb_or {a c : Bool} (h1 : EvB C tt e a) (h2 : a = false → EvB C tu e c) : EvB C (tOr tt tu) e (a || c) := fun σ F H g Q q => h1 σ F H g _ fun F1 H1 w1 => by
  cases a with
  | true =>
    show Q true H1
    exact q F1 H1 w1
  | false =>
    show tu σ H1 Q
    exact h2 rfl σ F1 H1 (g.grow w1) Q fun F2 H2 w2 => q F2 H2 (w1.trans w2)
theorem eb_not {a : Bool} (h : EvB C tt e a) : EvB C (tNot tt) e (!a) := fun σ F H g Q q => h σ F H g _ fun F1 H1 w1 => q F1 H1 w1
theorem ee_andV {a c : Bool} (h1 : EvE C ta e (.bool a)) (h2 : a = true → EvE C tb e (.bool c)) : EvE C (tAndV ta tb) e (.bool (a && c)) := fun σ F H g Q q => h1 σ F H g _ fun v F1 H1 w1 d1 => ⟨a, dp_bool d1, by
  cases a with
  | true =>
    show tb σ H1 Q
    exact h2 rfl σ F1 H1 (g.grow w1) Q fun v F2 H2 w2 d2 => q v F2 H2 (w1.trans w2) d2
  | false =>
    show Q (.bl false) H1
    exact q _ F1 H1 w1 (.bl _)⟩
theorem ee_orV {a c : Bool} (h1 : EvE C ta e (.bool a)) (h2 : a = false → EvE C tb e (.bool c)) : EvE C (tOrV ta tb) e (.bool (a || c)) := fun σ F H g Q q => h1 σ F H g _ fun v F1 H1 w1 d1 => ⟨a, dp_bool d1, by
  cases a with
  | true =>
    show Q (.bl true) H1
    exact q _ F1 H1 w1 (.bl _)
  | false =>
    show tb σ H1 Q
    exact h2 rfl σ F1 H1 (g.grow w1) Q fun v F2 H2 w2 d2 => q v F2 H2 (w1.trans w2) d2⟩
theorem ee_notV {a : Bool} (h : EvE C ta e (.bool a)) : EvE C (tNotV ta) e (.bool (!a)) := fun σ F H g Q q => h σ F H g _ fun v F1 H1 w1 d1 => ⟨a, dp_bool d1, q _ F1 H1 w1 (.bl _)⟩
theorem ee_if (h : EvB C tt e b) (h1 : b = true → EvE C ta e d) (h2 : b = false → EvE C tb e d) : EvE C (tIf tt ta tb) e d := fun σ F H g Q q => h σ F H g _ fun F1 H1 w1 => by
  cases b with
  | true =>
    show ta σ H1 Q
    exact h1 rfl σ F1 H1 (g.grow w1) Q fun v F2 H2 w2 d2 => q v F2 H2 (w1.trans w2) d2
  | false =>
    show tb σ H1 Q
    exact h2 rfl σ F1 H1 (g.grow w1) Q fun v F2 H2 w2 d2 => q v F2 H2 (w1.trans w2) d2
def isNone : PyData → Bool
  | .none => true
  | _ => false
theorem dp_isN {K : PySem.W.Frag} {F : Hp} {v : V} (h : Dp K F v d) : decide (v = V.non) = isNone d := by cases h <;> simp [isNone]
theorem ee_isN (h : EvE C ta e d) : EvE C (tIsN ta) e (.bool (isNone d)) := fun σ F H g Q q => h σ F H g _ fun v F1 H1 w1 d1 => by
  have z := dp_isN d1
  show Q (.bl (decide (v = V.non))) H1
  rw [z]
  exact q _ F1 H1 w1 (.bl _)

/-! ### built-ins, methods, calls by data -/
/-- what a built-in's rule gives on data -/
def RCE (K : PySem.W.Frag) (r : List V → Hp → VK → Prop) (ds : List PyData) (z : PyData) : Prop := ∀ F H vs, Ex F H → DpAll K F vs ds → ∀ Q : VK, (∀ w F2 H2, Grow F H F2 H2 → Dp K F2 w z → Q w H2) → r vs H Q
theorem ee_cb {r : List V → Hp → VK → Prop} {tr : TA} (h : EvA C tr e ds) (hr : RCE C.K r ds z) : EvE C (tCB r tr) e z := fun σ F H g Q q =>
  h σ F H g _ fun vs F1 H1 w1 d1 => hr F1 H1 vs w1.sub d1 Q fun w F2 H2 w2 d2 => q w F2 H2 (w1.trans w2) d2
/-- a def of data: what it gives -/
def spF (K : PySem.W.Frag) (f : List PyData → PyData → Prop) : Sp := fun vs H Q _ => ∃ F ds d, Ex F H ∧ DpAll K F vs ds ∧ f ds d ∧ ∀ v F2 H2, Grow F H F2 H2 → Dp K F2 v d → Q v H2
theorem ee_call {f : List PyData → PyData → Prop} {E : XK} {tr : TA} (h : EvA C tr e ds) (hf : f ds d) : EvE C (tCall (spF C.K f) [] E tr) e d := fun σ F H g Q q =>
  h σ F H g _ fun vs F1 H1 w1 d1 => ⟨F1, ds, d, w1.sub, by rw [List.append_nil]; exact d1, hf, fun v F2 H2 w2 d2 => q v F2 H2 (w1.trans w2) d2⟩

/-! ### statements -/
variable {D : Ends} {t u : TS} {P : St → Hp → Prop}
def En.set (e : En) (i : Nat) (d : PyData) : En := ⟨e.s.set i (.d d), e.o, e.g⟩
theorem Good.set {σ : St} {F H : Hp} {i : Nat} {v : V} (g : Good C e σ F H) (h : Dp C.K F v d) : Good C (e.set i d) (σ.set i (some v)) F H := by
  obtain ⟨as, hs, p⟩ := g.parts
  refine ⟨g.ff, g.rh, g.fh, g.fnew, as, hs, by show (e.s.set i _).length ≤ _; rw [List.length_set, List.length_set]; exact p.len, fun j x w h1 h2 => ?_, p.la, p.lh, p.obj, p.sub, p.dF, p.dR, p.dd, p.gh⟩
  have h1' : (e.s.set i (.d d))[j]? = some x := h1
  by_cases hj : i = j
  · subst hj
    rw [List.getElem?_set] at h1' h2
    simp only [if_true] at h1' h2
    split at h1'
    · split at h2
      · cases h1'; cases h2; exact ⟨v, rfl, h⟩
      · cases h2
    · cases h1'
  · rw [List.getElem?_set_ne hj] at h1' h2
    exact p.slot j x w h1' h2
theorem r_seq (h : Run C e (t { D with nx := u D })) : Run C e (tSeq t u D) := h
theorem r_asg {i : Nat} (h : EvE C te e d) (k : Run C (e.set i d) D.nx) : Run C e (tAsg te (gName i) D) := fun σ F H g =>
  h σ F H g _ fun v F2 H2 w r => k _ F2 H2 ((g.grow w).set r)
theorem r_drop (h : EvE C te e d) (k : Run C e D.nx) : Run C e (tDrop te D) := fun σ F H g => h σ F H g _ fun v F2 H2 w r => k _ F2 H2 (g.grow w)
theorem r_if (h : EvB C tt e b) (h1 : b = true → Run C e (t D)) (h2 : b = false → Run C e (u D)) : Run C e (tIfS tt t u D) := fun σ F H g => h σ F H g _ fun F2 H2 w => by
  cases b with
  | true =>
    show t D σ H2
    exact h1 rfl σ F2 H2 (g.grow w)
  | false =>
    show u D σ H2
    exact h2 rfl σ F2 H2 (g.grow w)
theorem r_next (k : Run C e D.nx) : Run C e (tNext D) := k
def RetE (C : Ct) (e : En) (D : Ends) (d : PyData) : Prop := ∀ σ v F H, Good C e σ F H → Dp C.K F v d → D.rt v H
theorem r_ret (h : EvE C te e d) (k : RetE C e D d) : Run C e (tRet te D) := fun σ F H g => h σ F H g _ fun v F2 H2 w r => k σ v F2 H2 (g.grow w) r
theorem r_cut {e' : En} (h : Run C e (t { D with nx := NX C e' })) (k : Run C e' (u D)) : Run C e (tCut t u D) := fun σ F H g => ⟨NX C e', h σ F H g, fun σ' H' ⟨F', g'⟩ => k σ' F' H' g'⟩
/-- forgetting -/
inductive LeS : List Sl → List Sl → Prop
  | nil : LeS [] []
  | same {x a b} : LeS a b → LeS (x :: a) (x :: b)
  | un {x a b} : LeS a b → LeS (x :: a) (.un :: b)
theorem LeS.refl : ∀ a, LeS a a
  | [] => .nil
  | x :: a => .same (LeS.refl a)
theorem LeS.len {a b} (h : LeS a b) : a.length = b.length := by induction h <;> simp_all
theorem LeS.at {a b} (h : LeS a b) : ∀ (i : Nat) x, b[i]? = some x → x = .un ∨ a[i]? = some x := by
  induction h with
  | nil => intro i x h; simp at h
  | same h ih => intro i x q; cases i with
    | zero => exact .inr q
    | succ i => exact ih i x (by simpa using q)
  | un h ih => intro i x q; cases i with
    | zero => simp at q; exact .inl q.symm
    | succ i => rcases ih i x (by simpa using q) with z | z
                · exact .inl z
                · exact .inr (by simpa using z)
theorem Good.le {σ : St} {F H : Hp} {s' : List Sl} {g' : List (V × Sl)} (g : Good C e σ F H) (h : LeS e.s s') (hg : ∀ q ∈ g', q ∈ e.g) : Good C ⟨s', e.o, g'⟩ σ F H := by
  obtain ⟨as, hs, p⟩ := g.parts
  refine ⟨g.ff, g.rh, g.fh, g.fnew, as, hs, by show s'.length ≤ _; rw [← h.len]; exact p.len, fun j x w h1 h2 => ?_, p.la, p.lh, p.obj, p.sub, p.dF, p.dR, p.dd, fun q hq => p.gh q (hg q hq)⟩
  rcases h.at j x h1 with z | z
  · subst z; trivial
  · exact p.slot j x w z h2
theorem r_le {s' : List Sl} {g' : List (V × Sl)} (h : LeS e.s s') (k : Run C ⟨s', e.o, g'⟩ P) (hg : ∀ q ∈ g', q ∈ e.g := by intro q h; first | exact h | cases h | (simp at h ⊢; exact h) | (simp [h])) : Run C e P := fun σ F H g => k σ F H (g.le h hg)
theorem r_nx : Run C e (NX C e) := fun σ F H g => ⟨F, g⟩
theorem r_nxle {s' : List Sl} {o' : List Ow} {g' : List (V × Sl)} (h : LeS e.s s') (ho : e.o = o') (hg : ∀ q ∈ g', q ∈ e.g) : Run C e (NX C ⟨s', o', g'⟩) := fun σ F H g => by subst ho; exact ⟨F, g.le h hg⟩
end
end LH

namespace LH
open PySem L2 Evl PySem.Spec PyProof.Rows

/-! ### operations whose operands may be of several kinds -/
theorem opR_or {X : Cx} {f : Value → Value → Sem Value} {r r' : R2} (h : OpR X f r) (h' : OpR X f r') : OpR X f (fun x y H Q => r x y H Q ∨ r' x y H Q) := by
  intro pins s σ H x y v u Q I rx ry q
  rcases q with q | q
  · exact h pins s σ H x y v u Q I rx ry q
  · exact h' pins s σ H x y v u Q I rx ry q
theorem callR_or {X : Cx} {f : Value} {r r' : List V → Hp → VK → Prop} (h : CallR X f r) (h' : CallR X f r') : CallR X f (fun xs H Q => r xs H Q ∨ r' xs H Q) := by
  intro pins s σ H xs us Q I rs q
  rcases q with q | q
  · exact h pins s σ H xs us Q I rs q
  · exact h' pins s σ H xs us Q I rs q
/-- list + list, whatever is known of them -/
def rCatS (K : PySem.W.Frag) : R2 := fun x y H Q => ∃ l b xs zs, x = .ref l ∧ y = .ref b ∧ SqL K H l xs ∧ SqL K H b zs ∧ xs.length + zs.length ≤ sizeLine ∧ ∀ p, H p = none → Q (.ref p) (upd H p (.lst (xs ++ zs)))
theorem add_LL (l : Addr) (items : Array Value) (n : Nat) (dd : Option Addr) (sl : Array (Option Value)) (b : Addr) (items2 : Array Value) (n2 : Nat) (dd2 : Option Addr) (sl2 : Array (Option Value)) (hc0 : items.size + items2.size ≤ sizeLine) :
    Meets (Builtin.«list.__add__» ⟨[.ref l, .ref b], []⟩) (fun _ R s => s.heap.get? l = some { cls := .type "list", dict := dd, data := .seq items n, slots := sl } ∧ s.heap.get? b = some { cls := .type "list", dict := dd2, data := .seq items2 n2, slots := sl2 } ∧ R (.ok (.ret (Value.ref s.heap.objs.size))) { s with heap := s.heap.push { cls := Value.type "list", data := Data.seq (items ++ items2) }, toks := s.toks }) :=
  .of_wp fun prog w A R s h => by obtain ⟨hp, g, d, tk, os⟩ := s; obtain ⟨hl, hb, h⟩ := h; have f1 := AutoSeq1.idx_int; have f2 := AutoSeq1.sub_tuple_tuple; have f3 := AutoSeq1.sub_list_list; have f4 := AutoSeq1.sub_tuple_list; have f5 := AutoSeq1.sub_list_tuple; wp_walk using AutoSeq1.wpAny_loadPart' hl, AutoSeq1.wpAny_loadPart' hb; exact ⟨_, rfl, h⟩
theorem op_catS {X : Cx} : OpR X (binaryOp .Add) (rCatS X.K) := by
  intro pins s σ H x y v u Q I rx ry h
  obtain ⟨l, b, xs, zs, rfl, rfl, hH, hB, hz, q⟩ := h
  cases rx
  cases ry
  obtain ⟨its, r, pl, hl⟩ := I.list hH
  obtain ⟨its2, r2, pl2, hl2⟩ := I.list hB
  obtain ⟨⟨cls, dd, data, sl⟩, n, e, hc, _, hd⟩ := pl
  obtain ⟨⟨cls2, dd2, data2, sl2⟩, n2, e2, hc2, _, hd2⟩ := pl2
  simp only at hc hd hc2 hd2
  subst hc hd hc2 hd2
  have el := r.length
  have el2 := r2.length
  refine PySem.concat_meets ⟨_, e, rfl⟩ ⟨_, e2, rfl⟩ PySem.noFill_list_add PySem.seq_list_add F.slot_list_add F.entry_list_add (F.args_list_add_2 _ _) (add_LL l its.toArray n dd sl b its2.toArray n2 dd2 sl2 (by rw [List.size_toArray, List.size_toArray]; omega)) ⟨e, e2, ?_⟩
  have ea : its.toArray ++ its2.toArray = (its ++ its2).toArray := by simp
  rw [ea]
  exact ⟨.ref _, _, I.lnew (t' := s.toks) (r.append r2) (by rw [List.length_append]; omega), rfl, q _ I.fresh⟩

/-- a + b: ints, texts, lists -/
def rAddA (K : PySem.W.Frag) : R2 := fun x y H Q => (rI0 fun i j => .int (i + j)) x y H Q ∨ (∃ i j, x = .str i ∧ y = .str j ∧ i.length + j.length ≤ sizeLine ∧ Q (.str (i ++ j)) H) ∨ rCatS K x y H Q
theorem op_addA {X : Cx} : OpR X (binaryOp .Add) (rAddA X.K) := opR_or op_add (opR_or op_add_str op_catS)
theorem r2_addI {K : PySem.W.Frag} {i j : Int} : R2E K (rAddA K) (.int i) (.int j) (.int (i + j)) := fun F H v u s a b Q q => by
  cases a; cases b
  exact .inl ⟨i, j, rfl, rfl, q _ F H (Grow.refl s) (.int _)⟩
theorem r2_addS {K : PySem.W.Frag} {i j : Str} (h : i.length + j.length ≤ 1000000) : R2E K (rAddA K) (.str i) (.str j) (.str (i ++ j)) := fun F H v u s a b Q q => by
  cases a; cases b
  exact .inr (.inl ⟨i, j, rfl, rfl, Nat.le_trans h (by decide), q _ F H (Grow.refl s) (.str _)⟩)
theorem r2_addL {K : PySem.W.Frag} {xs ys : List PyData} (h : xs.length + ys.length ≤ 1000000) : R2E K (rAddA K) (.list xs) (.list ys) (.list (xs ++ ys)) := fun F H v u s a b Q q => by
  obtain ⟨l, vs, rfl, h1, r1⟩ := dp_list a
  obtain ⟨m, us, rfl, h2, r2⟩ := dp_list b
  refine .inr (.inr ⟨l, m, vs, us, rfl, rfl, ex_l s h1, ex_l s h2, Nat.le_trans (by rw [dps_len r1, dps_len r2]; exact h) (by decide), fun p hp => ?_⟩)
  exact q _ _ _ (Grow.alloc s hp) (.lst (sq_of upd_same) (dps_mono (Ex.new (ex_none s hp)) _ _ (dps_app r1 r2)))
/-- a < b and its kin: ints, texts -/
def rCmpA (p : Int → Int → Bool) (q : Str → Str → Bool) : R2 := fun x y H Q => (rI0 fun i j => .bl (p i j)) x y H Q ∨ ∃ i j, x = .str i ∧ y = .str j ∧ Q (.bl (q i j)) H
theorem op_ltA {X : Cx} : OpR X (compareOp .Lt) (rCmpA (fun i j => decide (i < j)) fun i j => decide (i.cps.toList < j.cps.toList)) := opR_or op_lt op_lt_str
theorem op_gtA {X : Cx} : OpR X (compareOp .Gt) (rCmpA (fun i j => decide (j < i)) fun i j => decide (j.cps.toList < i.cps.toList)) := opR_or op_gt op_gt_str
theorem op_leA {X : Cx} : OpR X (compareOp .LtE) (rCmpA (fun i j => decide (i ≤ j)) fun i j => !decide (j.cps.toList < i.cps.toList)) := opR_or op_le op_le_str
theorem op_geA {X : Cx} : OpR X (compareOp .GtE) (rCmpA (fun i j => decide (j ≤ i)) fun i j => !decide (i.cps.toList < j.cps.toList)) := opR_or op_ge op_ge_str
theorem r2_cmpI {K : PySem.W.Frag} {p : Int → Int → Bool} {pq : Str → Str → Bool} {i j : Int} : R2E K (rCmpA p pq) (.int i) (.int j) (.bool (p i j)) := fun F H v u s a b Q q => by
  cases a; cases b
  exact .inl ⟨i, j, rfl, rfl, q _ F H (Grow.refl s) (.bl _)⟩
theorem r2_cmpS {K : PySem.W.Frag} {p : Int → Int → Bool} {pq : Str → Str → Bool} {i j : Str} : R2E K (rCmpA p pq) (.str i) (.str j) (.bool (pq i j)) := fun F H v u s a b Q q => by
  cases a; cases b
  exact .inr ⟨i, j, rfl, rfl, q _ F H (Grow.refl s) (.bl _)⟩
/-- == and != of data -/
theorem r2_eq {K : PySem.W.Frag} {x y : PyData} (hx : SeqAt.shaped x = true) (hy : SeqAt.shaped y = true) : R2E K (rEqD K) x y (.bool (PyData.eqv x y)) := fun F H v u s a b Q q =>
  ⟨x, y, dp_mono s _ _ a, dp_mono s _ _ b, hx, hy, q _ F H (Grow.refl s) (.bl _)⟩
theorem r2_ne {K : PySem.W.Frag} {x y : PyData} (hx : SeqAt.shaped x = true) (hy : SeqAt.shaped y = true) : R2E K (rNeD K) x y (.bool (!PyData.eqv x y)) := fun F H v u s a b Q q =>
  ⟨x, y, dp_mono s _ _ a, dp_mono s _ _ b, hx, hy, q _ F H (Grow.refl s) (.bl _)⟩
/-- == and != of values without objects, of data -/
def rEqA (K : PySem.W.Frag) : R2 := fun x y H Q => rEq x y H Q ∨ rEqD K x y H Q
def rNeA (K : PySem.W.Frag) : R2 := fun x y H Q => rNe x y H Q ∨ rNeD K x y H Q
theorem op_eqA {X : Cx} (hu : X.A.units + 64 < cLine) : OpR X (compareOp .Eq) (rEqA X.K) := opR_or op_eq (op_eqD hu)
theorem op_neA {X : Cx} (hu : X.A.units + 64 < cLine) : OpR X (compareOp .NotEq) (rNeA X.K) := opR_or op_ne (op_neD hu)
theorem r2_eqD {K : PySem.W.Frag} {x y : PyData} (hx : SeqAt.shaped x = true) (hy : SeqAt.shaped y = true) : R2E K (rEqA K) x y (.bool (PyData.eqv x y)) := fun F H v u s a b Q q => .inr (r2_eq hx hy F H v u s a b Q q)
theorem r2_neD {K : PySem.W.Frag} {x y : PyData} (hx : SeqAt.shaped x = true) (hy : SeqAt.shaped y = true) : R2E K (rNeA K) x y (.bool (!PyData.eqv x y)) := fun F H v u s a b Q q => .inr (r2_ne hx hy F H v u s a b Q q)
theorem dec_str {i j : Str} : decide (V.str i = V.str j) = decide (i = j) := by simp
theorem dec_int {i j : Int} : decide (V.int i = V.int j) = decide (i = j) := by simp
theorem dec_bl {i j : Bool} : decide (V.bl i = V.bl j) = decide (i = j) := by simp
theorem r2_eqS {K : PySem.W.Frag} {i j : Str} : R2E K (rEqA K) (.str i) (.str j) (.bool (decide (i = j))) := fun F H v u s a b Q q => by
  cases a; cases b
  exact .inl ⟨rfl, by rw [dec_str]; exact q _ F H (Grow.refl s) (.bl _)⟩
theorem r2_neS {K : PySem.W.Frag} {i j : Str} : R2E K (rNeA K) (.str i) (.str j) (.bool (!decide (i = j))) := fun F H v u s a b Q q => by
  cases a; cases b
  exact .inl ⟨rfl, by rw [dec_str]; exact q _ F H (Grow.refl s) (.bl _)⟩
theorem r2_eqI {K : PySem.W.Frag} {i j : Int} : R2E K (rEqA K) (.int i) (.int j) (.bool (decide (i = j))) := fun F H v u s a b Q q => by
  cases a; cases b
  exact .inl ⟨rfl, by rw [dec_int]; exact q _ F H (Grow.refl s) (.bl _)⟩
theorem r2_neI {K : PySem.W.Frag} {i j : Int} : R2E K (rNeA K) (.int i) (.int j) (.bool (!decide (i = j))) := fun F H v u s a b Q q => by
  cases a; cases b
  exact .inl ⟨rfl, by rw [dec_int]; exact q _ F H (Grow.refl s) (.bl _)⟩
theorem r2_eqB {K : PySem.W.Frag} {i j : Bool} : R2E K (rEqA K) (.bool i) (.bool j) (.bool (decide (i = j))) := fun F H v u s a b Q q => by
  cases a; cases b
  exact .inl ⟨rfl, by rw [dec_bl]; exact q _ F H (Grow.refl s) (.bl _)⟩
theorem r2_neB {K : PySem.W.Frag} {i j : Bool} : R2E K (rNeA K) (.bool i) (.bool j) (.bool (!decide (i = j))) := fun F H v u s a b Q q => by
  cases a; cases b
  exact .inl ⟨rfl, by rw [dec_bl]; exact q _ F H (Grow.refl s) (.bl _)⟩
/-! ### subscripts -/
theorem ixN_len {n : Nat} {i : Int} {j : Nat} (h : ixN n i = some j) : j < n := (ixN_seq h).2.1
theorem dps_atI {K : PySem.W.Frag} {F : Hp} {vs : List V} {ds : List PyData} {i : Int} {d : PyData} (r : DpAll K F vs ds) (h : atI ds i = some d) : ∃ v, atI vs i = some v ∧ Dp K F v d := by
  unfold atI at h ⊢
  rw [dps_len r]
  cases e : ixN ds.length i with
  | none => rw [e] at h; cases h
  | some j =>
    rw [e] at h
    exact dps_get r h
theorem r2_ixL {K : PySem.W.Frag} {ds : List PyData} {i : Int} {d : PyData} (h : atI ds i = some d) : R2E K (rIx K) (.list ds) (.int i) d := fun F H v u s a b Q q => by
  cases b
  obtain ⟨l, vs, rfl, h1, r1⟩ := dp_list a
  obtain ⟨w, e, r⟩ := dps_atI r1 h
  exact .inl ⟨l, vs, i, w, rfl, rfl, ex_l s h1, e, q _ F H (Grow.refl s) r⟩
theorem r2_ixT {K : PySem.W.Frag} {ds : List PyData} {i : Int} {d : PyData} (h : atI ds i = some d) : R2E K (rIx K) (.tuple ds) (.int i) d := fun F H v u s a b Q q => by
  cases b
  obtain ⟨l, vs, rfl, h1, r1⟩ := dp_tuple a
  obtain ⟨w, e, r⟩ := dps_atI r1 h
  exact .inr (.inl ⟨l, vs, i, w, rfl, rfl, ex_t s h1, e, q _ F H (Grow.refl s) r⟩)
theorem r2_ixS {K : PySem.W.Frag} {z : Str} {i : Int} {c : Nat} (h : atI z.cps.toList i = some c) (hz : z.length ≤ 1000000) : R2E K (rIx K) (.str z) (.int i) (.str ⟨#[c]⟩) := fun F H v u s a b Q q => by
  cases a; cases b
  exact .inr (.inr ⟨z, i, c, rfl, rfl, Nat.le_trans hz (by decide), h, q _ F H (Grow.refl s) (.str _)⟩)
theorem atI_nat' {α : Type} {xs : List α} {i : Int} {x : α} (h0 : 0 ≤ i) (h : xs[i.toNat]? = some x) : atI xs i = some x := by
  have e : ((i.toNat : Nat) : Int) = i := Int.toNat_of_nonneg h0
  rw [← e]
  exact atI_nat h
section
variable {C : Ct} {e : En} {d x y z : PyData} {ds : List PyData} {te ta tb tx : TE} {tt tu : TT} {b : Bool}
/-! ### slices -/
def EvO (C : Ct) (to : TO) (e : En) (o : Option Int) : Prop := ∀ σ F H, Good C e σ F H → ∀ Q : Option Int → Hp → Prop, (∀ F2 H2, Grow F H F2 H2 → Q o H2) → to σ H Q
theorem eo_no : EvO C tNoPart e none := fun σ F H g Q q => q F H (Grow.refl g.fh)
theorem eo_some {i : Int} (h : EvE C te e (.int i)) : EvO C (tPart te) e (some i) := fun σ F H g Q q => h σ F H g _ fun v F2 H2 w r => ⟨i, dp_int r, q F2 H2 w⟩
/-- a slice, of a list, a text -/
def rSlA2 (K : PySem.W.Frag) : V → Option Int → Option Int → Hp → VK → Prop := fun x lo hi H Q => rSlL K x lo hi H Q ∨ rSlS x lo hi H Q
theorem sl_any {X : Cx} : SlR X (rSlA2 X.K) := by
  intro pins s σ H x v vl vu lo hi sl Q I rx hs pl pu h
  rcases h with h | h
  · exact sl_list pins s σ H x v vl vu lo hi sl Q I rx hs pl pu h
  · exact sl_str pins s σ H x v vl vu lo hi sl Q I rx hs pl pu h
def cutD (xs : List PyData) (lo hi : Option Int) : List PyData := (xs.drop (HT.sIx xs.length 0 lo)).take (HT.sIx xs.length xs.length hi - HT.sIx xs.length 0 lo)
theorem ee_slL {tl th : TO} {lo hi : Option Int} (h : EvE C te e (.list ds)) (h1 : EvO C tl e lo) (h2 : EvO C th e hi) : EvE C (tSl (rSlA2 C.K) te tl th) e (.list (cutD ds lo hi)) := fun σ F H g Q q =>
  h σ F H g _ fun v F1 H1 w1 d1 => h1 σ F1 H1 (g.grow w1) _ fun F2 H2 w2 => h2 σ F2 H2 ((g.grow w1).grow w2) _ fun F3 H3 w3 => by
    obtain ⟨l, vs, rfl, hl, r⟩ := dp_list d1
    have w := (w2.trans w3)
    refine .inl ⟨l, vs, rfl, ex_l w3.sub (ex_l w.f hl), fun p hp => q _ _ _ ((w1.trans w).trans (Grow.alloc w3.sub hp)) (.lst (sq_of upd_same) (dps_mono (Ex.new (ex_none w3.sub hp)) _ _ ?_))⟩
    unfold cutV cutD
    rw [dps_len r]
    exact dps_mono w.f _ _ (dps_take _ (dps_drop _ r))
theorem ee_slS {tl th : TO} {lo hi : Option Int} {zz : Str} (h : EvE C te e (.str zz)) (h1 : EvO C tl e lo) (h2 : EvO C th e hi) (hz : zz.length ≤ 1000000) : EvE C (tSl (rSlA2 C.K) te tl th) e (.str (cutS zz lo hi)) := fun σ F H g Q q =>
  h σ F H g _ fun v F1 H1 w1 d1 => h1 σ F1 H1 (g.grow w1) _ fun F2 H2 w2 => h2 σ F2 H2 ((g.grow w1).grow w2) _ fun F3 H3 w3 => by
    cases d1
    exact .inr ⟨zz, rfl, Nat.le_trans hz (by decide), q _ F3 H3 ((w1.trans w2).trans w3) (.str _)⟩
/-! ### built-ins -/
theorem dps_one {K : PySem.W.Frag} {F : Hp} {vs : List V} {d : PyData} (r : DpAll K F vs [d]) : ∃ v, vs = [v] ∧ Dp K F v d := by
  cases r with
  | cons h t => cases t; exact ⟨_, rfl, h⟩
def rLenA (K : PySem.W.Frag) : List V → Hp → VK → Prop := fun xs H Q => ∃ x n, xs = [x] ∧ LenV K x H n ∧ Q (.int n) H
theorem call_lenA {X : Cx} : CallR X (.builtin "len") (rLenA X.K) := call_len
theorem rc_lenL {K : PySem.W.Frag} {ds : List PyData} : RCE K (rLenA K) [.list ds] (.int ds.length) := fun F H vs s r Q q => by
  obtain ⟨v, rfl, d1⟩ := dps_one r
  obtain ⟨l, us, rfl, hl, r⟩ := dp_list d1
  exact ⟨_, us.length, rfl, .inl ⟨us, ex_l s hl, rfl⟩, by rw [dps_len r]; exact q _ F H (Grow.refl s) (.int _)⟩
theorem rc_lenT {K : PySem.W.Frag} {ds : List PyData} : RCE K (rLenA K) [.tuple ds] (.int ds.length) := fun F H vs s r Q q => by
  obtain ⟨v, rfl, d1⟩ := dps_one r
  obtain ⟨l, us, rfl, hl, r⟩ := dp_tuple d1
  exact ⟨_, us.length, rfl, .inr ⟨us, ex_t s hl, rfl⟩, by rw [dps_len r]; exact q _ F H (Grow.refl s) (.int _)⟩
theorem rc_lenS {K : PySem.W.Frag} {zz : Str} (hz : zz.length ≤ 1000000) : RCE K (rLenA K) [.str zz] (.int zz.length) := fun F H vs s r Q q => by
  obtain ⟨v, rfl, d1⟩ := dps_one r
  cases d1
  exact ⟨_, zz.length, rfl, ⟨Nat.le_trans hz (by decide), rfl⟩, q _ F H (Grow.refl s) (.int _)⟩
/-- int(n), int(b), int(text) -/
def rIntA : List V → Hp → VK → Prop := fun xs H Q => ((∃ i, xs = [.int i] ∧ Q (.int i) H) ∨ ∃ k, xs = [.bl k] ∧ Q (.int (if k then 1 else 0)) H) ∨ ∃ a n, xs = [.str a] ∧ PySem.intText? a = some n ∧ a.length ≤ 640 ∧ Q (.int n) H
theorem call_intA {X : Cx} : CallR X (.type "int") rIntA := callR_or call_int1 call_int_str
theorem rc_intI {K : PySem.W.Frag} {i : Int} : RCE K rIntA [.int i] (.int i) := fun F H vs s r Q q => by
  obtain ⟨v, rfl, d1⟩ := dps_one r
  cases d1
  exact .inl (.inl ⟨i, rfl, q _ F H (Grow.refl s) (.int _)⟩)
theorem rc_intS {K : PySem.W.Frag} {a : Str} {n : Int} (h : PySem.intText? a = some n) (hl : a.length ≤ 640) : RCE K rIntA [.str a] (.int n) := fun F H vs s r Q q => by
  obtain ⟨v, rfl, d1⟩ := dps_one r
  cases d1
  exact .inr ⟨a, n, rfl, h, hl, q _ F H (Grow.refl s) (.int _)⟩
/-- str(n), str(text) -/
def rStrA : List V → Hp → VK → Prop := fun xs H Q => (∃ i, xs = [.int i] ∧ i.natAbs.log2 < 1920 ∧ Q (.str (toString i)) H) ∨ ∃ a, xs = [.str a] ∧ Q (.str a) H
theorem call_strA {X : Cx} : CallR X (.type "str") rStrA := callR_or call_str_int SkE.call_str_str
theorem rc_strI {K : PySem.W.Frag} {i : Int} (h : i.natAbs.log2 < 1920) : RCE K rStrA [.int i] (.str (toString i)) := fun F H vs s r Q q => by
  obtain ⟨v, rfl, d1⟩ := dps_one r
  cases d1
  exact .inl ⟨i, rfl, h, q _ F H (Grow.refl s) (.str _)⟩
theorem rc_strS {K : PySem.W.Frag} {a : Str} : RCE K rStrA [.str a] (.str a) := fun F H vs s r Q q => by
  obtain ⟨v, rfl, d1⟩ := dps_one r
  cases d1
  exact .inr ⟨a, rfl, q _ F H (Grow.refl s) (.str _)⟩
def rAbs : List V → Hp → VK → Prop := fun xs H Q => ∃ i, xs = [.int i] ∧ Q (.int (if i < 0 then -i else i)) H
theorem call_absA {X : Cx} : CallR X (.builtin "abs") rAbs := call_abs
theorem rc_abs {K : PySem.W.Frag} {i : Int} : RCE K rAbs [.int i] (.int (i.natAbs : Int)) := fun F H vs s r Q q => by
  obtain ⟨v, rfl, d1⟩ := dps_one r
  cases d1
  refine ⟨i, rfl, ?_⟩
  have e : (if i < 0 then -i else i) = (i.natAbs : Int) := by split <;> omega
  rw [e]
  exact q _ F H (Grow.refl s) (.int _)
/-! ### methods of texts -/
/-- a method without arguments, on a text -/
theorem ee_m0 {r : V → List V → Hp → VK → Prop} {a : Str} (h : EvE C te e (.str a)) (hr : ∀ H (Q : VK), (∀ v, Dp C.K H v z → Q v H) → r (.str a) [] H Q) (hz : ∀ F H v, Dp C.K H v z → Dp C.K F v z) : EvE C (tM0 r te) e z := fun σ F H g Q q =>
  h σ F H g _ fun v F1 H1 w1 d1 => by
    cases d1
    exact ⟨⟨a, rfl⟩, hr H1 _ fun v dv => q v F1 H1 w1 (hz _ _ _ dv)⟩
def rM0b (f : Str → Bool) : V → List V → Hp → VK → Prop := fun x xs H Q => ∃ a, x = .str a ∧ xs = [] ∧ True ∧ Q (.bl (f a)) H
theorem ee_m0b {f : Str → Bool} {a : Str} (h : EvE C te e (.str a)) : EvE C (tM0 (rM0b f) te) e (.bool (f a)) := fun σ F H g Q q =>
  h σ F H g _ fun v F1 H1 w1 d1 => by
    cases d1
    exact ⟨⟨a, rfl⟩, a, rfl, rfl, trivial, q _ F1 H1 w1 (.bl _)⟩
theorem ml_isascii {X : Cx} : MtR X "str.isascii" (rM0b Txt.isascii) := mt_isascii
theorem ml_isalpha {X : Cx} : MtR X "str.isalpha" (rM0b Txt.isalpha) := mt_isalpha
theorem ml_islower {X : Cx} : MtR X "str.islower" (rM0b Txt.islower) := mt_islower
theorem ml_isdecimal {X : Cx} : MtR X "str.isdecimal" (rM0b Txt.isdecimal) := mt_isdecimal
def rM1b (f : Str → Str → Bool) : V → List V → Hp → VK → Prop := fun x xs H Q => ∃ a b, x = .str a ∧ xs = [.str b] ∧ Q (.bl (f a b)) H
theorem ee_m1b {f : Str → Str → Bool} {a c : Str} (h : EvE C te e (.str a)) (h2 : EvE C ta e (.str c)) : EvE C (tM1 (rM1b f) te ta) e (.bool (f a c)) := fun σ F H g Q q =>
  h σ F H g _ fun v F1 H1 w1 d1 => by
    cases d1
    refine ⟨⟨a, rfl⟩, h2 σ F1 H1 (g.grow w1) _ fun v F2 H2 w2 d2 => ?_⟩
    cases d2
    exact ⟨a, c, rfl, rfl, q _ F2 H2 (w1.trans w2) (.bl _)⟩
theorem ml_startswith {X : Cx} : MtR X "str.startswith" (rM1b Txt.startswith) := mt_startswith
def rPart : V → List V → Hp → VK → Prop := fun x xs H Q => ∃ a b, x = .str a ∧ xs = [.str b] ∧ (b.length == 0) = false ∧ a.length ≤ sizeLine ∧
    ∀ p, H p = none → Q (.ref p) (upd H p (.tup [.str (Txt.partition a b).1, .str (Txt.partition a b).2.1, .str (Txt.partition a b).2.2]))
theorem ml_partition {X : Cx} : MtR X "str.partition" rPart := mt_partition
theorem ee_part {a c : Str} (h : EvE C te e (.str a)) (h2 : EvE C ta e (.str c)) (hc : (c.length == 0) = false) (ha : a.length ≤ 1000000) :
    EvE C (tM1 rPart te ta) e (.tuple [.str (Txt.partition a c).1, .str (Txt.partition a c).2.1, .str (Txt.partition a c).2.2]) := fun σ F H g Q q =>
  h σ F H g _ fun v F1 H1 w1 d1 => by
    cases d1
    refine ⟨⟨a, rfl⟩, h2 σ F1 H1 (g.grow w1) _ fun v F2 H2 w2 d2 => ?_⟩
    cases d2
    exact ⟨a, c, rfl, rfl, hc, Nat.le_trans ha (by decide), fun p hp => q _ _ _ ((w1.trans w2).trans (Grow.alloc w2.sub hp)) (.tup (st_of upd_same) (.cons (.str _) (.cons (.str _) (.cons (.str _) .nil))))⟩
def rUpper : V → List V → Hp → VK → Prop := fun x xs H Q => ∃ a, x = .str a ∧ xs = [] ∧ a.length ≤ 5592405 ∧ Q (.str (Txt.upper a)) H
theorem ml_upper {X : Cx} : MtR X "str.upper" rUpper := mt_upper
theorem ee_upper {a : Str} (h : EvE C te e (.str a)) (ha : a.length ≤ 1000000) : EvE C (tM0 rUpper te) e (.str (Txt.upper a)) := fun σ F H g Q q =>
  h σ F H g _ fun v F1 H1 w1 d1 => by
    cases d1
    exact ⟨⟨a, rfl⟩, a, rfl, rfl, Nat.le_trans ha (by decide), q _ F1 H1 w1 (.str _)⟩
/-! ### chains -/
theorem ee_chain {r r' : R2} {b c : Bool} (ha : EvE C ta e x) (hb : EvE C tb e y) (hc : EvE C tx e z) (h1 : R2E C.K r x y (.bool b)) (h2 : R2E C.K r' y z (.bool c)) : EvE C (tChain r r' ta tb tx) e (.bool (b && c)) := fun σ F H g Q q =>
  ha σ F H g _ fun v F1 H1 w1 d1 => hb σ F1 H1 (g.grow w1) _ fun u F2 H2 w2 d2 => h1 F2 H2 v u w2.sub (dp_mono w2.f _ _ d1) d2 _ fun k F3 H3 w3 d3 => by
    refine ⟨b, dp_bool d3, ?_⟩
    have w := (w1.trans w2).trans w3
    cases b with
    | true =>
      exact hc σ F3 H3 (g.grow w) _ fun t F4 H4 w4 d4 => h2 F4 H4 u t w4.sub (dp_mono w4.f _ _ (dp_mono w3.f _ _ d2)) d4 Q fun k F5 H5 w5 d5 => q k F5 H5 ((w.trans w4).trans w5) d5
    | false => exact q _ F3 H3 w (.bl _)
/-! ### f-strings -/
theorem ee_fmtS {a : Str} (h : EvE C te e (.str a)) (hz : a.length ≤ 1000000) : EvE C (tFmt te) e (.str a) := fun σ F H g Q q =>
  h σ F H g _ fun v F1 H1 w1 d1 => by
    cases d1
    exact .inl ⟨a, rfl, Nat.le_trans hz (by decide), q _ F1 H1 w1 (.str _)⟩
theorem ee_fmtI {i : Int} (h : EvE C te e (.int i)) (hz : i.natAbs.log2 < 1920) : EvE C (tFmt te) e (.str (toString i)) := fun σ F H g Q q =>
  h σ F H g _ fun v F1 H1 w1 d1 => by
    cases d1
    exact .inr ⟨i, rfl, hz, q _ F1 H1 w1 (.str _)⟩
def tJo (ts : List TE) : TE := fun σ H Q => tJs ts Str.empty σ H fun out H1 => Q (.str out) H1
theorem pe_jo {X : Cx} {v1 v2 : Expr} {rest : List Expr} {ts : List TE} {pos : Pos} (h : PJ X (v1 :: v2 :: rest) ts) : PE X (.JoinedStr (v1 :: v2 :: rest) pos) (tJo ts) := pe_joined h
inductive EvJ (C : Ct) (e : En) : List TE → List Str → Prop where
  | nil : EvJ C e [] []
  | cons {t : TE} {ts : List TE} {a : Str} {as : List Str} (h : EvE C t e (.str a)) (r : EvJ C e ts as) : EvJ C e (t :: ts) (a :: as)
def joinS : Str → List Str → Str
  | acc, [] => acc
  | acc, a :: as => joinS (acc ++ a) as
theorem str_len_app (x y : Str) : (x ++ y).length = x.length + y.length := by
  show (Str.append x y).length = _
  simp [Str.append, Str.length]
theorem joinS_len : ∀ (as : List Str) (acc : Str), acc.length ≤ (joinS acc as).length
  | [], acc => Nat.le_refl _
  | a :: as, acc => Nat.le_trans (by rw [str_len_app]; omega) (joinS_len as (acc ++ a))
theorem ej_run {ts : List TE} {as : List Str} (h : EvJ C e ts as) : ∀ (acc : Str), (joinS acc as).length ≤ 1000000 → ∀ σ F H, Good C e σ F H → ∀ Q : Str → Hp → Prop, (∀ F2 H2, Grow F H F2 H2 → Q (joinS acc as) H2) → tJs ts acc σ H Q := by
  induction h with
  | nil => intro acc hz σ F H g Q q; exact q F H (Grow.refl g.fh)
  | cons h r ih =>
    intro acc hz σ F H g Q q
    refine h σ F H g _ fun v F1 H1 w1 d1 => ?_
    cases d1
    exact ⟨_, rfl, Nat.le_trans (Nat.le_trans (joinS_len _ _) hz) (by decide), ih _ hz σ F1 H1 (g.grow w1) Q fun F2 H2 w2 => q F2 H2 (w1.trans w2)⟩
theorem ee_jo {ts : List TE} {as : List Str} (h : EvJ C e ts as) (hz : (joinS Str.empty as).length ≤ 1000000) : EvE C (tJo ts) e (.str (joinS Str.empty as)) := fun σ F H g Q q =>
  ej_run h Str.empty hz σ F H g _ fun F2 H2 w => q _ F2 H2 w (.str _)
/-! ### isinstance -/
def tyD : PyData → String
  | .none => "NoneType"
  | .bool _ => "bool"
  | .int _ => "int"
  | .str _ => "str"
  | .list _ => "list"
  | .tuple _ => "tuple"
  | .dict _ => "dict"
theorem dp_ty {K : PySem.W.Frag} {F H : Hp} {v : V} {d : PyData} (s : Ex F H) (h : Dp K F v d) : TyX K H v (.type (tyD d)) := by
  cases h with
  | non => exact .base .non
  | bl b => exact .base (.bl b)
  | int i => exact .base (.int i)
  | str x => exact .base (.str x)
  | lst h r =>
    rcases h with (h | ⟨o, h⟩) | ⟨o, its, n, k, c, _⟩
    · exact .base (.lst (s _ _ h))
    · exact .base (.frz (s _ _ h))
    · exact .kList k c
  | tup h r =>
    rcases h with (h | ⟨o, h⟩) | ⟨o, its, n, k, c, _⟩
    · exact .base (.tup (s _ _ h))
    · exact .fTuple (s _ _ h)
    · exact .kTuple k c
/-- isinstance(x, T), T a built-in type -/
theorem ee_isi {T : String} {b : Bool} (h : EvE C te e d) (ht : ∀ (σ : L2.St) (H : Hp) (Q : VK), Q (.ty T) H → tx σ H Q) (hk : kitB (tyD d) T = some b) : EvE C (tCB (rIsi C.K) (tCons te (tCons tx tNil))) e (.bool b) := fun σ F H g Q q =>
  h σ F H g _ fun v F1 H1 w1 d1 => ht σ H1 _ ⟨v, .ty T, .type (tyD d), .type T, b, rfl, .ty T, dp_ty w1.sub d1, kit_ty hk, q _ F1 H1 w1 (.bl _)⟩
theorem ht_c {v : V} : ∀ (σ : L2.St) (H : Hp) (Q : VK), Q v H → tC v σ H Q := fun _ _ _ q => q
theorem kit_bool {b : Bool} : kitB (tyD (.bool b)) "bool" = some true := by show kitB "bool" "bool" = some true; decide +kernel
theorem kit_list {ds : List PyData} : kitB (tyD (.list ds)) "list" = some true := by show kitB "list" "list" = some true; decide +kernel
theorem kit_tuple {ds : List PyData} : kitB (tyD (.tuple ds)) "tuple" = some true := by show kitB "tuple" "tuple" = some true; decide +kernel
theorem kit_str {s : Str} : kitB (tyD (.str s)) "str" = some true := by show kitB "str" "str" = some true; decide +kernel
theorem kit_int {i : Int} : kitB (tyD (.int i)) "int" = some true := by show kitB "int" "int" = some true; decide +kernel
theorem kit_intB {i : Int} : kitB (tyD (.int i)) "bool" = some false := by show kitB "int" "bool" = some false; decide +kernel
theorem kit_boolI {i : Bool} : kitB (tyD (.bool i)) "int" = some true := by show kitB "bool" "int" = some true; decide +kernel
theorem kit_strB {s : Str} : kitB (tyD (.str s)) "bool" = some false := by show kitB "str" "bool" = some false; decide +kernel
/-! ### list(x), tuple(x) -/
end
end LH

namespace LH
open PySem L2 Evl
abbrev Stt := L2.St
/-! ### targets -/
def Same0 (js : List Nat) (σ σ' : Stt) : Prop := σ'.length = σ.length ∧ ∀ i, i ∉ js → σ'[i]? = σ[i]?
def TgE (C : Ct) (g : TG) (js : List Nat) (d : PyData) (e e' : En) : Prop := ∀ σ F H v, Good C e σ F H → Dp C.K F v d → ∀ Q : Stt → Hp → Prop, (∀ σ', Good C e' σ' F H → Same0 js σ σ' → Q σ' H) → g v σ H Q
def TgsE (C : Ct) (g : TGs) (js : List Nat) (ds : List PyData) (e e' : En) : Prop := ∀ σ F H vs, Good C e σ F H → DpAll C.K F vs ds → ∀ Q : Stt → Hp → Prop, (∀ σ', Good C e' σ' F H → Same0 js σ σ' → Q σ' H) → g vs σ H Q
section
variable {C : Ct} {e e' e1 e2 : En} {d x y z : PyData} {ds : List PyData} {te ta tb tx tl : TE} {tt tu : TT} {b : Bool} {D : Ends} {t u : TS} {P : Stt → Hp → Prop} {g : TG} {gs : TGs} {js ks : List Nat}
theorem tg_name {i : Nat} : TgE C (gName i) [i] d e (e.set i d) := fun σ F H v g r Q q => q _ (g.set r) ⟨by simp, fun j hj => by
  have : i ≠ j := fun z => hj (by simp [z])
  rw [List.getElem?_set_ne this]⟩
theorem tg_nil : TgsE C gNil [] [] e e := fun σ F H vs g r Q q => by cases r; exact ⟨rfl, q σ g ⟨rfl, fun _ _ => rfl⟩⟩
theorem Same0.trans {σ σ1 σ2 : Stt} (a : Same0 js σ σ1) (b : Same0 ks σ1 σ2) : Same0 (js ++ ks) σ σ2 := ⟨b.1.trans a.1, fun i h => (b.2 i fun z => h (List.mem_append_right _ z)).trans (a.2 i fun z => h (List.mem_append_left _ z))⟩
theorem tg_cons (h : TgE C g js d e e1) (hr : TgsE C gs ks ds e1 e2) : TgsE C (gCons g gs) (js ++ ks) (d :: ds) e e2 := fun σ F H vs gd r Q q => by
  cases r with
  | cons r1 r2 => exact ⟨_, _, rfl, h σ F H _ gd r1 _ fun σ1 g1 s1 => hr σ1 F H _ g1 r2 Q fun σ2 g2 s2 => q σ2 g2 (s1.trans s2)⟩
theorem tg_tup {n : Nat} (h : TgsE C gs js ds e e') (hn : ds.length = n) : TgE C (gTup C.K n gs) js (.tuple ds) e e' := fun σ F H v gd r Q q => by
  obtain ⟨a, xs, rfl, hs, r⟩ := dp_tuple r
  exact ⟨a, xs, rfl, ex_t gd.fh hs, (dps_len r).trans hn, h σ F H xs gd r Q q⟩
theorem r_asgG (h : EvE C te e d) (hg : TgE C g js d e e') (k : Run C e' D.nx) : Run C e (tAsg te g D) := fun σ F H gd =>
  h σ F H gd _ fun v F2 H2 w r => hg σ F2 H2 v (gd.grow w) r D.nx fun σ' g' _ => k σ' F2 H2 g'

/-! ### loops -/
theorem Good.ghost {σ : Stt} {F H : Hp} {v : V} (gd : Good C e σ F H) (r : Dp C.K F v d) : Good C ⟨e.s, e.o, (v, .d d) :: e.g⟩ σ F H := by
  obtain ⟨as, hs, p⟩ := gd.parts
  exact ⟨gd.ff, gd.rh, gd.fh, gd.fnew, as, hs, p.len, p.slot, p.la, p.lh, p.obj, p.sub, p.dF, p.dR, p.dd, fun q hq => by
    rcases List.mem_cons.mp hq with z | z
    · rw [z]; exact ⟨v, rfl, r⟩
    · exact p.gh q z⟩
theorem Good.known {σ : Stt} {F H : Hp} {v : V} (gd : Good C e σ F H) (h : (v, Sl.d d) ∈ e.g) : Dp C.K F v d := by
  obtain ⟨as, hs, p⟩ := gd.parts
  obtain ⟨u, e1, r⟩ := p.gh _ h
  cases e1
  exact r
theorem for_core {J : It} {n : Nat} {G : Hp → Prop} {Y : Nat → Hp → V → Hp → Prop} (w : Walk J n G Y) {σ : Stt} {H1 : Hp} (E : Nat → En) (it : Nat → PyData) (h0 : NX C (E 0) σ H1)
    (hG : ∀ i σ F H, i ≤ n → Good C (E i) σ F H → G H)
    (hY : ∀ i σ F H x H', i < n → Good C (E i) σ F H → Y i H x H' → ∃ F', Good C (E i) σ F' H' ∧ Dp C.K F' x (it i))
    (hb : ∀ i, i < n → ∃ bE js, TgE C g js (it i) (E i) bE ∧ Run C bE (t { D with nx := NX C (E (i + 1)), ct := NX C (E (i + 1)), bk := D.nx })) (hd : Run C (E n) D.nx) :
    ∃ W : Nat → Nat → Stt → Hp → Prop, (∃ m, W 0 m σ H1) ∧ ∀ i m σ H, W i m σ H →
      (J.stop i H ∧ D.nx σ H) ∨ (J.go i H ∧ ∃ N : Stt → Hp → Prop, (∀ σ' H', N σ' H' → ∃ m', m' < m ∧ W (i + 1) m' σ' H') ∧ ∀ x H', J.yld i H x H' → g x σ H' fun σ2 H2 => t { D with nx := N, ct := N, bk := D.nx } σ2 H2) :=
  for_it w (fun i => NX C (E i)) h0 (fun i σ H hi ⟨F, gd⟩ => hG i σ F H hi gd) (fun i x σ H H' hi ⟨F, gd⟩ y => by
    obtain ⟨F', gd', r⟩ := hY i σ F H x H' hi gd y
    obtain ⟨bE, js, h1, h2⟩ := hb i hi
    exact h1 σ F' H' x gd' r _ fun σ' g' _ => h2 σ' F' H' g') fun σ H ⟨F, gd⟩ => hd σ F H gd
/-- over a list that is data -/
theorem r_forL (h : EvE C tl e (.list ds)) (S : Nat → List Sl) (O : Nat → List Ow) (h0 : LeS e.s (S 0)) (hO : e.o = O 0)
    (hb : ∀ (v : V) i (d : PyData), ds[i]? = some d → ∃ bE js, TgE C g js d ⟨S i, O i, (v, .d (.list ds)) :: e.g⟩ bE ∧ Run C bE (t { D with nx := NX C ⟨S (i + 1), O (i + 1), (v, .d (.list ds)) :: e.g⟩, ct := NX C ⟨S (i + 1), O (i + 1), (v, .d (.list ds)) :: e.g⟩, bk := D.nx }))
    (hd : Run C ⟨S ds.length, O ds.length, e.g⟩ D.nx) : Run C e (tFor (iList C.K tl) g t D) := fun σ F H gd => h σ F H gd _ fun v F1 H1 w1 r => by
  obtain ⟨a, xs, rfl, hs, rs⟩ := dp_list r
  have el : xs.length = ds.length := dps_len rs
  have hq : ∀ σ F H i, Good C ⟨S i, O i, (.ref a, .d (.list ds)) :: e.g⟩ σ F H → ∃ ys, SqL C.K H a ys ∧ SqL C.K F a ys ∧ DpAll C.K F ys ds := fun σ F H i gd => by
    obtain ⟨b, ys, q, h1, r1⟩ := dp_list (gd.known (List.mem_cons_self))
    cases q
    exact ⟨ys, ex_l gd.fh h1, h1, r1⟩
  refine ⟨a, rfl, ⟨xs, ex_l w1.sub hs⟩, ?_⟩
  have G0 : Good C ⟨S 0, O 0, (.ref a, .d (.list ds)) :: e.g⟩ σ F1 H1 := by
    have := ((gd.grow w1).ghost r).le (s' := S 0) (g' := (.ref a, .d (.list ds)) :: e.g) h0 (fun q hq => hq)
    rw [← hO]; exact this
  -- the walk's list is the one at its beginning
  have wk : Walk (Itl C.K a) ds.length (fun H => ∃ ys, SqL C.K H a ys ∧ ys.length = ds.length) (fun i H x H' => H' = H ∧ ∀ ys, SqL C.K H a ys → ys[i]? = some x) :=
    ⟨fun i H hi ⟨ys, q, l⟩ => ⟨ys, ys[i], q, by simp [l, hi]⟩, fun H ⟨ys, q, l⟩ => ⟨ys, q, by omega⟩, fun i H x H' hi _ y => y⟩
  refine for_core (C := C) (g := g) (t := t) (D := D) wk (fun i => ⟨S i, O i, (.ref a, .d (.list ds)) :: e.g⟩) (fun i => ds.getD i .none) ⟨F1, G0⟩ (fun i σ F H hi gd => ?_) (fun i σ F H x H' hi gd y => ?_) (fun i hi => ?_) (fun σ F H gd => ?_)
  · obtain ⟨ys, q, _, r⟩ := hq σ F H i gd
    exact ⟨ys, q, dps_len r⟩
  · obtain ⟨rfl, y⟩ := y
    obtain ⟨ys, q, _, r⟩ := hq σ F _ i gd
    obtain ⟨d, e1, e2⟩ := dps_getV r (y ys q)
    refine ⟨F, gd, ?_⟩
    rw [List.getD_eq_getElem?_getD, e1]
    exact e2
  · have e1 : ds[i]? = some (ds.getD i .none) := by rw [List.getD_eq_getElem?_getD, List.getElem?_eq_getElem hi]; rfl
    exact hb (.ref a) i _ e1
  · exact hd σ F H (gd.le (LeS.refl _) fun q hq => List.mem_cons_of_mem _ hq)
/-- over a tuple that is data -/
theorem r_forT (h : EvE C tl e (.tuple ds)) (S : Nat → List Sl) (O : Nat → List Ow) (h0 : LeS e.s (S 0)) (hO : e.o = O 0)
    (hb : ∀ (v : V) i (d : PyData), ds[i]? = some d → ∃ bE js, TgE C g js d ⟨S i, O i, (v, .d (.tuple ds)) :: e.g⟩ bE ∧ Run C bE (t { D with nx := NX C ⟨S (i + 1), O (i + 1), (v, .d (.tuple ds)) :: e.g⟩, ct := NX C ⟨S (i + 1), O (i + 1), (v, .d (.tuple ds)) :: e.g⟩, bk := D.nx }))
    (hd : Run C ⟨S ds.length, O ds.length, e.g⟩ D.nx) : Run C e (tFor (iTup C.K tl) g t D) := fun σ F H gd => h σ F H gd _ fun v F1 H1 w1 r => by
  obtain ⟨a, xs, rfl, hs, rs⟩ := dp_tuple r
  have el : xs.length = ds.length := dps_len rs
  have hq : ∀ σ F H i, Good C ⟨S i, O i, (.ref a, .d (.tuple ds)) :: e.g⟩ σ F H → ∃ ys, SqT C.K H a ys ∧ SqT C.K F a ys ∧ DpAll C.K F ys ds := fun σ F H i gd => by
    obtain ⟨b, ys, q, h1, r1⟩ := dp_tuple (gd.known (List.mem_cons_self))
    cases q
    exact ⟨ys, ex_t gd.fh h1, h1, r1⟩
  refine ⟨a, rfl, ⟨xs, ex_t w1.sub hs⟩, ?_⟩
  have G0 : Good C ⟨S 0, O 0, (.ref a, .d (.tuple ds)) :: e.g⟩ σ F1 H1 := by
    have := ((gd.grow w1).ghost r).le (s' := S 0) (g' := (.ref a, .d (.tuple ds)) :: e.g) h0 (fun q hq => hq)
    rw [← hO]; exact this
  have wk : Walk (Itt C.K a) ds.length (fun H => ∃ ys, SqT C.K H a ys ∧ ys.length = ds.length) (fun i H x H' => H' = H ∧ ∀ ys, SqT C.K H a ys → ys[i]? = some x) :=
    ⟨fun i H hi ⟨ys, q, l⟩ => ⟨ys, ys[i], q, by simp [l, hi]⟩, fun H ⟨ys, q, l⟩ => ⟨ys, q, by omega⟩, fun i H x H' hi _ y => y⟩
  refine for_core (C := C) (g := g) (t := t) (D := D) wk (fun i => ⟨S i, O i, (.ref a, .d (.tuple ds)) :: e.g⟩) (fun i => ds.getD i .none) ⟨F1, G0⟩ (fun i σ F H hi gd => ?_) (fun i σ F H x H' hi gd y => ?_) (fun i hi => ?_) (fun σ F H gd => ?_)
  · obtain ⟨ys, q, _, r⟩ := hq σ F H i gd
    exact ⟨ys, q, dps_len r⟩
  · obtain ⟨rfl, y⟩ := y
    obtain ⟨ys, q, _, r⟩ := hq σ F _ i gd
    obtain ⟨d, e1, e2⟩ := dps_getV r (y ys q)
    refine ⟨F, gd, ?_⟩
    rw [List.getD_eq_getElem?_getD, e1]
    exact e2
  · have e1 : ds[i]? = some (ds.getD i .none) := by rw [List.getD_eq_getElem?_getD, List.getElem?_eq_getElem hi]; rfl
    exact hb (.ref a) i _ e1
  · exact hd σ F H (gd.le (LeS.refl _) fun q hq => List.mem_cons_of_mem _ hq)
/-- over range(n), range(a, b) -/
theorem r_forR1 {tr : TA} {n : Int} (h : EvA C tr e [.int n]) (hn : n ≤ 1000000) (hm : -1000000 ≤ n) (S : Nat → List Sl) (O : Nat → List Ow) (h0 : LeS e.s (S 0)) (hO : e.o = O 0)
    (hb : ∀ i : Nat, (i : Int) < n → ∃ bE js, TgE C g js (.int (i : Int)) ⟨S i, O i, e.g⟩ bE ∧ Run C bE (t { D with nx := NX C ⟨S (i + 1), O (i + 1), e.g⟩, ct := NX C ⟨S (i + 1), O (i + 1), e.g⟩, bk := D.nx }))
    (hd : Run C ⟨S n.toNat, O n.toNat, e.g⟩ D.nx) : Run C e (tFor (iRng1 tr) g t D) := fun σ F H gd => h σ F H gd _ fun vs F1 H1 w1 r => by
  obtain ⟨v, rfl, d1⟩ := dps_one r
  cases d1
  refine ⟨n, rfl, by omega, by omega, ?_⟩
  have G0 : Good C ⟨S 0, O 0, e.g⟩ σ F1 H1 := by
    have := (gd.grow w1).le (s' := S 0) (g' := e.g) h0 (fun q hq => hq)
    rw [← hO]; exact this
  refine for_core (C := C) (g := g) (t := t) (D := D) (walk_range (lo := 0) (n := n.toNat)) (fun i => ⟨S i, O i, e.g⟩) (fun i => .int (i : Int)) ⟨F1, G0⟩ (fun _ _ _ _ _ _ => trivial) (fun i σ F H x H' hi gd y => ?_) (fun i hi => hb i (by omega)) hd
  obtain ⟨rfl, rfl⟩ := y
  refine ⟨F, gd, ?_⟩
  show Dp C.K F (.int (0 + (i : Int))) (.int (i : Int))
  rw [Int.zero_add]
  exact .int _
theorem r_forR2 {tr : TA} {lo n : Int} (h : EvA C tr e [.int lo, .int n]) (hn : n ≤ 1000000 ∧ -1000000 ≤ n ∧ lo ≤ 1000000 ∧ -1000000 ≤ lo) (S : Nat → List Sl) (O : Nat → List Ow) (h0 : LeS e.s (S 0)) (hO : e.o = O 0)
    (hb : ∀ i : Nat, lo + (i : Int) < n → ∃ bE js, TgE C g js (.int (lo + (i : Int))) ⟨S i, O i, e.g⟩ bE ∧ Run C bE (t { D with nx := NX C ⟨S (i + 1), O (i + 1), e.g⟩, ct := NX C ⟨S (i + 1), O (i + 1), e.g⟩, bk := D.nx }))
    (hd : Run C ⟨S (n - lo).toNat, O (n - lo).toNat, e.g⟩ D.nx) : Run C e (tFor (iRng2 tr) g t D) := fun σ F H gd => h σ F H gd _ fun vs F1 H1 w1 r => by
  cases r with
  | cons r1 r =>
    obtain ⟨v, rfl, d1⟩ := dps_one r
    cases r1
    cases d1
    refine ⟨lo, n, rfl, ⟨by omega, by omega, by omega, by omega⟩, ?_⟩
    have G0 : Good C ⟨S 0, O 0, e.g⟩ σ F1 H1 := by
      have := (gd.grow w1).le (s' := S 0) (g' := e.g) h0 (fun q hq => hq)
      rw [← hO]; exact this
    refine for_core (C := C) (g := g) (t := t) (D := D) (walk_range (lo := lo) (n := (n - lo).toNat)) (fun i => ⟨S i, O i, e.g⟩) (fun i => .int (lo + (i : Int))) ⟨F1, G0⟩ (fun _ _ _ _ _ _ => trivial) (fun i σ F H x H' hi gd y => ?_) (fun i hi => hb i (by omega)) hd
    obtain ⟨rfl, rfl⟩ := y
    exact ⟨F, gd, .int _⟩
/-- over a text's signs -/
theorem r_forS {zz : Str} (h : EvE C tl e (.str zz)) (S : Nat → List Sl) (O : Nat → List Ow) (h0 : LeS e.s (S 0)) (hO : e.o = O 0)
    (hb : ∀ i (c : Nat), zz.cps[i]? = some c → ∃ bE js, TgE C g js (.str ⟨#[c]⟩) ⟨S i, O i, e.g⟩ bE ∧ Run C bE (t { D with nx := NX C ⟨S (i + 1), O (i + 1), e.g⟩, ct := NX C ⟨S (i + 1), O (i + 1), e.g⟩, bk := D.nx }))
    (hd : Run C ⟨S zz.cps.size, O zz.cps.size, e.g⟩ D.nx) : Run C e (tFor (iStr tl) g t D) := fun σ F H gd => h σ F H gd _ fun v F1 H1 w1 r => by
  cases r
  refine ⟨zz, rfl, ?_⟩
  have G0 : Good C ⟨S 0, O 0, e.g⟩ σ F1 H1 := by
    have := (gd.grow w1).le (s' := S 0) (g' := e.g) h0 (fun q hq => hq)
    rw [← hO]; exact this
  refine for_core (C := C) (g := g) (t := t) (D := D) (walk_str (z := zz)) (fun i => ⟨S i, O i, e.g⟩) (fun i => .str ⟨#[zz.cps.getD i 0]⟩) ⟨F1, G0⟩ (fun _ _ _ _ _ _ => trivial) (fun i σ F H x H' hi gd y => ?_) (fun i hi => hb i _ ?_) hd
  · obtain ⟨rfl, c, e1, rfl⟩ := y
    refine ⟨F, gd, ?_⟩
    have : zz.cps.getD i 0 = c := by rw [Array.getD_eq_getD_getElem?, e1]; rfl
    rw [this]
    exact .str _
  · rw [Array.getElem?_eq_getElem hi]
    congr 1
    rw [Array.getD_eq_getD_getElem?, Array.getElem?_eq_getElem hi]; rfl

/-! ### comprehensions -/
def wipeS (s : List Sl) : List Nat → List Sl
  | [] => s
  | v :: vs => (wipeS s vs).set v .un
theorem wipeS_at {s : List Sl} {vs : List Nat} : ∀ {i : Nat} {x : Sl}, (wipeS s vs)[i]? = some x → x = .un ∨ (s[i]? = some x ∧ i ∉ vs) := by
  induction vs with
  | nil => intro i x h; exact .inr ⟨h, by simp⟩
  | cons v vs ih =>
    intro i x h
    unfold wipeS at h
    by_cases hv : v = i
    · subst hv
      rw [List.getElem?_set] at h
      simp only [if_true] at h
      split at h
      · exact .inl (Option.some.inj h).symm
      · cases h
    · rw [List.getElem?_set_ne hv] at h
      rcases ih h with z | ⟨z, n⟩
      · exact .inl z
      · exact .inr ⟨z, by intro m; rcases List.mem_cons.mp m with q | q; exact hv q.symm; exact n q⟩
theorem wipeS_len {s : List Sl} : ∀ {vs : List Nat}, (wipeS s vs).length = s.length
  | [] => rfl
  | v :: vs => by unfold wipeS; rw [List.length_set]; exact wipeS_len
theorem wipe_at {σ : Stt} {vs : List Nat} : ∀ {i : Nat}, i ∉ vs → (wipe σ vs)[i]? = σ[i]? := by
  induction vs with
  | nil => intro i _; rfl
  | cons v vs ih =>
    intro i h
    unfold wipe
    have h1 : v ≠ i := fun z => h (by simp [z])
    rw [List.getElem?_set_ne h1]
    exact ih fun z => h (List.mem_cons_of_mem _ z)
theorem wipe_in {σ : Stt} {vs : List Nat} : ∀ {i : Nat}, i ∈ vs → i < σ.length → (wipe σ vs)[i]? = some none := by
  induction vs with
  | nil => intro i h; cases h
  | cons v vs ih =>
    intro i h hl
    unfold wipe
    by_cases hv : v = i
    · subst hv
      rw [List.getElem?_set_self (by rw [wipe_length]; exact hl)]
    · rw [List.getElem?_set_ne hv]
      exact ih (by rcases List.mem_cons.mp h with q | q; exact absurd q.symm hv; exact q) hl
theorem wipe_same {σ σ2 : Stt} {vs : List Nat} (h : Same0 vs (wipe σ vs) σ2) : wipe σ2 vs = wipe σ vs := by
  have hl : σ2.length = σ.length := by rw [h.1, wipe_length]
  refine List.ext_getElem? fun i => ?_
  by_cases hi : i ∈ vs
  · by_cases hs : i < σ.length
    · rw [wipe_in hi hs, wipe_in hi (by omega)]
    · rw [List.getElem?_eq_none (by rw [wipe_length]; omega), List.getElem?_eq_none (by rw [wipe_length]; omega)]
  · rw [wipe_at hi]
    exact h.2 i hi
theorem Parts.wipe {K : PySem.W.Frag} {R F H : Hp} {σ : Stt} {as : List Addr} {hs : List Hp} {vs : List Nat} (p : Parts K R F H σ e as hs) : Parts K R F H (L2.wipe σ vs) ⟨wipeS e.s vs, e.o, e.g⟩ as hs := by
  refine ⟨by show (wipeS e.s vs).length ≤ _; rw [wipeS_len, wipe_length]; exact p.len, fun i x v h1 h2 => ?_, p.la, p.lh, p.obj, p.sub, p.dF, p.dR, p.dd, p.gh⟩
  rcases wipeS_at h1 with z | ⟨z, n⟩
  · subst z; trivial
  · rw [wipe_at n] at h2
    exact p.slot i x v z h2
/-- what a comprehension has given behind n turns -/
def givenD (n : Nat) (p : Nat → Bool) (f : Nat → PyData) : List PyData := ((List.range n).filter p).map f
theorem givenD_yes {n : Nat} {p : Nat → Bool} {f : Nat → PyData} (h : p n = true) : givenD (n + 1) p f = givenD n p f ++ [f n] := by
  unfold givenD
  rw [List.range_succ, List.filter_append, List.map_append]
  simp [h]
theorem givenD_no {n : Nat} {p : Nat → Bool} {f : Nat → PyData} (h : p n = false) : givenD (n + 1) p f = givenD n p f := by
  unfold givenD
  rw [List.range_succ, List.filter_append, List.map_append]
  simp [h]
theorem givenD_len (n : Nat) (p : Nat → Bool) (f : Nat → PyData) : (givenD n p f).length ≤ n := by
  unfold givenD
  rw [List.length_map]
  have h := List.length_filter_le p (List.range n)
  rw [List.length_range] at h
  exact h
theorem comp_coreG {J : It} {n : Nat} {G : Hp → Prop} {Y : Nat → Hp → V → Hp → Prop} (w : Walk J n G Y) {σ : Stt} {F1 H1 : Hp} {vs : List Nat} (gd : Good C e σ F1 H1) (it : Nat → PyData) (p : Nat → Bool) (f : Nat → PyData) (hn : n ≤ 1000000)
    (hG : ∀ F H, Ex F1 F → Ex F H → G H) (hY : ∀ i F H x H', i < n → Ex F1 F → Ex F H → Y i H x H' → H' = H ∧ Dp C.K F x (it i))
    (hb : ∀ i, i < n → ∃ bE, TgE C g vs (it i) ⟨wipeS e.s vs, e.o, e.g⟩ bE ∧ EvB C tt bE (p i) ∧ (p i = true → EvE C te bE (f i)))
    {Q : VK} : ∀ Dl, H1 Dl = none → (∀ acc F Hm, Ex F1 F → Grow F1 H1 F Hm → Good C e σ F Hm → Hm Dl = none → DpAll C.K F acc (givenD n p f) → Q (.ref Dl) (upd Hm Dl (.lst acc))) → ∃ W : Nat → Nat → Hp → Prop, (∃ m, W 0 m (upd H1 Dl (.lst []))) ∧ ∀ i m H, W i m H →
      (J.stop i H ∧ Q (.ref Dl) H) ∨ (J.go i H ∧ ∃ Nx : Hp → Prop, (∀ H', Nx H' → ∃ m', m' < m ∧ W (i + 1) m' H') ∧ ∀ x H', J.yld i H x H' → g x (wipe σ vs) H' fun σ2 H2 => wipe σ2 vs = wipe σ vs ∧ tt σ2 H2 fun b H3 =>
        if b = true then te σ2 H3 fun y H4 => ∃ acc, H4 Dl = some (.lst acc) ∧ acc.length < sizeLine ∧ Nx (upd H4 Dl (.lst (acc ++ [y]))) else Nx H3) := by
  intro Dl hD fin
  obtain ⟨as, hs, pa⟩ := gd.parts
  have hsD : ∀ (i : Nat) (h : Hp), hs[i]? = some h → h Dl = none := fun i h hh => ex_none (pa.sub i h hh) hD
  have rD : C.R Dl = none := ex_none gd.rh hD
  let Pv : Nat → Hp → Prop := fun i H => ∃ F acc, Ex F1 F ∧ Ex F H ∧ F Dl = none ∧ Ex H1 H ∧ (∀ b o, F b = some o → F1 b = none → H1 b = none) ∧ H Dl = some (.lst acc) ∧ DpAll C.K F acc (givenD i p f) ∧ Parts C.K C.R F H σ e as hs
  have good : ∀ F H, Ex F1 F → Ex F H → Ex H1 H → (∀ b o, F b = some o → F1 b = none → H1 b = none) → Parts C.K C.R F H σ e as hs → Good C ⟨wipeS e.s vs, e.o, e.g⟩ (wipe σ vs) F H := fun F H e1 e2 e3 nw pp =>
    ⟨gd.ff.trans e1, gd.rh.trans e3, e2, fun b o h m => by
      cases z : F1 b with
      | none => exact ex_none gd.rh (nw b o h z)
      | some u => exact gd.fnew b u z m, as, hs, pp.wipe⟩
  have exD : ∀ {X H : Hp} {o : HO}, Ex X H → X Dl = none → Ex X (upd H Dl o) := fun {X H o} e m b u hb => by
    rw [upd_ne (ne_of_none hb m)]; exact e b u hb
  have partsD : ∀ {F H : Hp} {o : HO}, Parts C.K C.R F H σ e as hs → Parts C.K C.R F (upd H Dl o) σ e as hs := fun {F H o} pp =>
    ⟨pp.len, pp.slot, pp.la, pp.lh, pp.obj, fun i h hh => exD (pp.sub i h hh) (hsD i h hh), pp.dF, pp.dR, pp.dd, pp.gh⟩
  refine lc_it w Pv ⟨F1, [], Ex.refl F1, exD gd.fh (ex_none gd.fh hD), ex_none gd.fh hD, exD (Ex.refl H1) hD, fun b o h m => by (rw [h] at m; cases m), upd_same, .nil, partsD pa⟩ (fun i H hi ⟨F, acc, e1, e2, _⟩ => hG F H e1 e2) ?_ ?_
  · rintro i x H H' hi ⟨F, acc, e1, e2, fD, e3, nw, hl, rs, pp⟩ y
    obtain ⟨rfl, r⟩ := hY i F H x H' hi e1 e2 y
    obtain ⟨bE, ht, hp, hf⟩ := hb i hi
    refine ht _ F H' x (good F H' e1 e2 e3 nw pp) r _ fun σ2 g2 s2 => ⟨wipe_same s2, ?_⟩
    refine hp σ2 F H' g2 _ fun F2 H2 w2 => ?_
    have f2D : F2 Dl = none := by
      cases z : F2 Dl with
      | none => rfl
      | some u => have := w2.new Dl u z fD; rw [hl] at this; cases this
    have nw2 : ∀ b o, F2 b = some o → F1 b = none → H1 b = none := fun b o h m => by
      cases z : F b with
      | none => exact ex_none e3 (w2.new b o h z)
      | some u => exact nw b u z m
    cases hc : p i with
    | true =>
      show te σ2 H2 _
      refine hf hc σ2 F2 H2 (g2.grow w2) _ fun v F3 H3 w3 r3 => ⟨acc, w3.h _ _ (w2.h _ _ hl), ?_, ?_⟩
      · rw [dps_len rs]
        have := givenD_len i p f
        exact Nat.lt_of_le_of_lt (Nat.le_trans this (Nat.le_of_lt (Nat.lt_of_lt_of_le hi hn))) (by decide)
      · have w23 := w2.trans w3
        have f3D : F3 Dl = none := by
          cases z : F3 Dl with
          | none => rfl
          | some u => have := w3.new Dl u z f2D; rw [w2.h _ _ hl] at this; cases this
        refine ⟨F3, acc ++ [v], e1.trans w23.f, exD w3.sub f3D, f3D, exD (e3.trans w23.h) hD, fun b o h m => ?_, upd_same, ?_, partsD (pp.grow w23)⟩
        · cases z : F2 b with
          | none => exact ex_none (e3.trans w2.h) (w3.new b o h z)
          | some u => exact nw2 b u z m
        · rw [givenD_yes hc]
          exact dps_app (dps_mono w23.f _ _ rs) (.cons r3 .nil)
    | false =>
      show Pv (i + 1) H2
      refine ⟨F2, acc, e1.trans w2.f, w2.sub, f2D, e3.trans w2.h, nw2, w2.h _ _ hl, ?_, pp.grow w2⟩
      rw [givenD_no hc]
      exact dps_mono w2.f _ _ rs
  · rintro H ⟨F, acc, e1, e2, fD, e3, nw, hl, rs, pp⟩
    let Hm : Hp := fun b => if b = Dl then none else H b
    have mD : Hm Dl = none := if_pos rfl
    have mN : ∀ {b : Addr}, b ≠ Dl → Hm b = H b := fun {b} hb => if_neg hb
    have exM : ∀ {X : Hp}, Ex X H → X Dl = none → Ex X Hm := fun {X} k m b u hb => by
      rw [mN (ne_of_none hb m)]; exact k b u hb
    have eH : upd Hm Dl (.lst acc) = H := by
      funext b
      by_cases hb : b = Dl
      · rw [hb, upd_same, hl]
      · rw [upd_ne hb, mN hb]
    have gm : Good C e σ F Hm := ⟨gd.ff.trans e1, exM (gd.rh.trans e3) rD, exM e2 fD, fun b o h m => by
      cases z : F1 b with
      | none => exact ex_none gd.rh (nw b o h z)
      | some u => exact gd.fnew b u z m, as, hs, pp.len, pp.slot, pp.la, pp.lh, pp.obj, fun i h hh => exM (pp.sub i h hh) (hsD i h hh), pp.dF, pp.dR, pp.dd, pp.gh⟩
    have := fin acc F Hm e1 ⟨e1, exM e3 hD, exM e2 fD, nw⟩ gm mD rs
    rw [eH] at this
    exact this
theorem comp_core {J : It} {n : Nat} {G : Hp → Prop} {Y : Nat → Hp → V → Hp → Prop} (w : Walk J n G Y) {σ : Stt} {F1 H1 : Hp} {vs : List Nat} (gd : Good C e σ F1 H1) (it : Nat → PyData) (p : Nat → Bool) (f : Nat → PyData) (hn : n ≤ 1000000)
    (hG : ∀ F H, Ex F1 F → Ex F H → G H) (hY : ∀ i F H x H', i < n → Ex F1 F → Ex F H → Y i H x H' → H' = H ∧ Dp C.K F x (it i))
    (hb : ∀ i, i < n → ∃ bE, TgE C g vs (it i) ⟨wipeS e.s vs, e.o, e.g⟩ bE ∧ EvB C tt bE (p i) ∧ (p i = true → EvE C te bE (f i)))
    {Q : VK} (q : ∀ v F2 H2, Grow F1 H1 F2 H2 → Dp C.K F2 v (.list (givenD n p f)) → Q v H2) :
    ∀ Dl, H1 Dl = none → ∃ W : Nat → Nat → Hp → Prop, (∃ m, W 0 m (upd H1 Dl (.lst []))) ∧ ∀ i m H, W i m H →
      (J.stop i H ∧ Q (.ref Dl) H) ∨ (J.go i H ∧ ∃ Nx : Hp → Prop, (∀ H', Nx H' → ∃ m', m' < m ∧ W (i + 1) m' H') ∧ ∀ x H', J.yld i H x H' → g x (wipe σ vs) H' fun σ2 H2 => wipe σ2 vs = wipe σ vs ∧ tt σ2 H2 fun b H3 =>
        if b = true then te σ2 H3 fun y H4 => ∃ acc, H4 Dl = some (.lst acc) ∧ acc.length < sizeLine ∧ Nx (upd H4 Dl (.lst (acc ++ [y]))) else Nx H3) := fun Dl hD =>
  comp_coreG w gd it p f hn hG hY hb Dl hD fun acc F Hm e1 gr gm mD rs => q (.ref Dl) (upd F Dl (.lst acc)) _ (gr.trans (Grow.alloc gr.sub mD)) (.lst (sq_of upd_same) (dps_mono (Ex.new (ex_none gr.sub mD)) _ _ rs))
/-- a comprehension over a list, its list one's own -/
def EvN (C : Ct) (te : TE) (e : En) (ds : List PyData) : Prop := ∀ σ F H, Good C e σ F H → ∀ Q : VK, (∀ acc F2 Hm p, Ex F F2 → Good C e σ F2 Hm → Hm p = none → DpAll C.K F2 acc ds → Q (.ref p) (upd Hm p (.lst acc))) → te σ H Q
theorem en_lcL {vs : List Nat} (h : EvE C tl e (.list ds)) (p : Nat → Bool) (f : Nat → PyData) (hn : ds.length ≤ 1000000)
    (hb : ∀ i d, ds[i]? = some d → ∃ bE, TgE C g vs d ⟨wipeS e.s vs, e.o, e.g⟩ bE ∧ EvB C tt bE (p i) ∧ (p i = true → EvE C te bE (f i))) : EvN C (tLc (iList C.K tl) g tt te vs) e (givenD ds.length p f) := fun σ F H gd Q q =>
  h σ F H gd _ fun v F1 H1 w1 r => by
    obtain ⟨a, xs, rfl, hl, rs⟩ := dp_list r
    have el : xs.length = ds.length := dps_len rs
    refine ⟨a, rfl, ⟨xs, ex_l w1.sub hl⟩, ?_⟩
    have wk : Walk (Itl C.K a) ds.length (fun H => SqL C.K H a xs) (YAt xs) := by rw [← el]; exact walk_list
    intro Dl hD
    refine comp_coreG wk (gd.grow w1) (fun i => ds.getD i .none) p f hn (fun F H e1 e2 => ex_l (e1.trans e2) hl) (fun i F H x H' hi e1 e2 y => ?_) (fun i hi => ?_) Dl hD fun acc F2 Hm e1 gr gm mD r2 => q acc F2 Hm Dl (w1.f.trans e1) gm mD r2
    · obtain ⟨d, d1, d2⟩ := dps_getV (dps_mono e1 _ _ rs) y.2
      refine ⟨y.1, ?_⟩
      rw [List.getD_eq_getElem?_getD, d1]
      exact d2
    · exact hb i _ (by rw [List.getD_eq_getElem?_getD, List.getElem?_eq_getElem hi]; rfl)
theorem ee_lcL {vs : List Nat} (h : EvE C tl e (.list ds)) (p : Nat → Bool) (f : Nat → PyData) (hn : ds.length ≤ 1000000)
    (hb : ∀ i d, ds[i]? = some d → ∃ bE, TgE C g vs d ⟨wipeS e.s vs, e.o, e.g⟩ bE ∧ EvB C tt bE (p i) ∧ (p i = true → EvE C te bE (f i))) : EvE C (tLc (iList C.K tl) g tt te vs) e (.list (givenD ds.length p f)) := fun σ F H gd Q q =>
  h σ F H gd _ fun v F1 H1 w1 r => by
    obtain ⟨a, xs, rfl, hl, rs⟩ := dp_list r
    have el : xs.length = ds.length := dps_len rs
    refine ⟨a, rfl, ⟨xs, ex_l w1.sub hl⟩, ?_⟩
    have wk : Walk (Itl C.K a) ds.length (fun H => SqL C.K H a xs) (YAt xs) := by rw [← el]; exact walk_list
    refine comp_core wk (gd.grow w1) (fun i => ds.getD i .none) p f hn (fun F H e1 e2 => ex_l (e1.trans e2) hl) (fun i F H x H' hi e1 e2 y => ?_) (fun i hi => ?_) fun v F2 H2 w2 r2 => q v F2 H2 (w1.trans w2) r2
    · obtain ⟨d, d1, d2⟩ := dps_getV (dps_mono e1 _ _ rs) y.2
      refine ⟨y.1, ?_⟩
      rw [List.getD_eq_getElem?_getD, d1]
      exact d2
    · exact hb i _ (by rw [List.getD_eq_getElem?_getD, List.getElem?_eq_getElem hi]; rfl)
theorem ee_lcT {vs : List Nat} (h : EvE C tl e (.tuple ds)) (p : Nat → Bool) (f : Nat → PyData) (hn : ds.length ≤ 1000000)
    (hb : ∀ i d, ds[i]? = some d → ∃ bE, TgE C g vs d ⟨wipeS e.s vs, e.o, e.g⟩ bE ∧ EvB C tt bE (p i) ∧ (p i = true → EvE C te bE (f i))) : EvE C (tLc (iTup C.K tl) g tt te vs) e (.list (givenD ds.length p f)) := fun σ F H gd Q q =>
  h σ F H gd _ fun v F1 H1 w1 r => by
    obtain ⟨a, xs, rfl, hl, rs⟩ := dp_tuple r
    have el : xs.length = ds.length := dps_len rs
    refine ⟨a, rfl, ⟨xs, ex_t w1.sub hl⟩, ?_⟩
    have wk : Walk (Itt C.K a) ds.length (fun H => SqT C.K H a xs) (YAt xs) := by rw [← el]; exact walk_tup
    refine comp_core wk (gd.grow w1) (fun i => ds.getD i .none) p f hn (fun F H e1 e2 => ex_t (e1.trans e2) hl) (fun i F H x H' hi e1 e2 y => ?_) (fun i hi => ?_) fun v F2 H2 w2 r2 => q v F2 H2 (w1.trans w2) r2
    · obtain ⟨d, d1, d2⟩ := dps_getV (dps_mono e1 _ _ rs) y.2
      refine ⟨y.1, ?_⟩
      rw [List.getD_eq_getElem?_getD, d1]
      exact d2
    · exact hb i _ (by rw [List.getD_eq_getElem?_getD, List.getElem?_eq_getElem hi]; rfl)
theorem ee_lcS {vs : List Nat} {zz : Str} (h : EvE C tl e (.str zz)) (p : Nat → Bool) (f : Nat → PyData) (hn : zz.cps.size ≤ 1000000)
    (hb : ∀ i c, zz.cps[i]? = some c → ∃ bE, TgE C g vs (.str ⟨#[c]⟩) ⟨wipeS e.s vs, e.o, e.g⟩ bE ∧ EvB C tt bE (p i) ∧ (p i = true → EvE C te bE (f i))) : EvE C (tLc (iStr tl) g tt te vs) e (.list (givenD zz.cps.size p f)) := fun σ F H gd Q q =>
  h σ F H gd _ fun v F1 H1 w1 r => by
    cases r
    refine ⟨zz, rfl, ?_⟩
    refine comp_core (walk_str (z := zz)) (gd.grow w1) (fun i => .str ⟨#[zz.cps.getD i 0]⟩) p f hn (fun _ _ _ _ => trivial) (fun i F H x H' hi e1 e2 y => ?_) (fun i hi => hb i _ ?_) fun v F2 H2 w2 r2 => q v F2 H2 (w1.trans w2) r2
    · obtain ⟨rfl, c, e1, rfl⟩ := y
      refine ⟨rfl, ?_⟩
      have : zz.cps.getD i 0 = c := by rw [Array.getD_eq_getD_getElem?, e1]; rfl
      rw [this]
      exact .str _
    · rw [Array.getElem?_eq_getElem hi]
      congr 1
      rw [Array.getD_eq_getD_getElem?, Array.getElem?_eq_getElem hi]; rfl
theorem ee_lcR1 {vs : List Nat} {tr : TA} {n : Int} (h : EvA C tr e [.int n]) (p : Nat → Bool) (f : Nat → PyData) (hn : n ≤ 1000000 ∧ -1000000 ≤ n)
    (hb : ∀ i : Nat, (i : Int) < n → ∃ bE, TgE C g vs (.int (i : Int)) ⟨wipeS e.s vs, e.o, e.g⟩ bE ∧ EvB C tt bE (p i) ∧ (p i = true → EvE C te bE (f i))) : EvE C (tLc (iRng1 tr) g tt te vs) e (.list (givenD n.toNat p f)) := fun σ F H gd Q q =>
  h σ F H gd _ fun us F1 H1 w1 r => by
    obtain ⟨v, rfl, d1⟩ := dps_one r
    cases d1
    refine ⟨n, rfl, by omega, by omega, ?_⟩
    refine comp_core (walk_range (lo := 0) (n := n.toNat)) (gd.grow w1) (fun i => .int (i : Int)) p f (by omega) (fun _ _ _ _ => trivial) (fun i F H x H' hi e1 e2 y => ?_) (fun i hi => hb i (by omega)) fun v F2 H2 w2 r2 => q v F2 H2 (w1.trans w2) r2
    obtain ⟨rfl, rfl⟩ := y
    refine ⟨rfl, ?_⟩
    show Dp C.K F (.int (0 + (i : Int))) (.int (i : Int))
    rw [Int.zero_add]
    exact .int _
theorem ee_lcR2 {vs : List Nat} {tr : TA} {lo n : Int} (h : EvA C tr e [.int lo, .int n]) (p : Nat → Bool) (f : Nat → PyData) (hn : n ≤ 400000 ∧ -400000 ≤ n ∧ lo ≤ 400000 ∧ -400000 ≤ lo)
    (hb : ∀ i : Nat, lo + (i : Int) < n → ∃ bE, TgE C g vs (.int (lo + (i : Int))) ⟨wipeS e.s vs, e.o, e.g⟩ bE ∧ EvB C tt bE (p i) ∧ (p i = true → EvE C te bE (f i))) : EvE C (tLc (iRng2 tr) g tt te vs) e (.list (givenD (n - lo).toNat p f)) := fun σ F H gd Q q =>
  h σ F H gd _ fun us F1 H1 w1 r => by
    cases r with
    | cons r1 r =>
      obtain ⟨v, rfl, d1⟩ := dps_one r
      cases r1
      cases d1
      refine ⟨lo, n, rfl, ⟨by omega, by omega, by omega, by omega⟩, ?_⟩
      refine comp_core (walk_range (lo := lo) (n := (n - lo).toNat)) (gd.grow w1) (fun i => .int (lo + (i : Int))) p f (by omega) (fun _ _ _ _ => trivial) (fun i F H x H' hi e1 e2 y => ?_) (fun i hi => hb i (by omega)) fun v F2 H2 w2 r2 => q v F2 H2 (w1.trans w2) r2
      obtain ⟨rfl, rfl⟩ := y
      exact ⟨rfl, .int _⟩
theorem eb_yes : EvB C tYes e true := fun σ F H g Q q => q F H (Grow.refl g.fh)
/-- what a comprehension over a list without a test gives -/
theorem givenD_map {α : Type} (xs : List α) (f : Nat → PyData) (k : α → PyData) (h : ∀ i x, xs[i]? = some x → f i = k x) : givenD xs.length (fun _ => true) f = xs.map k := by
  unfold givenD
  refine List.ext_getElem? fun i => ?_
  have e : (List.range xs.length).filter (fun _ => true) = List.range xs.length := List.filter_eq_self.mpr fun _ _ => rfl
  rw [e, List.getElem?_map, List.getElem?_map]
  by_cases hi : i < xs.length
  · rw [List.getElem?_range hi, List.getElem?_eq_getElem hi]
    show some (f i) = some (k xs[i])
    rw [h i _ (List.getElem?_eq_getElem hi)]
  · rw [List.getElem?_eq_none (by rw [List.length_range]; omega), List.getElem?_eq_none (by omega)]; rfl
/-- .. and with one -/
theorem givenD_filter {α : Type} (xs : List α) (p : Nat → Bool) (f : Nat → PyData) (q : α → Bool) (k : α → PyData) (hp : ∀ i x, xs[i]? = some x → p i = q x) (h : ∀ i x, xs[i]? = some x → f i = k x) : givenD xs.length p f = (xs.filter q).map k := by
  induction xs generalizing p f with
  | nil => rfl
  | cons x xs ih =>
    have e0 : givenD (xs.length + 1) p f = (if p 0 = true then [f 0] else []) ++ givenD xs.length (fun i => p (i + 1)) (fun i => f (i + 1)) := by
      unfold givenD
      rw [List.range_succ_eq_map, List.filter_cons, List.filter_map]
      cases p 0 <;> simp [Function.comp_def]
    rw [List.length_cons, e0, ih (fun i => p (i + 1)) (fun i => f (i + 1)) (fun i y hi => hp (i + 1) y (by simpa using hi)) (fun i y hi => h (i + 1) y (by simpa using hi)), hp 0 x rfl, h 0 x rfl, List.filter_cons]
    cases q x <;> simp
end
end LH

namespace LH
open PySem L2 Evl PySem.Spec PyProof.Rows
section
variable {C : Ct} {e e' e1 e2 : En} {d x y z : PyData} {ds : List PyData} {te ta tb tx tl : TE} {tt tu : TT} {b : Bool} {D : Ends} {t u : TS} {P : Stt → Hp → Prop} {g : TG}
theorem sing_same {a : Addr} {o : HO} : sing a o a = some o := upd_same
theorem sing_at {a b : Addr} {o u : HO} (h : sing a o b = some u) : b = a ∧ u = o := by
  unfold sing upd at h
  split at h
  · exact ⟨by assumption, (Option.some.inj h).symm⟩
  · cases h
theorem sing_ne {a b : Addr} {o : HO} (h : b ≠ a) : sing a o b = none := by
  unfold sing; rw [upd_ne h]; rfl
/-- xs = [..], a list of one's own -/
theorem r_newL {ta : TA} {i : Nat} (h : EvA C ta e ds) (hl : ds.length ≤ 100000) (k : Run C ⟨e.s.set i (.o e.o.length), e.o ++ [Ow.lst C.K ds], e.g⟩ D.nx) : Run C e (tAsg (tLst ta) (gName i) D) := fun σ F H gd =>
  h σ F H gd _ fun vs F1 H1 w1 r => ⟨sz_of (by rw [dps_len r]; exact hl), fun p hp => by
    have g1 := gd.grow w1
    obtain ⟨as, hs, pa⟩ := g1.parts
    have ex1 : ∀ {X : Hp}, Ex X H1 → Ex X (upd H1 p (.lst vs)) := fun {X} e => e.trans (Ex.new hp)
    have ha : ∀ (n : Nat) (h : Hp), (hs ++ [sing p (.lst vs)])[n]? = some h → hs[n]? = some h ∨ (n = hs.length ∧ h = sing p (.lst vs)) := fun n h q => by
      rcases Nat.lt_trichotomy n hs.length with z | z | z
      · rw [List.getElem?_append_left z] at q; exact .inl q
      · subst z; simp at q; exact .inr ⟨rfl, q.symm⟩
      · rw [List.getElem?_append_right (by omega), List.getElem?_eq_none (by simp; omega)] at q; cases q
    refine k _ F1 _ ⟨g1.ff, ex1 g1.rh, ex1 g1.fh, g1.fnew, as ++ [p], hs ++ [sing p (.lst vs)], by simpa using pa.len, fun j x w h1 h2 => ?_, by simp [pa.la], by simp [pa.lh], fun n a h o h1 h2 h3 => ?_, fun n h q => ?_, fun n h q => ?_, fun n h q => ?_, fun n m h k nm q1 q2 => ?_, fun q hq => ?_⟩
    · by_cases hj : i = j
      · subst hj
        have h1' : (e.s.set i (.o e.o.length))[i]? = some x := h1
        rw [List.getElem?_set] at h1' h2
        simp only [if_true] at h1' h2
        split at h1'
        · split at h2
          · cases h1'; cases h2; exact ⟨p, rfl, by rw [← pa.la]; simp⟩
          · cases h2
        · cases h1'
      · have h1' : (e.s.set i (.o e.o.length))[j]? = some x := h1
        rw [List.getElem?_set_ne hj] at h1' h2
        have z := pa.slot j x w h1' h2
        cases x with
        | un => trivial
        | d x => exact z
        | o n =>
          obtain ⟨a, e1, e2⟩ := z
          exact ⟨a, e1, by rw [List.getElem?_append_left (List.getElem?_eq_some_iff.mp e2).1]; exact e2⟩
    · rcases ha n h h2 with z | ⟨z1, z2⟩
      · have hn : n < hs.length := (List.getElem?_eq_some_iff.mp z).1
        rw [List.getElem?_append_left (by have := pa.la; have := pa.lh; omega)] at h1
        have h3' : (e.o ++ [Ow.lst C.K ds])[n]? = some o := h3
        rw [List.getElem?_append_left (by have := pa.lh; omega)] at h3'
        exact pa.obj n a h o h1 z h3'
      · subst z1 z2
        have h3' : (e.o ++ [Ow.lst C.K ds])[hs.length]? = some o := h3
        rw [pa.lh] at h3'
        simp at h3'
        subst h3'
        have e5 : hs.length = as.length := by rw [pa.lh, pa.la]
        rw [e5] at h1
        simp at h1
        subst h1
        exact ⟨vs, rfl, r⟩
    · rcases ha n h q with z | ⟨z1, z2⟩
      · exact ex1 (pa.sub n h z)
      · subst z2
        intro b u hb
        obtain ⟨rfl, rfl⟩ := sing_at hb
        exact upd_same
    · rcases ha n h q with z | ⟨z1, z2⟩
      · exact pa.dF n h z
      · subst z2
        intro b u hb
        exact sing_ne (ne_of_none (g1.fh _ _ hb) hp)
    · rcases ha n h q with z | ⟨z1, z2⟩
      · exact pa.dR n h z
      · subst z2
        intro b u hb
        exact sing_ne (ne_of_none (g1.rh _ _ hb) hp)
    · rcases ha n h q1 with z | ⟨z1, z2⟩
      · rcases ha m k q2 with y | ⟨y1, y2⟩
        · exact pa.dd n m h k nm z y
        · subst y2
          intro b u hb
          exact sing_ne (ne_of_none (pa.sub n h z _ _ hb) hp)
      · rcases ha m k q2 with y | ⟨y1, y2⟩
        · subst z2
          intro b u hb
          obtain ⟨rfl, rfl⟩ := sing_at hb
          exact ex_none (pa.sub m k y) hp
        · exact absurd (z1.trans y1.symm) nm
    · have z := pa.gh q hq
      revert z
      cases q.2 with
      | un => exact fun z => z
      | d x => exact fun z => z
      | o n => exact fun ⟨a, e1, e2⟩ => ⟨a, e1, by rw [List.getElem?_append_left (List.getElem?_eq_some_iff.mp e2).1]; exact e2⟩⟩
/-- own object j is changed to h' (its part of the heap at a alone changed or grew by what is new) -/
theorem Good.write {σ : Stt} {F H : Hp} {j : Nat} {a : Addr} {o' : Ow} {u : HO} (gd : Good C e σ F H) (as : List Addr) (hs : List Hp) (pa : Parts C.K C.R F H σ e as hs) (h : Hp) (hj : hs[j]? = some h) (ha : (h a).isSome = true)
    (ho : ∀ b, as[j]? = some b → o'.P b F (upd h a u)) : Good C ⟨e.s, e.o.set j o', e.g⟩ σ F (upd H a u) := by
  have hsub : Ex h H := pa.sub j h hj
  obtain ⟨ua, hua⟩ := Option.isSome_iff_exists.mp ha
  have nF : F a = none := (pa.dF j h hj).symm a ua hua
  have nR : C.R a = none := (pa.dR j h hj).symm a ua hua
  have exU : ∀ {X : Hp}, Ex X H → X a = none → Ex X (upd H a u) := fun {X} e m b v hb => by
    rw [upd_ne (ne_of_none hb m)]; exact e b v hb
  have nO : ∀ (n : Nat) (k : Hp), n ≠ j → hs[n]? = some k → k a = none := fun n k nj q => (pa.dd j n h k (Ne.symm nj) hj q) a ua hua
  have at_ : ∀ (n : Nat) (k : Hp), (hs.set j (upd h a u))[n]? = some k → (n = j ∧ k = upd h a u) ∨ (n ≠ j ∧ hs[n]? = some k) := fun n k q => by
    by_cases hn : j = n
    · subst hn
      rw [List.getElem?_set_self (List.getElem?_eq_some_iff.mp hj).1] at q
      exact .inl ⟨rfl, (Option.some.inj q).symm⟩
    · rw [List.getElem?_set_ne hn] at q
      exact .inr ⟨Ne.symm hn, q⟩
  have dU : ∀ {X : Hp}, Disj X h → X a = none → Disj X (upd h a u) := fun {X} d m b v hb => by
    rw [upd_ne (ne_of_none hb m)]; exact d b v hb
  refine ⟨gd.ff, exU gd.rh nR, exU gd.fh nF, gd.fnew, as, hs.set j (upd h a u), pa.len, pa.slot, by simp [pa.la], by simp [pa.lh], fun n b k o h1 h2 h3 => ?_, fun n k q => ?_, fun n k q => ?_, fun n k q => ?_, fun n m k l nm q1 q2 => ?_, pa.gh⟩
  · rcases at_ n k h2 with ⟨rfl, rfl⟩ | ⟨nj, q⟩
    · have h3' : (e.o.set n o')[n]? = some o := h3
      rw [List.getElem?_set_self (by rw [← pa.lh]; exact (List.getElem?_eq_some_iff.mp hj).1)] at h3'
      cases h3'
      exact ho b h1
    · have h3' : (e.o.set j o')[n]? = some o := h3
      rw [List.getElem?_set_ne (Ne.symm nj)] at h3'
      exact pa.obj n b k o h1 q h3'
  · rcases at_ n k q with ⟨rfl, rfl⟩ | ⟨nj, q⟩
    · intro b v hb
      by_cases hb' : b = a
      · subst hb'; rw [upd_same] at hb ⊢; exact hb
      · rw [upd_ne hb'] at hb ⊢; exact hsub b v hb
    · exact exU (pa.sub n k q) (nO n k nj q)
  · rcases at_ n k q with ⟨rfl, rfl⟩ | ⟨nj, q⟩
    · exact dU (pa.dF n h hj) nF
    · exact pa.dF n k q
  · rcases at_ n k q with ⟨rfl, rfl⟩ | ⟨nj, q⟩
    · exact dU (pa.dR n h hj) nR
    · exact pa.dR n k q
  · rcases at_ n k q1 with ⟨rfl, rfl⟩ | ⟨nj, p1⟩
    · rcases at_ m l q2 with ⟨rfl, rfl⟩ | ⟨mj, p2⟩
      · exact absurd rfl nm
      · exact (dU (pa.dd n m h l nm hj p2).symm (nO m l mj p2)).symm
    · rcases at_ m l q2 with ⟨rfl, rfl⟩ | ⟨mj, p2⟩
      · exact dU (pa.dd n m k h nm p1 hj) (nO n k nj p1)
      · exact pa.dd n m k l nm p1 p2
/-- xs.append(e), xs a list of one's own -/
theorem r_app {i j : Nat} (hi : e.s[i]? = some (.o j)) (hj : e.o[j]? = some (Ow.lst C.K ds)) (h : EvE C te e d) (hl : ds.length < 100000) (k : Run C ⟨e.s, e.o.set j (Ow.lst C.K (ds ++ [d])), e.g⟩ D.nx) :
    Run C e (tDrop (tBM C.K "list" rAppend (tVar i) (tCons te tNil)) D) := fun σ F H gd => by
  obtain ⟨as, hs, pa⟩ := gd.parts
  have hi' : i < σ.length := Nat.lt_of_lt_of_le (List.getElem?_eq_some_iff.mp hi).1 pa.len
  obtain ⟨a, ea, eas⟩ := pa.slot i _ _ hi (List.getElem?_eq_getElem hi')
  have hjl : j < hs.length := by rw [pa.lh]; exact (List.getElem?_eq_some_iff.mp hj).1
  obtain ⟨xs, hx, rx⟩ := pa.obj j a _ _ eas (List.getElem?_eq_getElem hjl) hj
  have hH : H a = some (.lst xs) := pa.sub j _ (List.getElem?_eq_getElem hjl) a _ (by rw [hx]; exact sing_same)
  refine ⟨.ref a, by rw [List.getElem?_eq_getElem hi', ea], .inl ⟨rfl, xs, sq_of hH⟩, ?_⟩
  refine h σ F H gd _ fun v F1 H1 w1 r => ?_
  refine ⟨a, xs, v, rfl, rfl, w1.h _ _ hH, sz_lt (by rw [dps_len rx]; exact hl), ?_⟩
  have g1 := gd.grow w1
  have pa1 := pa.grow w1
  refine k σ F1 _ (g1.write (o' := Ow.lst C.K (ds ++ [d])) as hs pa1 _ (List.getElem?_eq_getElem hjl) (by rw [hx, sing_same]; rfl) fun b hb => ?_)
  rw [eas] at hb
  cases hb
  refine ⟨xs ++ [v], ?_, dps_app (dps_mono w1.f _ _ rx) (.cons r .nil)⟩
  rw [hx]
  unfold sing
  rw [upd_upd]
/-- what was one's own list is data from here on -/
def frzS (s : List Sl) (j : Nat) (ds : List PyData) : List Sl := s.map fun x => match x with
  | .o n => if n = j then .d (.list ds) else .o n
  | x => x
def frzG (g : List (V × Sl)) (j : Nat) (ds : List PyData) : List (V × Sl) := g.map fun q => (q.1, match q.2 with
  | .o n => if n = j then .d (.list ds) else .o n
  | x => x)
theorem Good.frz {σ : Stt} {F H : Hp} {j : Nat} (gd : Good C e σ F H) (hj : e.o[j]? = some (Ow.lst C.K ds)) : ∃ F2, Good C ⟨frzS e.s j ds, e.o.set j Ow.emp, frzG e.g j ds⟩ σ F2 H ∧ Ex F F2 := by
  obtain ⟨as, hs, pa⟩ := gd.parts
  have hjl : j < hs.length := by rw [pa.lh]; exact (List.getElem?_eq_some_iff.mp hj).1
  have hja : j < as.length := by rw [pa.la]; exact (List.getElem?_eq_some_iff.mp hj).1
  have ehj := List.getElem?_eq_getElem hjl
  obtain ⟨xs, hx, rx⟩ := pa.obj j _ _ _ (List.getElem?_eq_getElem hja) ehj hj
  have hH : H as[j] = some (.lst xs) := pa.sub j _ ehj _ _ (by rw [hx]; exact sing_same)
  have nF : F as[j] = none := (pa.dF j _ ehj).symm as[j] (.lst xs) (by rw [hx]; exact sing_same)
  have nR : C.R as[j] = none := (pa.dR j _ ehj).symm as[j] (.lst xs) (by rw [hx]; exact sing_same)
  have eF : Ex F (upd F as[j] (.lst xs)) := Ex.new nF
  have at_ : ∀ (n : Nat) (k : Hp), (hs.set j LH.emp)[n]? = some k → (n = j ∧ k = LH.emp) ∨ (n ≠ j ∧ hs[n]? = some k) := fun n k q => by
    by_cases hn : j = n
    · subst hn
      rw [List.getElem?_set_self hjl] at q
      exact .inl ⟨rfl, (Option.some.inj q).symm⟩
    · rw [List.getElem?_set_ne hn] at q
      exact .inr ⟨Ne.symm hn, q⟩
  have nO : ∀ (n : Nat) (k : Hp), n ≠ j → hs[n]? = some k → k as[j] = none := fun n k nj q => (pa.dd j n _ k (Ne.symm nj) ehj q) as[j] (.lst xs) (by rw [hx]; exact sing_same)
  have dE : ∀ {X : Hp}, Disj X LH.emp := fun _ _ _ => rfl
  have dE2 : ∀ {X : Hp}, Disj LH.emp X := fun _ _ h => by cases h
  refine ⟨upd F as[j] (.lst xs), ⟨gd.ff.trans eF, gd.rh, fun b o h => ?_, fun b o h n => ?_, as, hs.set j LH.emp, by show (frzS e.s j ds).length ≤ _; unfold frzS; rw [List.length_map]; exact pa.len, fun i x v h1 h2 => ?_, by simp [pa.la], by simp [pa.lh], fun n a k o h1 h2 h3 => ?_, fun n k q => ?_, fun n k q => ?_, fun n k q => ?_, fun n m k l nm q1 q2 => ?_, fun q hq => ?_⟩, eF⟩
  · by_cases hb : b = as[j]
    · subst hb; rw [upd_same] at h; rw [hH]; exact h
    · rw [upd_ne hb] at h; exact gd.fh b o h
  · by_cases hb : b = as[j]
    · subst hb; exact nR
    · rw [upd_ne hb] at h; exact gd.fnew b o h n
  · have h1' : (frzS e.s j ds)[i]? = some x := h1
    unfold frzS at h1'
    rw [List.getElem?_map] at h1'
    cases q : e.s[i]? with
    | none => rw [q] at h1'; cases h1'
    | some s0 =>
      rw [q] at h1'
      have z := pa.slot i s0 v q h2
      cases s0 with
      | un => cases h1'; trivial
      | d x0 => cases h1'; obtain ⟨u, e1, r⟩ := z; exact ⟨u, e1, dp_mono eF _ _ r⟩
      | o n =>
        have h1'' : (if n = j then Sl.d (.list ds) else Sl.o n) = x := Option.some.inj h1'
        obtain ⟨a, e1, e2⟩ := z
        by_cases hn : n = j
        · rw [if_pos hn] at h1''
          subst hn
          rw [← h1'']
          have ea : as[n] = a := by rw [List.getElem?_eq_getElem hja] at e2; exact Option.some.inj e2
          exact ⟨.ref a, e1, .lst (by rw [← ea]; exact sq_of upd_same) (dps_mono eF _ _ rx)⟩
        · rw [if_neg hn] at h1''
          rw [← h1'']
          exact ⟨a, e1, e2⟩
  · rcases at_ n k h2 with ⟨rfl, rfl⟩ | ⟨nj, q⟩
    · have h3' : (e.o.set n Ow.emp)[n]? = some o := h3
      rw [List.getElem?_set_self (by rw [← pa.lh]; exact hjl)] at h3'
      cases h3'
      rfl
    · have h3' : (e.o.set j Ow.emp)[n]? = some o := h3
      rw [List.getElem?_set_ne (Ne.symm nj)] at h3'
      exact o.mono _ _ _ _ eF (pa.obj n a k o h1 q h3')
  · rcases at_ n k q with ⟨rfl, rfl⟩ | ⟨nj, q⟩
    · intro b v hb; cases hb
    · exact pa.sub n k q
  · rcases at_ n k q with ⟨rfl, rfl⟩ | ⟨nj, q⟩
    · exact dE
    · intro b v hb
      by_cases hb' : b = as[j]
      · subst hb'; exact nO n k nj q
      · rw [upd_ne hb'] at hb; exact pa.dF n k q b v hb
  · rcases at_ n k q with ⟨rfl, rfl⟩ | ⟨nj, q⟩
    · exact dE
    · exact pa.dR n k q
  · rcases at_ n k q1 with ⟨rfl, rfl⟩ | ⟨nj, q1⟩
    · exact dE2
    · rcases at_ m l q2 with ⟨rfl, rfl⟩ | ⟨mj, q2⟩
      · exact dE
      · exact pa.dd n m k l nm q1 q2
  · obtain ⟨⟨v0, s0⟩, hm, rfl⟩ := List.mem_map.mp hq
    have z := pa.gh _ hm
    cases s0 with
    | un => trivial
    | d x0 => exact z.mono eF
    | o n =>
      obtain ⟨a, e1, e2⟩ := z
      show SlotOk C.K _ as (some v0) (if n = j then Sl.d (.list ds) else Sl.o n)
      by_cases hn : n = j
      · rw [if_pos hn]
        subst hn
        have ea : as[n] = a := by rw [List.getElem?_eq_getElem hja] at e2; exact Option.some.inj e2
        exact ⟨.ref a, e1, .lst (by rw [← ea]; exact sq_of upd_same) (dps_mono eF _ _ rx)⟩
      · rw [if_neg hn]
        exact ⟨a, e1, e2⟩
theorem r_frz {j : Nat} (hj : e.o[j]? = some (Ow.lst C.K ds)) (k : Run C ⟨frzS e.s j ds, e.o.set j Ow.emp, frzG e.g j ds⟩ P) : Run C e P := fun σ F H gd => by
  obtain ⟨F2, g2, _⟩ := gd.frz hj
  exact k σ F2 H g2
/-- a value without objects read off one's own list -/
def scalD : PyData → Bool
  | .none => true
  | .bool _ => true
  | .int _ => true
  | .str _ => true
  | _ => false
theorem dp_scal {K : PySem.W.Frag} {F F2 : Hp} {v : V} (h : Dp K F v d) (hs : scalD d = true) : Dp K F2 v d := by
  cases h with
  | non => exact .non
  | bl b => exact .bl b
  | int i => exact .int i
  | str x => exact .str x
  | lst h r => cases hs
  | tup h r => cases hs
theorem ee_peek {j : Nat} (hj : e.o[j]? = some (Ow.lst C.K ds)) (hs : scalD d = true) (h : EvE C te ⟨frzS e.s j ds, e.o.set j Ow.emp, frzG e.g j ds⟩ d) : EvE C te e d := fun σ F H gd Q q => by
  obtain ⟨F2, g2, eF⟩ := gd.frz hj
  exact h σ F2 H g2 Q fun v F3 H3 w r => q v F H3 ⟨Ex.refl F, w.h, (eF.trans w.f).trans w.sub, fun b o h n => by (rw [h] at n; cases n)⟩ (dp_scal r hs)
theorem eb_peek {j : Nat} (hj : e.o[j]? = some (Ow.lst C.K ds)) (h : EvB C tt ⟨frzS e.s j ds, e.o.set j Ow.emp, frzG e.g j ds⟩ b) : EvB C tt e b := fun σ F H gd Q q => by
  obtain ⟨F2, g2, eF⟩ := gd.frz hj
  exact h σ F2 H g2 Q fun F3 H3 w => q F H3 ⟨Ex.refl F, w.h, (eF.trans w.f).trans w.sub, fun b o h n => by (rw [h] at n; cases n)⟩
end
/-! ### a def of data -/
section
variable {P : Program} {w : World} {K : PySem.W.Frag} {mg : Str → Option Value} {base : Heap} {CX : CXT} {x qual : Str} {params : Arguments} {body : List Stmt} {scope : Scope} {dvs : List V} {kws : List (Str × V)} {f : Addr} {fd : FuncData}
/-- the slots at a def's beginning -/
def begS (N : List Str) (ds : List PyData) : List Sl := ds.map .d ++ List.replicate (N.length - ds.length) .un
theorem good0 {N : List Str} {H F : Hp} {vs : List V} {ds : List PyData} (hF : Ex F H) (r : DpAll K F vs ds) : Good ⟨K, H, F⟩ ⟨begS N ds, [], []⟩ (L2.start N vs) F H := by
  have el := dps_len r
  refine ⟨Ex.refl F, Ex.refl H, hF, fun b o h n => (by (have n' : F b = none := n); (rw [h] at n'; cases n')), [], [], ?_, fun i x v h1 h2 => ?_, rfl, rfl, fun i a h o h1 => by simp at h1, fun i h h1 => by simp at h1, fun i h h1 => by simp at h1, fun i h h1 => by simp at h1, fun i j h k _ h1 => by simp at h1, fun q hq => by cases hq⟩
  · show (begS N ds).length ≤ (L2.start N vs).length
    unfold begS L2.start
    simp [el]
  · have h1' : (begS N ds)[i]? = some x := h1
    unfold begS at h1'
    unfold L2.start at h2
    by_cases hi : i < ds.length
    · rw [List.getElem?_append_left (by simpa using hi), List.getElem?_map, List.getElem?_eq_getElem hi] at h1'
      rw [List.getElem?_append_left (by simp; omega), List.getElem?_map, List.getElem?_eq_getElem (by omega)] at h2
      cases h1'; cases h2
      obtain ⟨u, e1, e2⟩ := dps_get r (List.getElem?_eq_getElem hi)
      rw [List.getElem?_eq_getElem (by omega)] at e1
      cases e1
      exact ⟨_, rfl, e2⟩
    · rw [List.getElem?_append_right (by simp; omega)] at h1'
      have := List.getElem?_eq_some_iff.mp h1'
      obtain ⟨_, z⟩ := this
      rw [List.getElem_replicate] at z
      subst z
      trivial
/-- THE RULE: a def whose body runs on data -/
theorem ok_data {N ps : List Str} {k : Nat} {fr : List PyData → PyData → Prop} (F : FunD K x qual params body scope dvs kws f fd) (S : FnScope N ps scope) (len : ∀ ds d, fr ds d → ds.length = ps.length)
    (hbody : ∀ (cdv : Value) (A : Around) (outer : List Env) (s : Shared) (H : Hp) (E : XK), Room k (A.deeper (envOfC qual scope s.heap.objs.size f cdv)) →
      ∃ t, PSs (cxOf CX P w K mg base N qual scope f cdv A outer s H E) body t ∧ ∀ ds d, fr ds d → ∀ (R F : Hp) (D : Ends), (∀ e, RetE ⟨K, R, F⟩ e D d) → (∀ e, d = .none → Run ⟨K, R, F⟩ e D.nx) → Run ⟨K, R, F⟩ ⟨begS N ds, [], []⟩ (t D)) :
    FnOk P w K mg base CX (k + 1) f fd ps (spF K fr) := by
  refine F.ok S (fun vs H Q E ⟨F0, ds, d, _, r, h, _⟩ => ?_) (fun cdv A outer s H vs Q E hr h => ?_)
  · rw [dps_len r]; exact len ds d h
  · obtain ⟨t, ht, hrun⟩ := hbody cdv A outer s H E hr
    obtain ⟨F0, ds, d, eF, r, h, q⟩ := h
    refine ⟨t, ht, hrun ds d h H F0 { nx := fun _ H' => Q .non H', rt := Q } (fun e σ v F2 H2 gd r2 => q v F2 H2 (gd.ret eF) r2) (fun e hd σ F2 H2 gd => ?_) _ F0 H (good0 eF r)⟩
    subst hd
    exact q .non F2 H2 (gd.ret eF) .non
end
end LH

namespace LH
open PySem L2 Evl PySem.Spec PyProof.Rows
/-- what stands behind the top, for a def that is called by its name -/
structure CalOk (P : Program) (w : World) (K : PySem.W.Frag) (mg : Str → Option Value) (base : Heap) (CX : CXT) (k : Nat) (x : Str) (ps : List Str) (sp : Sp) : Prop where
  ex : ∃ f fd, mg x = some (.ref f) ∧ PySem.W.keepIn K (.ref f) = true ∧ Binds K fd ps [] ∧ FnOk P w K mg base CX k f fd ps sp
section
variable {X : Cx} {CX : CXT} {k j : Nat} {ps : List Str} {sp : Sp} {E : XK} {x : Str} {p pos : Pos} {e : Expr} {es : List Expr} {t : TA}
theorem pe_callC (c : CalOk X.prog X.w X.K X.mg X.base CX j x ps sp) (hr : Room j X.A) (hx : Passes CX X E) (hg : Gl X x) (ha : PA X (e :: es) t) (hdb : (x == ("__debug__" : Str)) = false := by decide)
    (he : starEach (e :: es) X.env = (false, eval e X.env) :: starEach es X.env := by rfl) (hpl : (backTo pos (starEach es X.env)).any (·.1) = false := by rfl) :
    PE X (.Call (.Name x p) (e :: es) [] pos) (tCall sp [] E t) := by
  obtain ⟨f, fd, hm, hk, hb, F⟩ := c.ex
  exact pe_call F hr hg hm hk hb .nil hx ha hdb he hpl
theorem pe_callC0 (c : CalOk X.prog X.w X.K X.mg X.base CX j x ps sp) (hr : Room j X.A) (hx : Passes CX X E) (hg : Gl X x) (hdb : (x == ("__debug__" : Str)) = false := by decide) :
    PE X (.Call (.Name x p) [] [] pos) (tCall sp [] E tNil) := by
  obtain ⟨f, fd, hm, hk, hb, F⟩ := c.ex
  exact pe_call0 F hr hg hm hk hb .nil hx hdb
/-- a constant of the module -/
theorem pe_globI {x : Str} {i : Int} {pos : Pos} (h : ∃ t, X.mg x = some (.int i t)) (hg : Gl X x) (hd : (x == ("__debug__" : Str)) = false := by decide) : PE X (.Name x pos) (tC (.int i)) := by
  obtain ⟨t, h⟩ := h
  exact pe_glob hg h ⟨t, rfl⟩ hd
theorem pe_globR {x : Str} {a : Addr} {pos : Pos} (h : X.mg x = some (.ref a)) (hg : Gl X x) (hd : (x == ("__debug__" : Str)) = false := by decide) : PE X (.Name x pos) (tC (.ref a)) := pe_glob hg h rfl hd
end
/-! ### the same rules, the written part told by name (so that a comprehension's block has the reading of the def around it) -/
section
variable {X : Cx} {K : PySem.W.Frag} {pos : Pos}
theorem op_addK (hK : X.K = K) : OpR X (binaryOp .Add) (rAddA K) := by subst hK; exact op_addA
theorem op_eqK (hK : X.K = K) (hu : X.A.units + 64 < cLine) : OpR X (compareOp .Eq) (rEqA K) := by subst hK; exact op_eqA hu
theorem op_neK (hK : X.K = K) (hu : X.A.units + 64 < cLine) : OpR X (compareOp .NotEq) (rNeA K) := by subst hK; exact op_neA hu
theorem call_lenK (hK : X.K = K) : CallR X (.builtin "len") (rLenA K) := by subst hK; exact call_lenA
theorem call_isiK (hK : X.K = K) : CallR X (.builtin "isinstance") (rIsi K) := by subst hK; exact call_isi
theorem sl_anyK (hK : X.K = K) : SlR X (rSlA2 K) := by subst hK; exact sl_any
theorem ix_seqK (hK : X.K = K) : IxR X (rIx K) := by subst hK; exact ix_seq
theorem pi_listK {tg e : Expr} {tl : TE} (hK : X.K = K) (h : PE X e tl) : PI X tg e (iList K tl) := by subst hK; exact pi_list h
theorem pi_tupK {tg e : Expr} {tl : TE} (hK : X.K = K) (h : PE X e tl) : PI X tg e (iTup K tl) := by subst hK; exact pi_tup h
theorem pg_tupK {es : List Expr} {k : Nat} {t : TGs} {n : Nat} (hK : X.K = K) (hc : X.calm = true) (h : PGs X es t) (hn : (assignEach es X.env).length = n := by rfl) (hst : (assignEach es X.env).findIdx? (·.1) = none := by rfl) :
    PG X (.Tuple es k pos) (gTup K n t) := by subst hK; exact pg_tup hc h hn hst
theorem pe_bmK {T id : String} {name : Str} {r : V → List V → Hp → VK → Prop} {o e : Expr} {es : List Expr} {to : TE} {t : TA} {apos cpos : Pos} (hK : X.K = K) (pa : PlainAttrs T) (slot : Slot T name id) (hty : typeOf (.builtin id) = pure (.type "method_descriptor")) (hm : MtR X id r) (ho : PE X o to) (ha : PA X (e :: es) t)
    (hbase : attributeBase o name X.env (eval o X.env) = eval o X.env := by rfl)
    (hfew : ((backTo cpos (starEach (e :: es) X.env)).all (fun x => !x.1) && (backToKw cpos (keywordEach [] X.env)).all (fun x => x.1.isSome)
      && decide ((e :: es).length + ([] : List Keyword).length + (if ([] : List Keyword).isEmpty then 0 else 1) < 30)) = true := by rfl)
    (hline : (apos.endLine == cpos.line) = true := by rfl) (hs : starEach (e :: es) X.env = (false, eval e X.env) :: starEach es X.env := by rfl) (hplain : (backTo cpos (starEach es X.env)).any (·.1) = false := by rfl) :
    PE X (.Call (.Attribute o name apos) (e :: es) [] cpos) (tBM K T r to t) := by subst hK; exact pe_bm pa slot hty hm ho ha hbase hfew hline hs hplain
end
section
variable {fa : List He.Fa} {fn : List He.DefD} {K : PySem.W.Frag} {mg : Str → Option Value}
/-- what the top has left -/
structure Top (fa : List He.Fa) (fn : List He.DefD) (K : PySem.W.Frag) (mg : Str → Option Value) : Prop where
  c : He.SaysD fa fn K
  h : ∃ h : Heap, K.In h ∧ h.Ns mainGlobals mg
theorem Top.glo (T : Top fa fn K mg) (i : Nat) {x : Str} (h : fa[i]? = some (.glo x) := by rfl) : mg x = some (.ref (He.ga K x)) := let ⟨_, X, G⟩ := T.h; He.glo_ok X G (T.c.fact i h)
theorem Top.free (T : Top fa fn K mg) (i : Nat) {x : Str} (h : fa[i]? = some (.free x) := by rfl) : mg x = none := let ⟨_, X, G⟩ := T.h; He.free_ok X G (T.c.fact i h)
theorem Top.int (T : Top fa fn K mg) (i : Nat) {x : Str} {n : Int} (h : fa[i]? = some (.int x n) := by rfl) : ∃ t, mg x = some (.int n t) := let ⟨_, X, G⟩ := T.h; He.int_ok X G (T.c.fact i h)
theorem Top.cls (T : Top fa fn K mg) (i : Nat) {x : Str} (h : fa[i]? = some (.cls x) := by rfl) : Cls K (He.ga K x) := He.cls_ok (T.c.fact i h)
theorem Top.noat (T : Top fa fn K mg) (i : Nat) {x f : Str} (h : fa[i]? = some (.noat x f) := by rfl) : NoAttr K (He.ga K x) f := He.noat_ok (T.c.fact i h)
theorem Top.meth (T : Top fa fn K mg) (i : Nat) {x f : Str} (h : fa[i]? = some (.meth x f) := by rfl) : Meth K (He.ga K x) f (He.ma K (He.ga K x) f) := He.meth_ok (T.c.fact i h)
theorem Top.mkr (T : Top fa fn K mg) (i : Nat) {x : Str} (h : fa[i]? = some (.mkr x) := by rfl) : Mk K (He.ga K x) (He.ma K (He.ga K x) "__init__") := He.mkr_ok (T.c.fact i h)
theorem Top.keep (T : Top fa fn K mg) (i : Nat) {x : Str} (h : fa[i]? = some (.keep x) := by rfl) : PySem.W.keepIn K (.ref (He.ga K x)) = true := He.keep_ok (T.c.fact i h)
theorem Top.exm (T : Top fa fn K mg) (i : Nat) {x y : Str} {b : Bool} (h : fa[i]? = some (.exm x y b) := by rfl) : PySem.W.exmOne K (.ref (He.ga K x)) (.ref (He.ga K y)) = some b := He.exm_ok (T.c.fact i h)
/-- a def of data at its name -/
theorem cal_of {P : Program} {w : World} {base : Heap} {CX : CXT} {k : Nat} {x qual : Str} {params : Arguments} {body : List Stmt} {scope : Scope} {kws : List (Str × V)} {f : Addr} {fd : FuncData} {ps : List Str} {sp : Sp}
    (F : FunD K x qual params body scope [] kws f fd) (hm : mg x = some (.ref f)) (ok : FnOk P w K mg base CX k f fd ps sp)
    (hb : ∀ (kV doc pm : Value) (an : Option Addr) (cdv ct : Value) (us : List Value), us.length = ps.length → bindArgs (PySem.W.fnOf x qual params body scope .none kV doc pm an cdv ct) ⟨us, []⟩ = pure (ps.zip us)) :
    CalOk P w K mg base CX k x ps sp := ⟨f, fd, hm, F.kp, F.bindsN hb, ok⟩
end
end LH

namespace LH
open PySem L2 Evl TL
/-! ### data compared -/
/-- no dict within, at most n deep -/
def flatN : Nat → PyData → Bool
  | _, .none => true
  | _, .bool _ => true
  | _, .int _ => true
  | _, .str x => x.cps.all (· < 0x110000)
  | n + 1, .list xs => xs.all (flatN n)
  | n + 1, .tuple xs => xs.all (flatN n)
  | _, _ => false
theorem flat_canLay : ∀ (n : Nat) (d : PyData), flatN n d = true → d.canLay0 = true
  | _, .none, _ => rfl
  | _, .bool _, _ => rfl
  | _, .int _, _ => rfl
  | 0, .str _, h => h
  | _ + 1, .str _, h => h
  | 0, .list _, h => by simp [flatN] at h
  | 0, .tuple _, h => by simp [flatN] at h
  | n + 1, .list xs, h => by
    have h' : xs.all (flatN n) = true := h
    have : ∀ ys : List PyData, ys.all (flatN n) = true → PyData.canLayAll0 ys = true := by
      intro ys; induction ys with
      | nil => intro _; rfl
      | cons y ys ih => intro q; rw [List.all_cons, Bool.and_eq_true] at q; show (y.canLay0 && PyData.canLayAll0 ys) = true; rw [flat_canLay n y q.1, ih q.2]; rfl
    exact this xs h'
  | n + 1, .tuple xs, h => by
    have h' : xs.all (flatN n) = true := h
    have : ∀ ys : List PyData, ys.all (flatN n) = true → PyData.canLayAll0 ys = true := by
      intro ys; induction ys with
      | nil => intro _; rfl
      | cons y ys ih => intro q; rw [List.all_cons, Bool.and_eq_true] at q; show (y.canLay0 && PyData.canLayAll0 ys) = true; rw [flat_canLay n y q.1, ih q.2]; rfl
    exact this xs h'
  | _, .dict _, h => by simp [flatN] at h
theorem flat_depth : ∀ (n : Nat) (d : PyData), flatN n d = true → d.depth ≤ n
  | _, .none, _ => Nat.zero_le _
  | _, .bool _, _ => Nat.zero_le _
  | _, .int _, _ => Nat.zero_le _
  | _, .str _, _ => Nat.zero_le _
  | 0, .list _, h => by simp [flatN] at h
  | 0, .tuple _, h => by simp [flatN] at h
  | n + 1, .list xs, h => by
    have h' : xs.all (flatN n) = true := h
    have : ∀ ys : List PyData, ys.all (flatN n) = true → PyData.depthAll ys ≤ n := by
      intro ys; induction ys with
      | nil => intro _; exact Nat.zero_le _
      | cons y ys ih => intro q; rw [List.all_cons, Bool.and_eq_true] at q; exact Nat.max_le.mpr ⟨flat_depth n y q.1, ih q.2⟩
    exact Nat.succ_le_succ (this xs h')
  | n + 1, .tuple xs, h => by
    have h' : xs.all (flatN n) = true := h
    have : ∀ ys : List PyData, ys.all (flatN n) = true → PyData.depthAll ys ≤ n := by
      intro ys; induction ys with
      | nil => intro _; exact Nat.zero_le _
      | cons y ys ih => intro q; rw [List.all_cons, Bool.and_eq_true] at q; exact Nat.max_le.mpr ⟨flat_depth n y q.1, ih q.2⟩
    exact Nat.succ_le_succ (this xs h')
  | _, .dict _, h => by simp [flatN] at h
theorem shaped_of {d : PyData} (n : Nat) (h : flatN n d = true) (hn : n ≤ 64 := by decide) : SeqAt.shaped d = true := by
  unfold SeqAt.shaped
  rw [flat_canLay n d h, decide_eq_true (Nat.le_trans (flat_depth n d h) hn)]; rfl
theorem shaped_int {i : Int} : SeqAt.shaped (.int i) = true := shaped_of 0 rfl
theorem shaped_bool {i : Bool} : SeqAt.shaped (.bool i) = true := shaped_of 0 rfl
theorem shaped_none : SeqAt.shaped .none = true := shaped_of 0 rfl
theorem shaped_map {α : Type} {f : α → PyData} (xs : List α) (n : Nat) (hf : ∀ x, flatN n (f x) = true) (hn : n + 1 ≤ 64 := by decide) : SeqAt.shaped (.list (xs.map f)) = true :=
  shaped_of (n + 1) (by show (xs.map f).all (flatN n) = true; rw [List.all_map]; exact List.all_eq_true.mpr fun x _ => hf x) hn
/-- without truth values, equal is the same -/
def noB : PyData → Bool
  | .none => true
  | .bool _ => false
  | .int _ => true
  | .str _ => true
  | .list xs => noBs xs
  | .tuple xs => noBs xs
  | .dict _ => false
where noBs : List PyData → Bool
  | [] => true
  | x :: xs => noB x && noBs xs
mutual
theorem eqv_iff : ∀ (a b : PyData), noB a = true → noB b = true → (PyData.eqv a b = true ↔ a = b)
  | .none, b, _, _ => by cases b <;> simp [PyData.eqv]
  | .bool _, _, h, _ => by simp [noB] at h
  | .dict _, _, h, _ => by simp [noB] at h
  | .int i, b, _, hb => by cases b <;> simp [PyData.eqv, noB] at hb ⊢
  | .str i, b, _, hb => by cases b <;> simp [PyData.eqv, noB] at hb ⊢
  | .list xs, b, ha, hb => by
    cases b with
    | list ys => simpa [PyData.eqv] using eqvs_iff xs ys (by simpa [noB] using ha) (by simpa [noB] using hb)
    | _ => simp [PyData.eqv, noB] at hb ⊢
  | .tuple xs, b, ha, hb => by
    cases b with
    | tuple ys => simpa [PyData.eqv] using eqvs_iff xs ys (by simpa [noB] using ha) (by simpa [noB] using hb)
    | _ => simp [PyData.eqv, noB] at hb ⊢
theorem eqvs_iff : ∀ (xs ys : List PyData), noB.noBs xs = true → noB.noBs ys = true → (PyData.eqvAll xs ys = true ↔ xs = ys)
  | [], [], _, _ => by simp [PyData.eqvAll]
  | [], _ :: _, _, _ => by simp [PyData.eqvAll]
  | _ :: _, [], _, _ => by simp [PyData.eqvAll]
  | x :: xs, y :: ys, ha, hb => by
    simp only [noB.noBs, Bool.and_eq_true] at ha hb
    simp only [PyData.eqvAll, Bool.and_eq_true, List.cons.injEq]
    rw [eqv_iff x y ha.1 hb.1, eqvs_iff xs ys ha.2 hb.2]
end
theorem eqv_dec {a b : PyData} [Decidable (a = b)] (ha : noB a = true) (hb : noB b = true) : PyData.eqv a b = decide (a = b) := by
  cases h : PyData.eqv a b with
  | true => exact (decide_eq_true ((eqv_iff a b ha hb).mp h)).symm
  | false => exact (decide_eq_false fun e => by rw [(eqv_iff a b ha hb).mpr e] at h; cases h).symm
theorem eqv_self {a : PyData} (ha : noB a = true) : PyData.eqv a a = true := (eqv_iff a a ha ha).mpr rfl
theorem noBs_map {α : Type} {f : α → PyData} : ∀ (xs : List α), (∀ x, noB (f x) = true) → noB.noBs (xs.map f) = true
  | [], _ => rfl
  | x :: xs, h => by
    show (noB (f x) && noB.noBs (xs.map f)) = true
    rw [h x, noBs_map xs h]; rfl
theorem eqv_bb {a b : Bool} : PyData.eqv (.bool a) (.bool b) = (a == b) := rfl
theorem eqv_ii {a b : Int} : PyData.eqv (.int a) (.int b) = (a == b) := rfl
theorem eqv_ss {a b : Str} : PyData.eqv (.str a) (.str b) = (a == b) := rfl
/-! ### texts, names, numbers, ids by their signs -/
def isSmall (c : Nat) : Bool := decide (97 ≤ c) && decide (c ≤ 122)
def isDig (c : Nat) : Bool := decide (48 ≤ c) && decide (c ≤ 57)
def isOffL (l : List Nat) : Bool := decide (1 ≤ l.length) && (decide (l.length ≤ 12) && l.all isSmall)
def isNumL (l : List Nat) : Bool := decide (1 ≤ l.length) && (decide (l.length ≤ 10) && (!(l.head? == some 48) && (l.all isDig && decide (NumText.digitsVal l ≤ 1000000000))))
def isThingL (l : List Nat) : Bool := match par [45] [] l with
  | some (a, b) => isOffL a && isNumL b
  | none => false
theorem small_ascii : ∀ c : Nat, c < 128 → (Unicode.isAlpha c && !(Unicode.isUpper c || Unicode.isTitle c)) = isSmall c := by decide +kernel
theorem small_lower : ∀ c : Nat, c < 128 → isSmall c = true → Unicode.isLower c = true := by decide +kernel
theorem dig_ascii : ∀ c : Nat, c < 128 → Unicode.isDecimal c = isDig c := by decide +kernel
theorem small_lt {c : Nat} (h : isSmall c = true) : c < 128 := by
  simp only [isSmall, Bool.and_eq_true, decide_eq_true_eq] at h; omega
theorem dig_lt {c : Nat} (h : isDig c = true) : c < 128 := by
  simp only [isDig, Bool.and_eq_true, decide_eq_true_eq] at h; omega
theorem arr_all {x : Str} {p : Nat → Bool} : x.cps.all p = (tl x).all p := by rw [Array.all_toList]
theorem arr_any {x : Str} {p : Nat → Bool} : x.cps.any p = (tl x).any p := by rw [Array.any_toList]
theorem len_pos {x : Str} : (decide (x.length > 0)) = decide (1 ≤ (tl x).length) := by
  rw [len_tl]
  by_cases h : 1 ≤ (tl x).length
  · rw [decide_eq_true h, decide_eq_true (by omega)]
  · rw [decide_eq_false h, decide_eq_false (by omega)]
/-- is_office, as the program has it -/
theorem office_iff (x : Str) : (decide ((x.length : Int) ≤ 12) && (Txt.isascii x && (Txt.isalpha x && Txt.islower x))) = isOffL (tl x) := by
  unfold Txt.isascii Txt.isalpha Txt.islower isOffL
  simp only [arr_all, arr_any, len_pos]
  generalize hl : tl x = l
  have e0 : decide ((x.length : Int) ≤ 12) = decide (l.length ≤ 12) := by
    rw [len_tl, hl]
    by_cases h : l.length ≤ 12
    · rw [decide_eq_true h, decide_eq_true (by omega)]
    · rw [decide_eq_false h, decide_eq_false (by omega)]
  rw [e0]
  rw [Bool.eq_iff_iff]
  simp only [Bool.and_eq_true, decide_eq_true_eq, List.all_eq_true, List.any_eq_true, Bool.not_eq_true', List.any_eq_false, Bool.or_eq_true, not_or]
  constructor
  · rintro ⟨h1, h2, ⟨h3, h4⟩, h5, h6⟩
    refine ⟨h3, h1, fun c hc => ?_⟩
    have e := small_ascii c (h2 c hc)
    rw [← e, h4 c hc]
    have := h6 c hc
    simp [this.1, this.2]
  · rintro ⟨h3, h1, h4⟩
    have hA : ∀ c ∈ l, Unicode.isAlpha c = true ∧ Unicode.isUpper c = false ∧ Unicode.isTitle c = false := fun c hc => by
      have e := small_ascii c (small_lt (h4 c hc))
      rw [h4 c hc] at e
      simp only [Bool.and_eq_true, Bool.not_eq_true', Bool.or_eq_false_iff] at e
      exact ⟨e.1, e.2.1, e.2.2⟩
    refine ⟨h1, fun c hc => small_lt (h4 c hc), ⟨h3, fun c hc => (hA c hc).1⟩, ?_, fun c hc => by simp [(hA c hc).2.1, (hA c hc).2.2]⟩
    cases l with
    | nil => simp at h3
    | cons c l => exact ⟨c, List.mem_cons_self, small_lower c (small_lt (h4 c List.mem_cons_self)) (h4 c List.mem_cons_self)⟩

/-- the same, the length asked ahead -/
theorem off_long {x : Str} (h : decide ((12 : Int) < (x.length : Int)) = true) : isOffL (tl x) = false := by
  rw [← office_iff, decide_eq_false (by have := of_decide_eq_true h; omega)]; rfl
theorem off_short {x : Str} (h : decide ((12 : Int) < (x.length : Int)) = false) : (Txt.isascii x && (Txt.isalpha x && Txt.islower x)) = isOffL (tl x) := by
  rw [← office_iff, decide_eq_true (by have := of_decide_eq_false h; omega), Bool.true_and]
theorem starts_iff {x y : Str} (hy : tl y ≠ []) : Txt.startswith x y = pre (tl y) (tl x) := by
  rw [Bool.eq_iff_iff]
  have h := at_iff (x := x) hy 0
  rw [List.drop_zero] at h
  rw [← h]
  unfold Txt.startswith StrLaws.At
  simp
theorem pre1 {c : Nat} {l : List Nat} : pre [c] l = (l.head? == some c) := by
  cases l with
  | nil => rfl
  | cons a l => simp [pre]
theorem dec_len {x : Str} {n : Nat} : decide ((x.length : Int) ≤ (n : Int)) = decide ((tl x).length ≤ n) := by
  rw [len_tl]
  by_cases h : (tl x).length ≤ n
  · rw [decide_eq_true h, decide_eq_true (by omega)]
  · rw [decide_eq_false h, decide_eq_false (by omega)]
/-- is_number, as the program has it -/
def numP (x : Str) : Bool :=
  if (decide ((10 : Int) < (x.length : Int)) || Txt.startswith x (Str.ofString "0")) = true then false
  else Txt.isascii x && (Txt.isdecimal x && decide ((NumText.digitsVal (tl x) : Int) ≤ 1000000000))
theorem ascii_dec {x : Str} : (Txt.isascii x && Txt.isdecimal x) = (decide (1 ≤ (tl x).length) && (tl x).all isDig) := by
  unfold Txt.isascii Txt.isdecimal
  simp only [arr_all, len_pos]
  generalize tl x = l
  rw [Bool.eq_iff_iff]
  simp only [Bool.and_eq_true, decide_eq_true_eq, List.all_eq_true]
  constructor
  · rintro ⟨h1, h2, h3⟩
    exact ⟨h2, fun c hc => by rw [← dig_ascii c (h1 c hc)]; exact h3 c hc⟩
  · rintro ⟨h1, h2⟩
    exact ⟨fun c hc => dig_lt (h2 c hc), h1, fun c hc => by rw [dig_ascii c (dig_lt (h2 c hc))]; exact h2 c hc⟩
theorem number_iff (x : Str) : numP x = isNumL (tl x) := by
  unfold numP
  rw [starts_iff (by decide), show tl (Str.ofString "0") = [48] from rfl, pre1, ← Bool.and_assoc, ascii_dec, len_tl]
  unfold isNumL
  generalize tl x = l
  have e2 : decide ((NumText.digitsVal l : Int) ≤ 1000000000) = decide (NumText.digitsVal l ≤ 1000000000) := by
    by_cases h : NumText.digitsVal l ≤ 1000000000
    · rw [decide_eq_true h, decide_eq_true (by omega)]
    · rw [decide_eq_false h, decide_eq_false (by omega)]
  rw [e2]
  by_cases h : l.length ≤ 10
  · have h1 : decide ((10 : Int) < (l.length : Int)) = false := decide_eq_false (by omega)
    rw [h1, decide_eq_true h, Bool.false_or, Bool.true_and]
    cases l.head? == some 48 <;> simp [Bool.and_assoc]
  · have h1 : decide ((10 : Int) < (l.length : Int)) = true := decide_eq_true (by omega)
    rw [h1, decide_eq_false h]
    simp
theorem allDigits_of {l : List Nat} (h : l.all isDig = true) : NumText.AllDigits l := fun c hc => by
  have := List.all_eq_true.mp h c hc
  simp only [isDig, Bool.and_eq_true, decide_eq_true_eq] at this
  exact this
theorem int_of {x : Str} (h1 : Txt.isascii x = true) (h2 : Txt.isdecimal x = true) (hl : x.length ≤ 4300) : intText? x = some ((NumText.digitsVal (tl x) : Nat) : Int) := by
  have e := ascii_dec (x := x)
  rw [h1, h2] at e
  have e' : (decide (1 ≤ (tl x).length) && (tl x).all isDig) = true := e.symm
  simp only [Bool.and_eq_true, decide_eq_true_eq] at e'
  exact PySem.intText_digits (allDigits_of e'.2) (by intro z; have := e'.1; rw [show (tl x) = x.cps.toList from rfl, z] at this; simp at this) hl
/-- is_thing, as the program has it -/
theorem thing_iff (x : Str) : (isOffL (tl (Txt.partition x (Str.ofString "-")).1) && numP (Txt.partition x (Str.ofString "-")).2.2) = isThingL (tl x) := by
  rw [number_iff, partition_par x _ (by decide), show tl (Str.ofString "-") = [45] from rfl]
  unfold isThingL
  cases h : par [45] [] (tl x) with
  | none =>
    show (isOffL (tl x) && isNumL (tl Str.empty)) = false
    have : isNumL (tl Str.empty) = false := by decide
    rw [this, Bool.and_false]
  | some ab => rfl

/-! ### comprehensions over signs, compared with the empty list -/
theorem sign_lt {a b : Nat} : decide (([a] : List Nat) < [b]) = decide (a < b) := by
  rw [decide_eq_decide]
  constructor
  · intro h
    cases h with
    | rel h => exact h
    | cons h => cases h
  · exact fun h => .rel h
theorem eqv_nil {xs : List PyData} : PyData.eqv (.list xs) (.list []) = xs.isEmpty := by
  cases xs <;> simp [PyData.eqv, PyData.eqvAll]
theorem isEmpty_filter {α : Type} (p : α → Bool) (l : List α) : (l.filter p).isEmpty = l.all fun x => !p x := by
  induction l with
  | nil => rfl
  | cons x l ih =>
    rw [List.filter_cons, List.all_cons]
    cases h : p x <;> simp [ih]
theorem givenS {z : Str} {p : Nat → Bool} {f : Nat → PyData} (q : Nat → Bool) (k : Nat → PyData) (hp : ∀ i c, z.cps[i]? = some c → p i = q c) (hf : ∀ i c, z.cps[i]? = some c → f i = k c) :
    givenD z.cps.size p f = ((tl z).filter q).map k := by
  have e : z.cps.size = (tl z).length := by simp
  rw [e]
  refine givenD_filter (tl z) p f q k (fun i c h => hp i c ?_) fun i c h => hf i c ?_ <;> simpa using h
def okStr (z : Str) : Bool := z.cps.all (· < 0x110000)
theorem okStr_iff {z : Str} : okStr z = true ↔ ∀ c ∈ tl z, c < 0x110000 := by
  unfold okStr
  rw [arr_all, List.all_eq_true]
  simp
theorem shaped_signs {z : Str} (h : okStr z = true) (q : Nat → Bool) : SeqAt.shaped (.list (((tl z).filter q).map fun c => PyData.str ⟨#[c]⟩)) = true := by
  refine shaped_of 1 ?_
  show (((tl z).filter q).map fun c => PyData.str ⟨#[c]⟩).all (flatN 0) = true
  rw [List.all_map, List.all_eq_true]
  intro c hc
  have := okStr_iff.mp h c (List.mem_filter.mp hc).1
  show (⟨#[c]⟩ : Str).cps.all (· < 0x110000) = true
  simpa using this
theorem shaped_nil : SeqAt.shaped (.list []) = true := shaped_of 1 rfl
section
variable {C : Ct} {e : En} {te tl' : TE} {tt : TT} {g : TG} {vs : List Nat}
/-- a comprehension over a text's signs -/
theorem ee_lcS' {z : Str} (h : EvE C tl' e (.str z)) (q : Nat → Bool) (k : Nat → PyData) (hn : z.length ≤ 1000000)
    (hb : ∀ c ∈ tl z, ∃ bE, TgE C g vs (.str ⟨#[c]⟩) ⟨wipeS e.s vs, e.o, e.g⟩ bE ∧ EvB C tt bE (q c) ∧ (q c = true → EvE C te bE (k c))) : EvE C (tLc (iStr tl') g tt te vs) e (.list (((tl z).filter q).map k)) := by
  have hc : ∀ i c, z.cps[i]? = some c → z.cps.getD i 0 = c := fun i c h => by rw [Array.getD_eq_getD_getElem?, h]; rfl
  refine EvE.is (ee_lcS h (fun i => q (z.cps.getD i 0)) (fun i => k (z.cps.getD i 0)) hn fun i c hi => ?_) (congrArg PyData.list (givenS q k (fun i c h => by rw [hc i c h]) fun i c h => by rw [hc i c h]))
  rw [hc i c hi]
  exact hb c (by rw [Array.getElem?_eq_some_iff] at hi; obtain ⟨hl, rfl⟩ := hi; simp)
/-- a comprehension over a list -/
theorem ee_lcL' {α : Type} {enc : α → PyData} (xs : List α) (h : EvE C tl' e (.list (xs.map enc))) (q : α → Bool) (k : α → PyData) (hn : xs.length ≤ 1000000) 
    (hb : ∀ x ∈ xs, ∃ bE, TgE C g vs (enc x) ⟨wipeS e.s vs, e.o, e.g⟩ bE ∧ EvB C tt bE (q x) ∧ (q x = true → EvE C te bE (k x))) : EvE C (tLc (iList C.K tl') g tt te vs) e (.list ((xs.filter q).map k)) := by
  by_cases hx : xs = []
  · subst hx
    exact EvE.is (ee_lcL h (fun _ => true) (fun _ => .none) (by simp) fun i d hd => by simp at hd) rfl
  · obtain ⟨x0, hx0⟩ := List.exists_mem_of_ne_nil _ hx
    have hc : ∀ i x, xs[i]? = some x → xs.getD i x0 = x := fun i x h => by rw [List.getD_eq_getElem?_getD, h]; rfl
    have e1 : (xs.map enc).length = xs.length := by simp
    refine EvE.is (ee_lcL h (fun i => q (xs.getD i x0)) (fun i => k (xs.getD i x0)) (by omega) fun i d hi => ?_) ?_
    · rw [List.getElem?_map] at hi
      cases hq : xs[i]? with
      | none => rw [hq] at hi; cases hi
      | some x =>
        rw [hq] at hi
        cases hi
        rw [hc i x hq]
        exact hb x (List.mem_of_getElem? hq)
    · rw [e1]
      exact congrArg PyData.list (givenD_filter xs _ _ q k (fun i x h => by rw [hc i x h]) fun i x h => by rw [hc i x h])
theorem filter_yes {α : Type} (xs : List α) : xs.filter (fun _ => true) = xs := List.filter_eq_self.mpr fun _ _ => rfl
end
/-! ### where the dash stands -/
def posOf (l : List Nat) : List Nat := (List.range l.length).filter fun i => l.getD i 0 == 45
theorem posOf_cons (c : Nat) (l : List Nat) : posOf (c :: l) = (if c = 45 then [0] else []) ++ (posOf l).map (· + 1) := by
  unfold posOf
  rw [List.length_cons, List.range_succ_eq_map, List.filter_cons, List.filter_map]
  by_cases h : c = 45
  · subst h; simp [Function.comp_def]
  · simp [h, Function.comp_def]
theorem posOf_free {l : List Nat} (h : 45 ∉ l) : posOf l = [] := by
  induction l with
  | nil => rfl
  | cons c l ih =>
    rw [posOf_cons, ih fun z => h (List.mem_cons_of_mem _ z), if_neg fun z => h (by rw [z]; exact List.mem_cons_self)]
    rfl
theorem posOf_app {a b : List Nat} (h : 45 ∉ a) : posOf (a ++ 45 :: b) = a.length :: (posOf b).map (· + (a.length + 1)) := by
  induction a with
  | nil => rw [List.nil_append, posOf_cons]; simp
  | cons c a ih =>
    rw [List.cons_append, posOf_cons, ih fun z => h (List.mem_cons_of_mem _ z), if_neg fun z => h (by rw [z]; exact List.mem_cons_self)]
    simp [Function.comp_def, Nat.add_assoc]
theorem split45 (l : List Nat) : 45 ∉ l ∨ ∃ a b, l = a ++ 45 :: b ∧ 45 ∉ a := by
  induction l with
  | nil => exact .inl (by simp)
  | cons c l ih =>
    by_cases h : c = 45
    · exact .inr ⟨[], l, by rw [h]; rfl, by simp⟩
    · rcases ih with z | ⟨a, b, e, z⟩
      · exact .inl (by simp; exact ⟨fun q => h q.symm, z⟩)
      · exact .inr ⟨c :: a, b, by rw [e]; rfl, by simp; exact ⟨fun q => h q.symm, z⟩⟩
theorem num_dash {b : List Nat} (h : 45 ∈ b) : isNumL b = false := by
  unfold isNumL
  have : b.all isDig = false := by
    rw [List.all_eq_false]
    exact ⟨45, h, by decide⟩
  rw [this]; simp
theorem posOf_mem {b : List Nat} (h : 45 ∈ b) : posOf b ≠ [] := by
  rcases split45 b with z | ⟨x, y, e, z⟩
  · exact absurd h z
  · rw [e, posOf_app z]; simp
theorem thing_pos {l : List Nat} : isThingL l = if (posOf l).length = 1 then isOffL (l.take ((posOf l).headD 0)) && isNumL (l.drop ((posOf l).headD 0 + 1)) else false := by
  unfold isThingL
  rcases split45 l with h | ⟨a, b, rfl, h⟩
  · rw [par_none1 h, posOf_free h]
    rfl
  · have e : par [45] [] (a ++ ([45] ++ b)) = some ([] ++ a, b) := par_part1 h
    rw [show a ++ 45 :: b = a ++ ([45] ++ b) from rfl, e, show a ++ ([45] ++ b) = a ++ 45 :: b from rfl, posOf_app h]
    show (isOffL a && isNumL b) = _
    by_cases hb : 45 ∈ b
    · rw [num_dash hb, Bool.and_false, if_neg]
      intro z
      rw [List.length_cons, List.length_map] at z
      exact posOf_mem hb (List.length_eq_zero_iff.mp (by omega))
    · rw [posOf_free hb, if_pos (show (a.length :: List.map (fun x => x + (a.length + 1)) []).length = 1 from rfl)]
      show _ = (isOffL ((a ++ 45 :: b).take a.length) && isNumL ((a ++ 45 :: b).drop (a.length + 1)))
      rw [List.take_left, show a.length + 1 = (a ++ [45]).length by simp, show a ++ 45 :: b = (a ++ [45]) ++ b by simp, List.drop_left]
end LH

namespace LH
open PySem L2 PySem.Spec PyProof.Rows
abbrev Ex := Evl.Ex
theorem ex_refl (H : Hp) : Ex H H := Evl.Ex.refl H
theorem ex_trans {a b c : Hp} (h : Ex a b) (k : Ex b c) : Ex a c := Evl.Ex.trans h k
/-! ### expressions that may change own objects -/
def EvX (C : Ct) (te : TE) (e : En) (d : PyData) (e' : En) : Prop := ∀ σ F H, Good C e σ F H → ∀ Q : VK, (∀ v F2 H2, Ex F F2 → Good C e' σ F2 H2 → Dp C.K F2 v d → Q v H2) → te σ H Q
def BvX (C : Ct) (tt : TT) (e : En) (b : Bool) (e' : En) : Prop := ∀ σ F H, Good C e σ F H → ∀ Q : Bool → Hp → Prop, (∀ F2 H2, Ex F F2 → Good C e' σ F2 H2 → Q b H2) → tt σ H Q
section
variable {C : Ct} {e e' e1 e2 : En} {d x y z : PyData} {ds : List PyData} {te ta tb tx tl : TE} {tt tu : TT} {b c : Bool} {D : Ends} {t u : TS} {P : Stt → Hp → Prop} {g : TG} {js : List Nat}
theorem EvE.toX (h : EvE C te e d) : EvX C te e d e := fun σ F H g Q q => h σ F H g Q fun v F2 H2 w r => q v F2 H2 w.f (g.grow w) r
theorem EvB.toX (h : EvB C tt e b) : BvX C tt e b e := fun σ F H g Q q => h σ F H g Q fun F2 H2 w => q F2 H2 w.f (g.grow w)
theorem EvX.is {d' : PyData} (h : EvX C te e d e') (q : d = d') : EvX C te e d' e' := q ▸ h
theorem BvX.is {b' : Bool} (h : BvX C tt e b e') (q : b = b') : BvX C tt e b' e' := q ▸ h
theorem x_op {r : R2} (ha : EvX C ta e x e1) (hb : EvX C tb e1 y e2) (hr : R2E C.K r x y z) : EvX C (tOp r ta tb) e z e2 := fun σ F H g Q q =>
  ha σ F H g _ fun v F1 H1 w1 g1 r1 => hb σ F1 H1 g1 _ fun u F2 H2 w2 g2 r2 => hr F2 H2 v u g2.fh (dp_mono w2 _ _ r1) r2 Q fun w F3 H3 w3 r3 => q w F3 H3 (ex_trans (ex_trans w1 w2) w3.f) (g2.grow w3) r3
theorem xb_test (h : EvX C te e (.bool b) e') : BvX C (tTest te) e b e' := fun σ F H g Q q => h σ F H g _ fun v F2 H2 w g2 d => ⟨b, dp_bool d, q F2 H2 w g2⟩
theorem xb_B (h : EvX C te e (.bool b) e') : BvX C (tB te) e b e' := fun σ F H g Q q => h σ F H g _ fun v F2 H2 w g2 d => ⟨b, dp_bool d, q F2 H2 w g2⟩
theorem xb_not (h : BvX C tt e b e') : BvX C (tNot tt) e (!b) e' := fun σ F H g Q q => h σ F H g _ fun F2 H2 w g2 => q F2 H2 w g2
theorem xb_orF (h : BvX C tt e false e1) (k : BvX C tu e1 c e2) : BvX C (tOr tt tu) e c e2 := fun σ F H g Q q => h σ F H g _ fun F1 H1 w1 g1 => by
  show tu σ H1 Q
  exact k σ F1 H1 g1 Q fun F2 H2 w2 g2 => q F2 H2 (ex_trans w1 w2) g2
theorem xb_orT (h : BvX C tt e true e1) : BvX C (tOr tt tu) e true e1 := fun σ F H g Q q => h σ F H g _ fun F1 H1 w1 g1 => q F1 H1 w1 g1
theorem xb_andT (h : BvX C tt e true e1) (k : BvX C tu e1 c e2) : BvX C (tAnd tt tu) e c e2 := fun σ F H g Q q => h σ F H g _ fun F1 H1 w1 g1 => by
  show tu σ H1 Q
  exact k σ F1 H1 g1 Q fun F2 H2 w2 g2 => q F2 H2 (ex_trans w1 w2) g2
theorem xb_andF (h : BvX C tt e false e1) : BvX C (tAnd tt tu) e false e1 := fun σ F H g Q q => h σ F H g _ fun F1 H1 w1 g1 => q F1 H1 w1 g1
theorem r_asgX {i : Nat} (h : EvX C te e d e') (k : Run C (e'.set i d) D.nx) : Run C e (tAsg te (gName i) D) := fun σ F H g =>
  h σ F H g _ fun v F2 H2 w g2 r => k _ F2 H2 (g2.set r)
theorem r_dropX (h : EvX C te e d e') (k : Run C e' D.nx) : Run C e (tDrop te D) := fun σ F H g => h σ F H g _ fun v F2 H2 w g2 r => k _ F2 H2 g2
theorem r_retX (h : EvX C te e d e') (k : RetE C e' D d) : Run C e (tRet te D) := fun σ F H g => h σ F H g _ fun v F2 H2 w g2 r => k σ v F2 H2 g2 r
theorem r_ifX (h : BvX C tt e b e') (h1 : b = true → Run C e' (t D)) (h2 : b = false → Run C e' (u D)) : Run C e (tIfS tt t u D) := fun σ F H g => h σ F H g _ fun F2 H2 w g2 => by
  cases b with
  | true =>
    show t D σ H2
    exact h1 rfl σ F2 H2 g2
  | false =>
    show u D σ H2
    exact h2 rfl σ F2 H2 g2
/-! ### arguments: data or own objects -/
def SvE (C : Ct) (te : TE) (e : En) (s : Sl) : Prop := ∀ g' : List (V × Sl), (∀ q ∈ e.g, q ∈ g') → ∀ σ F H, Good C ⟨e.s, e.o, g'⟩ σ F H → ∀ Q : VK, (∀ v F2 H2, Grow F H F2 H2 → Good C ⟨e.s, e.o, (v, s) :: g'⟩ σ F2 H2 → Q v H2) → te σ H Q
def SvA (C : Ct) (ta : TA) (e : En) (sl : List Sl) : Prop := ∀ g' : List (V × Sl), (∀ q ∈ e.g, q ∈ g') → ∀ σ F H, Good C ⟨e.s, e.o, g'⟩ σ F H → ∀ Q : List V → Hp → Prop, (∀ vs F2 H2, Grow F H F2 H2 → vs.length = sl.length → Good C ⟨e.s, e.o, vs.zip sl ++ g'⟩ σ F2 H2 → Q vs H2) → ta σ H Q
theorem sv_d (h : EvE C te e d) : SvE C te e (.d d) := fun g' hg σ F H gd Q q =>
  h σ F H (gd.le (LeS.refl _) hg) Q fun v F2 H2 w r => q v F2 H2 w ((gd.grow w).ghost r)
theorem sv_o {i j : Nat} (h : e.s[i]? = some (.o j)) : SvE C (tVar i) e (.o j) := fun g' hg σ F H gd Q q => by
  obtain ⟨as, hs, p⟩ := gd.parts
  have hi : i < σ.length := Nat.lt_of_lt_of_le (List.getElem?_eq_some_iff.mp h).1 p.len
  obtain ⟨a, e1, e2⟩ := p.slot i _ _ h (List.getElem?_eq_getElem hi)
  refine ⟨.ref a, by rw [List.getElem?_eq_getElem hi, e1], q (.ref a) F H (Grow.refl gd.fh) ⟨gd.ff, gd.rh, gd.fh, gd.fnew, as, hs, p.len, p.slot, p.la, p.lh, p.obj, p.sub, p.dF, p.dR, p.dd, fun x hx => ?_⟩⟩
  rcases List.mem_cons.mp hx with z | z
  · rw [z]; exact ⟨a, rfl, e2⟩
  · exact p.gh x z
theorem sa_nil : SvA C tNil e [] := fun g' hg σ F H gd Q q => q [] F H (Grow.refl gd.fh) rfl gd
theorem sa_cons {s : Sl} {sl : List Sl} {tr : TA} (h : SvE C te e s) (hr : SvA C tr e sl) : SvA C (tCons te tr) e (s :: sl) := fun g' hg σ F H gd Q q =>
  h g' hg σ F H gd _ fun v F1 H1 w1 g1 => hr ((v, s) :: g') (fun x hx => List.mem_cons_of_mem _ (hg x hx)) σ F1 H1 g1 _ fun vs F2 H2 w2 hl g2 =>
    q (v :: vs) F2 H2 (w1.trans w2) (by simp [hl]) (g2.le (LeS.refl _) fun x hx => by
      simp only [List.zip_cons_cons, List.cons_append, List.mem_cons, List.mem_append] at hx ⊢
      rcases hx with z | z | z
      · exact .inr (.inl z)
      · exact .inl z
      · exact .inr (.inr z))
theorem sa_of {tr : TA} (h : EvA C tr e ds) : True := trivial
end
/-! ### a def that takes own objects -/
inductive Res where
  | ret (d : PyData)
  | err (c : Addr)
  /-- an error with fields -/
  | errF (c : Addr) (fl : List (Str × V))
/-- sl, os: what is handed over; r: what comes; os': the objects behind it -/
abbrev SpR := List Sl → List Ow → Res → List Ow → Prop
def spO (K : PySem.W.Frag) (f : SpR) : Sp := fun vs H Q E => ∃ (F R : Hp) (sl : List Sl) (os : List Ow) (r : Res) (os' : List Ow), vs.length = sl.length ∧ Good ⟨K, R, F⟩ ⟨[], os, vs.zip sl⟩ [] F H ∧ f sl os r os' ∧
  match r with
  | .ret d => ∀ v F2 H2, Ex F F2 → Good ⟨K, R, F⟩ ⟨[], os', vs.zip sl⟩ [] F2 H2 → Dp K F2 v d → Q v H2
  | .err c => ∀ F2 H2, Ex F F2 → Good ⟨K, R, F⟩ ⟨[], os', vs.zip sl⟩ [] F2 H2 → E (.ref c) none H2
  | .errF c fl => ∀ F2 H2 dd, Ex F F2 → Good ⟨K, R, F⟩ ⟨[], os', vs.zip sl⟩ [] F2 H2 → H2 dd = some (.xd fl) → E (.ref c) (some dd) H2
/-- a callee's numbers of objects told by the caller's -/
def ren (js : List Nat) : Sl → Sl
  | .o i => .o (js.getD i 0)
  | x => x
/-- the objects behind the call -/
def putO (os : List Ow) : List Nat → List Ow → List Ow
  | j :: js, o :: r => putO (os.set j o) js r
  | _, _ => os
theorem putO_len {os : List Ow} : ∀ {js : List Nat} {r : List Ow}, (putO os js r).length = os.length
  | [], _ => by simp [putO]
  | _ :: _, [] => rfl
  | j :: js, o :: r => by unfold putO; rw [putO_len, List.length_set]
theorem putO_out {os : List Ow} {k : Nat} : ∀ {js : List Nat} {r : List Ow}, k ∉ js → (putO os js r)[k]? = os[k]?
  | [], _, _ => by simp [putO]
  | _ :: _, [], _ => rfl
  | j :: js, o :: r, h => by
    unfold putO
    rw [putO_out fun z => h (List.mem_cons_of_mem _ z), List.getElem?_set_ne fun z => h (by rw [z]; exact List.mem_cons_self)]
theorem putO_in {os : List Ow} {i k : Nat} {o : Ow} : ∀ {js : List Nat} {r : List Ow}, js.Nodup → js[i]? = some k → r[i]? = some o → k < os.length → (putO os js r)[k]? = some o := by
  induction i generalizing os with
  | zero =>
    intro js r nd h1 h2 hk
    cases js with
    | nil => simp at h1
    | cons j js =>
      cases r with
      | nil => simp at h2
      | cons o' r =>
        simp at h1 h2
        subst h1 h2
        unfold putO
        rw [putO_out (List.nodup_cons.mp nd).1, List.getElem?_set_self hk]
  | succ i ih =>
    intro js r nd h1 h2 hk
    cases js with
    | nil => simp at h1
    | cons j js =>
      cases r with
      | nil => simp at h2
      | cons o' r =>
        unfold putO
        exact ih (List.nodup_cons.mp nd).2 (by simpa using h1) (by simpa using h2) (by rw [List.length_set]; exact hk)
open Classical in
/-- what stays of a heap when the parts at js are handed over -/
noncomputable def restH (H : Hp) (hs : List Hp) (js : List Nat) : Hp := fun b => if ∃ i ∈ js, ∃ h, hs[i]? = some h ∧ (h b).isSome = true then none else H b
theorem rest_in {H : Hp} {hs : List Hp} {js : List Nat} {i : Nat} {h : Hp} {b : Addr} {o : HO} (hi : i ∈ js) (hh : hs[i]? = some h) (hb : h b = some o) : restH H hs js b = none := by
  unfold restH; rw [if_pos ⟨i, hi, h, hh, by rw [hb]; rfl⟩]
theorem rest_out {H : Hp} {hs : List Hp} {js : List Nat} {b : Addr} (n : ∀ i ∈ js, ∀ h, hs[i]? = some h → h b = none) : restH H hs js b = H b := by
  unfold restH
  rw [if_neg]
  rintro ⟨i, hi, h, hh, q⟩
  rw [n i hi h hh] at q
  cases q
theorem rest_le {H : Hp} {hs : List Hp} {js : List Nat} : Ex (restH H hs js) H := fun b o h => by
  unfold restH at h
  split at h
  · cases h
  · exact h
theorem call_core {C : Ct} {e : En} {σ : Stt} {F H : Hp} {vs : List V} {sl0 : List Sl} {js : List Nat} {os os' : List Ow} {f : SpR} {r : Res} {Q : VK} {E : XK} {g' : List (V × Sl)}
    (gd : Good C ⟨e.s, e.o, vs.zip (sl0.map (ren js)) ++ g'⟩ σ F H) (hl : vs.length = sl0.length) (hj : js.Nodup) (ho : ∀ (i j : Nat), js[i]? = some j → e.o[j]? = os[i]? ∧ j < e.o.length) (hlen : os.length = js.length) (hlen' : os'.length = js.length)
    (hall : ∀ i, i < js.length → .o i ∈ sl0) (hbd : ∀ i, Sl.o i ∈ sl0 → i < js.length) (hf : f sl0 os r os')
    (hq : match r with
      | .ret d => ∀ v F2 H2, Ex F F2 → Good C ⟨e.s, putO e.o js os', g'⟩ σ F2 H2 → Dp C.K F2 v d → Q v H2
      | .err c => ∀ F2 H2, Ex F F2 → Good C ⟨e.s, putO e.o js os', g'⟩ σ F2 H2 → E (.ref c) none H2
      | .errF c fl => ∀ F2 H2 dd, Ex F F2 → Good C ⟨e.s, putO e.o js os', g'⟩ σ F2 H2 → H2 dd = some (.xd fl) → E (.ref c) (some dd) H2) : spO C.K f vs H Q E := by
  obtain ⟨as, hs, p⟩ := gd.parts
  have hja : ∀ (i j : Nat), js[i]? = some j → ∃ a, as[j]? = some a := fun i j h => ⟨as[j]'(by rw [p.la]; exact (ho i j h).2), List.getElem?_eq_getElem _⟩
  have hjh : ∀ (i j : Nat), js[i]? = some j → ∃ h, hs[j]? = some h := fun i j h => ⟨hs[j]'(by rw [p.lh]; exact (ho i j h).2), List.getElem?_eq_getElem _⟩
  have mapA : ∀ (i : Nat) (a : Addr), (js.map fun j => as.getD j 0)[i]? = some a → ∃ j, js[i]? = some j ∧ as[j]? = some a := fun i a h => by
    rw [List.getElem?_map] at h
    cases q : js[i]? with
    | none => rw [q] at h; cases h
    | some j =>
      rw [q] at h
      obtain ⟨a', ha'⟩ := hja i j q
      have : as.getD j 0 = a := Option.some.inj h
      rw [List.getD_eq_getElem?_getD, ha'] at this
      exact ⟨j, rfl, by rw [ha', ← this]; rfl⟩
  have mapH : ∀ (i : Nat) (k : Hp), (js.map fun j => hs.getD j emp)[i]? = some k → ∃ j, js[i]? = some j ∧ hs[j]? = some k := fun i k h => by
    rw [List.getElem?_map] at h
    cases q : js[i]? with
    | none => rw [q] at h; cases h
    | some j =>
      rw [q] at h
      obtain ⟨k', hk'⟩ := hjh i j q
      have : hs.getD j emp = k := Option.some.inj h
      rw [List.getD_eq_getElem?_getD, hk'] at this
      exact ⟨j, rfl, by rw [hk', ← this]; rfl⟩
  have out : ∀ (j : Nat) (h : Hp), j ∉ js → hs[j]? = some h → Ex h (restH H hs js) := fun j h nj hh b o hb => by
    rw [rest_out fun i hi k hk => (p.dd j i h k (fun z => nj (z ▸ hi)) hh hk) b o hb]
    exact p.sub j h hh b o hb
  have exF : Ex F (restH H hs js) := fun b o hb => by
    rw [rest_out fun i hi k hk => p.dF i k hk b o hb]
    exact gd.fh b o hb
  have exR : Ex C.R (restH H hs js) := fun b o hb => by
    rw [rest_out fun i hi k hk => p.dR i k hk b o hb]
    exact gd.rh b o hb
  have G0 : Good ⟨C.K, restH H hs js, F⟩ ⟨[], os, vs.zip sl0⟩ [] F H := by
    refine ⟨ex_refl F, rest_le, gd.fh, fun b o h n => by (have n' : F b = none := n; rw [h] at n'; cases n'), js.map fun j => as.getD j 0, js.map fun j => hs.getD j emp, Nat.zero_le _, fun i x v h => by simp at h, by simp [hlen], by simp [hlen], fun i a h o h1 h2 h3 => ?_, fun i h h1 => ?_, fun i h h1 => ?_, fun i h h1 => ?_, fun i i' h k ni h1 h2 => ?_, fun q hq => ?_⟩
    · obtain ⟨j, e1, e2⟩ := mapA i a h1
      obtain ⟨j', e3, e4⟩ := mapH i h h2
      rw [e1] at e3; cases e3
      exact p.obj j a h o e2 e4 (by rw [(ho i j e1).1]; exact h3)
    · obtain ⟨j, e1, e2⟩ := mapH i h h1
      exact p.sub j h e2
    · obtain ⟨j, e1, e2⟩ := mapH i h h1
      exact p.dF j h e2
    · obtain ⟨j, e1, e2⟩ := mapH i h h1
      intro b o hb
      cases q : h b with
      | none => rfl
      | some u =>
        have hb' : restH H hs js b = some o := hb
        rw [rest_in (List.mem_of_getElem? e1) e2 q] at hb'
        cases hb'
    · obtain ⟨j, e1, e2⟩ := mapH i h h1
      obtain ⟨j', e3, e4⟩ := mapH i' k h2
      refine p.dd j j' h k (fun z => ni ?_) e2 e4
      subst z
      exact (List.getElem?_inj (List.getElem?_eq_some_iff.mp e1).1 hj).mp (e1.trans e3.symm)
    · obtain ⟨v, s⟩ := q
      obtain ⟨n, hn, e1⟩ := List.mem_iff_getElem.mp hq
      have hn1 : n < vs.length := by simp at hn; omega
      have hn2 : n < sl0.length := by simp at hn; omega
      rw [List.getElem_zip] at e1
      have ev : vs[n] = v := congrArg Prod.fst e1
      have es : sl0[n] = s := congrArg Prod.snd e1
      have hm : (v, ren js s) ∈ vs.zip (sl0.map (ren js)) ++ g' := by
        refine List.mem_append_left _ (List.mem_iff_getElem.mpr ⟨n, by simp; omega, ?_⟩)
        rw [List.getElem_zip, List.getElem_map, ev, es]
      have z := p.gh _ hm
      cases s with
      | un => trivial
      | d x => exact z
      | o i =>
        obtain ⟨a, e2, e3⟩ := z
        have hi : i < js.length := hbd i (by rw [← es]; exact List.getElem_mem _)
        refine ⟨a, e2, ?_⟩
        rw [List.getElem?_map, List.getElem?_eq_getElem hi]
        have e4 : js.getD i 0 = js[i] := by rw [List.getD_eq_getElem?_getD, List.getElem?_eq_getElem hi]; rfl
        rw [e4] at e3
        show some (as.getD js[i] 0) = some a
        rw [List.getD_eq_getElem?_getD, e3]; rfl
  -- what the caller has behind it
  have back : ∀ F2 H2, Ex F F2 → Good ⟨C.K, restH H hs js, F⟩ ⟨[], os', vs.zip sl0⟩ [] F2 H2 → Good C ⟨e.s, putO e.o js os', g'⟩ σ F2 H2 := fun F2 H2 w G2 => by
    obtain ⟨as2, hs2, p2⟩ := G2.parts
    have la2 : as2.length = js.length := by rw [p2.la]; exact hlen'
    have lh2 : hs2.length = js.length := by rw [p2.lh]; exact hlen'
    -- the addresses are the same
    have same : ∀ (i j : Nat), js[i]? = some j → as2[i]? = as[j]? := fun i j hij => by
      have hi : i < js.length := (List.getElem?_eq_some_iff.mp hij).1
      obtain ⟨n, hn, en⟩ := List.mem_iff_getElem.mp (hall i hi)
      have hn1 : n < vs.length := by omega
      have m2 : (vs[n], Sl.o i) ∈ vs.zip sl0 := List.mem_iff_getElem.mpr ⟨n, by simp; omega, by rw [List.getElem_zip, en]⟩
      have m1 : (vs[n], ren js (Sl.o i)) ∈ vs.zip (sl0.map (ren js)) ++ g' := List.mem_append_left _ (List.mem_iff_getElem.mpr ⟨n, by simp; omega, by rw [List.getElem_zip, List.getElem_map, en]⟩)
      obtain ⟨a, e1, e2⟩ := p2.gh _ m2
      obtain ⟨a', e3, e4⟩ := p.gh _ m1
      have e1' : some vs[n] = some (V.ref a) := e1
      have e3' : some vs[n] = some (V.ref a') := e3
      rw [e1'] at e3'
      cases e3'
      have e4' : as[js.getD i 0]? = some a := e4
      rw [List.getD_eq_getElem?_getD, hij] at e4'
      exact e2.trans e4'.symm
    have put : ∀ (n : Nat) (k : Hp), (hs.mapIdx fun j h => match js.idxOf? j with | some i => hs2.getD i emp | none => h)[n]? = some k → (n ∉ js ∧ hs[n]? = some k) ∨ ∃ i, js[i]? = some n ∧ hs2[i]? = some k := fun n k h => by
      rw [List.getElem?_mapIdx] at h
      cases q : hs[n]? with
      | none => rw [q] at h; cases h
      | some h0 =>
        rw [q] at h
        have h' : (match js.idxOf? n with | some i => hs2.getD i emp | none => h0) = k := Option.some.inj h
        cases q2 : js.idxOf? n with
        | none =>
          rw [q2] at h'
          exact .inl ⟨List.idxOf?_eq_none_iff.mp q2, by rw [← h']⟩
        | some i =>
          rw [q2] at h'
          have hi := List.idxOf?_eq_some_iff.mp q2
          obtain ⟨hi1, hi2, _⟩ := hi
          have hi2' : js[i] = n := by simpa using hi2
          refine .inr ⟨i, by rw [List.getElem?_eq_getElem hi1, hi2'], ?_⟩
          rw [List.getElem?_eq_getElem (by omega)]
          have : hs2.getD i emp = k := h'
          rw [List.getD_eq_getElem?_getD, List.getElem?_eq_getElem (by omega)] at this
          exact congrArg some this
    have fnew2 : ∀ b o, F2 b = some o → F b = none → restH H hs js b = none := G2.fnew
    refine ⟨ex_trans gd.ff w, fun b o h => G2.rh b o (exR b o h), G2.fh, fun b o h n => ?_, as, hs.mapIdx fun j h => match js.idxOf? j with | some i => hs2.getD i emp | none => h, p.len, fun i x v h1 h2 => (p.slot i x v h1 h2).mono w, by rw [p.la]; show e.o.length = (putO e.o js os').length; rw [putO_len], by rw [List.length_mapIdx, p.lh]; show e.o.length = (putO e.o js os').length; rw [putO_len], fun n a h o h1 h2 h3 => ?_, fun n h q => ?_, fun n h q => ?_, fun n h q => ?_, fun n m h k nm q1 q2 => ?_, fun q hq => (p.gh q (List.mem_append_right _ hq)).mono w⟩
    · cases q : F b with
      | none => exact Evl.fresh_back (H := C.R) (H' := restH H hs js) exR (fnew2 b o h q)
      | some u => exact gd.fnew b u q n
    · have h3' : (putO e.o js os')[n]? = some o := h3
      rcases put n h h2 with ⟨nj, q⟩ | ⟨i, hi, q⟩
      · rw [putO_out nj] at h3'
        exact o.mono _ _ _ _ w (p.obj n a h o h1 q h3')
      · have hi' : i < os'.length := by rw [hlen']; exact (List.getElem?_eq_some_iff.mp hi).1
        rw [putO_in hj hi (List.getElem?_eq_getElem hi') (ho i n hi).2] at h3'
        cases h3'
        exact p2.obj i a h _ ((same i n hi).trans h1) q (List.getElem?_eq_getElem hi')
    · rcases put n h q with ⟨nj, q⟩ | ⟨i, hi, q⟩
      · exact ex_trans (out n h nj q) G2.rh
      · exact p2.sub i h q
    · rcases put n h q with ⟨nj, q⟩ | ⟨i, hi, q⟩
      · intro b o hb
        cases q2 : F b with
        | none => exact Evl.fresh_back (H := h) (H' := restH H hs js) (out n h nj q) (fnew2 b o hb q2)
        | some u => exact p.dF n h q b u q2
      · exact p2.dF i h q
    · rcases put n h q with ⟨nj, q⟩ | ⟨i, hi, q⟩
      · exact p.dR n h q
      · intro b o hb
        exact p2.dR i h q b o (exR b o hb)
    · rcases put n h q1 with ⟨nj, q1⟩ | ⟨i, hi, q1⟩
      · rcases put m k q2 with ⟨mj, q2⟩ | ⟨i', hi', q2⟩
        · exact p.dd n m h k nm q1 q2
        · intro b o hb
          exact p2.dR i' k q2 b o (out n h nj q1 b o hb)
      · rcases put m k q2 with ⟨mj, q2⟩ | ⟨i', hi', q2⟩
        · exact Disj.symm fun b o hb => p2.dR i h q1 b o (out m k mj q2 b o hb)
        · exact p2.dd i i' h k (fun z => nm (by subst z; exact Option.some.inj (hi.symm.trans hi'))) q1 q2
  refine ⟨F, restH H hs js, sl0, os, r, os', hl, G0, hf, ?_⟩
  cases r with
  | ret d => exact fun v F2 H2 w g2 rr => hq v F2 H2 w (back F2 H2 w g2) rr
  | err c => exact fun F2 H2 w g2 => hq F2 H2 w (back F2 H2 w g2)
  | errF c fl => exact fun F2 H2 dd w g2 hd => hq F2 H2 dd w (back F2 H2 w g2) hd
end LH
namespace LH
open PySem L2 PySem.Spec PyProof.Rows
def hasO (sl : List Sl) (i : Nat) : Bool := sl.any fun x => match x with
  | .o n => n == i
  | _ => false
def inO (sl : List Sl) (k : Nat) : Bool := sl.all fun x => match x with
  | .o n => decide (n < k)
  | _ => true
theorem hasO_mem {sl : List Sl} {i : Nat} (h : hasO sl i = true) : .o i ∈ sl := by
  unfold hasO at h
  obtain ⟨x, hx, q⟩ := List.any_eq_true.mp h
  cases x with
  | o n => have : n = i := by simpa using q
           rw [← this]; exact hx
  | _ => cases q
theorem inO_lt {sl : List Sl} {i k : Nat} (h : inO sl k = true) (hi : Sl.o i ∈ sl) : i < k := by
  unfold inO at h
  have := List.all_eq_true.mp h _ hi
  simpa using this
section
variable {C : Ct} {e e' e1 e2 : En} {d x y z : PyData} {ds : List PyData} {te ta tb tx tl : TE} {tt tu : TT} {b c : Bool} {D : Ends} {t u : TS} {P : Stt → Hp → Prop} {g : TG}
/-- f(..) of a def that takes own objects, and gives back -/
theorem call_x {f : SpR} {tr : TA} {sl : List Sl} (sl0 : List Sl) (js : List Nat) (os os' : List Ow) {r : Res} (h : SvA C tr e sl) (hf : f sl0 os r os') (hsl : sl = sl0.map (ren js)) (hos : js.map (fun j => e.o[j]?) = os.map some) (hl' : os'.length = js.length)
    (hj : js.Nodup) (hall : ((List.range js.length).all fun i => hasO sl0 i) = true) (hbd : inO sl0 js.length = true) :
    ∀ σ F H, Good C e σ F H → ∀ (Q : VK) (E : XK), (match r with
      | .ret d => ∀ v F2 H2, Ex F F2 → Good C ⟨e.s, putO e.o js os', e.g⟩ σ F2 H2 → Dp C.K F2 v d → Q v H2
      | .err c => ∀ F2 H2, Ex F F2 → Good C ⟨e.s, putO e.o js os', e.g⟩ σ F2 H2 → E (.ref c) none H2
      | .errF c fl => ∀ F2 H2 dd, Ex F F2 → Good C ⟨e.s, putO e.o js os', e.g⟩ σ F2 H2 → H2 dd = some (.xd fl) → E (.ref c) (some dd) H2) → tr σ H fun vs H1 => spO C.K f vs H1 Q E := fun σ F H gd Q E hq => by
  subst hsl
  have hlen : os.length = js.length := by simpa using (congrArg List.length hos).symm
  refine h e.g (fun q hq => hq) σ F H gd _ fun vs F1 H1 w hl g1 => ?_
  refine call_core (os' := os') (r := r) g1 (by simpa using hl) hj (fun i j hij => ?_) hlen hl' (fun i hi => hasO_mem (List.all_eq_true.mp hall i (List.mem_range.mpr hi))) (fun i hi => inO_lt hbd hi) hf ?_
  · have e1 := congrArg (fun l => l[i]?) hos
    simp only [List.getElem?_map, hij, Option.map_some] at e1
    have hi : i < os.length := by rw [hlen]; exact (List.getElem?_eq_some_iff.mp hij).1
    rw [List.getElem?_eq_getElem hi] at e1 ⊢
    have e2 : e.o[j]? = some os[i] := by simpa using e1
    exact ⟨e2, (List.getElem?_eq_some_iff.mp e2).1⟩
  · cases r with
    | ret d => exact fun v F2 H2 w2 g2 r2 => hq v F2 H2 (ex_trans w.f w2) g2 r2
    | err c => exact fun F2 H2 w2 g2 => hq F2 H2 (ex_trans w.f w2) g2
    | errF c fl => exact fun F2 H2 dd w2 g2 hd => hq F2 H2 dd (ex_trans w.f w2) g2 hd
theorem x_call {f : SpR} {tr : TA} {sl : List Sl} {E : XK} (sl0 : List Sl) (js : List Nat) (os os' : List Ow) (h : SvA C tr e sl) (hf : f sl0 os (.ret d) os') (hsl : sl = sl0.map (ren js) := by rfl) (hos : js.map (fun j => e.o[j]?) = os.map some := by rfl) (hl' : os'.length = js.length := by rfl)
    (hj : js.Nodup := by decide) (hall : ((List.range js.length).all fun i => hasO sl0 i) = true := by rfl) (hbd : inO sl0 js.length = true := by rfl) : EvX C (tCall (spO C.K f) [] E tr) e d ⟨e.s, putO e.o js os', e.g⟩ := fun σ F H gd Q q => by
  have z := call_x sl0 js os os' h hf hsl hos hl' hj hall hbd σ F H gd Q E q
  show tr σ H fun vs H1 => spO C.K f (vs ++ []) H1 Q E
  simp only [List.append_nil]
  exact z
/-- an object that is an instance of the class at A, with a method's name free -/
def IsIns (o : Ow) (A : Addr) (m : Str) : Prop := ∀ a F h, o.P a F h → ∃ dx fs, h a = some (.ins A dx fs) ∧ fs.lookup m = none
/-- o.m(..): o in slot i, own object j -/
def tMethS (A : Addr) (m : Str) (sp : Sp) (E : Stt → XK) (ta : TE) (t : TA) : TE := fun σ H Q => ta σ H fun x H1 => ∃ a dx fs, x = .ref a ∧ H1 a = some (.ins A dx fs) ∧ fs.lookup m = none ∧ t σ H1 fun vs H2 => sp (x :: vs) H2 Q (E σ)
theorem meth_x {f : SpR} {tr : TA} {sl : List Sl} {A : Addr} {m : Str} {i j : Nat} {o : Ow} (sl0 : List Sl) (js : List Nat) (os os' : List Ow) {r : Res} (hi : e.s[i]? = some (.o j)) (ho : e.o[j]? = some o) (hI : IsIns o A m) (h : SvA C tr e sl) (hf : f sl0 os r os') (hsl : .o j :: sl = sl0.map (ren js)) (hos : js.map (fun j => e.o[j]?) = os.map some) (hl' : os'.length = js.length)
    (hj : js.Nodup) (hall : ((List.range js.length).all fun i => hasO sl0 i) = true) (hbd : inO sl0 js.length = true) :
    ∀ σ F H, Good C e σ F H → ∀ (Q : VK) (E : Stt → XK), (match r with
      | .ret d => ∀ v F2 H2, Ex F F2 → Good C ⟨e.s, putO e.o js os', e.g⟩ σ F2 H2 → Dp C.K F2 v d → Q v H2
      | .err c => ∀ F2 H2, Ex F F2 → Good C ⟨e.s, putO e.o js os', e.g⟩ σ F2 H2 → E σ (.ref c) none H2
      | .errF c fl => ∀ F2 H2 dd, Ex F F2 → Good C ⟨e.s, putO e.o js os', e.g⟩ σ F2 H2 → H2 dd = some (.xd fl) → E σ (.ref c) (some dd) H2) → tMethS A m (spO C.K f) E (tVar i) tr σ H Q := fun σ F H gd Q E hq => by
  obtain ⟨as, hs, p⟩ := gd.parts
  have hi' : i < σ.length := Nat.lt_of_lt_of_le (List.getElem?_eq_some_iff.mp hi).1 p.len
  obtain ⟨a, ea, eas⟩ := p.slot i _ _ hi (List.getElem?_eq_getElem hi')
  have hjl : j < hs.length := by rw [p.lh]; exact (List.getElem?_eq_some_iff.mp ho).1
  obtain ⟨dx, fs, h1, h2⟩ := hI a F _ (p.obj j a _ o eas (List.getElem?_eq_getElem hjl) ho)
  refine ⟨.ref a, by rw [List.getElem?_eq_getElem hi', ea], a, dx, fs, rfl, p.sub j _ (List.getElem?_eq_getElem hjl) a _ h1, h2, ?_⟩
  -- the receiver is the first argument
  have hA : SvA C (tCons (tVar i) tr) e (.o j :: sl) := sa_cons (sv_o hi) h
  have z := call_x sl0 js os os' hA hf hsl hos hl' hj hall hbd σ F H gd Q (E σ) hq
  obtain ⟨v, ev, z⟩ := z
  have : v = .ref a := by rw [List.getElem?_eq_getElem hi', ea] at ev; cases ev; rfl
  rw [this] at z
  exact z
theorem x_meth {f : SpR} {tr : TA} {sl : List Sl} {A : Addr} {m : Str} {i j : Nat} {o : Ow} {E : Stt → XK} (sl0 : List Sl) (js : List Nat) (os os' : List Ow) (hi : e.s[i]? = some (.o j)) (ho : e.o[j]? = some o) (hI : IsIns o A m) (h : SvA C tr e sl) (hf : f sl0 os (.ret d) os') (hsl : .o j :: sl = sl0.map (ren js) := by rfl) (hos : js.map (fun j => e.o[j]?) = os.map some := by rfl) (hl' : os'.length = js.length := by rfl)
    (hj : js.Nodup := by decide) (hall : ((List.range js.length).all fun i => hasO sl0 i) = true := by rfl) (hbd : inO sl0 js.length = true := by rfl) : EvX C (tMethS A m (spO C.K f) E (tVar i) tr) e d ⟨e.s, putO e.o js os', e.g⟩ :=
  fun σ F H gd Q q => meth_x sl0 js os os' hi ho hI h hf hsl hos hl' hj hall hbd σ F H gd Q E q
/-! ### own lists, read -/
theorem own_at {σ : Stt} {F H : Hp} {i j : Nat} (hi : e.s[i]? = some (.o j)) (hj : e.o[j]? = some (Ow.lst C.K ds)) (gd : Good C e σ F H) : ∃ a xs, σ[i]? = some (some (.ref a)) ∧ H a = some (.lst xs) ∧ DpAll C.K F xs ds := by
  obtain ⟨as, hs, pa⟩ := gd.parts
  have hi' : i < σ.length := Nat.lt_of_lt_of_le (List.getElem?_eq_some_iff.mp hi).1 pa.len
  obtain ⟨a, ea, eas⟩ := pa.slot i _ _ hi (List.getElem?_eq_getElem hi')
  have hjl : j < hs.length := by rw [pa.lh]; exact (List.getElem?_eq_some_iff.mp hj).1
  obtain ⟨xs, hx, rx⟩ := pa.obj j a _ _ eas (List.getElem?_eq_getElem hjl) hj
  exact ⟨a, xs, by rw [List.getElem?_eq_getElem hi', ea], pa.sub j _ (List.getElem?_eq_getElem hjl) a _ (by rw [hx]; exact sing_same), rx⟩
theorem ee_ixO {i j : Nat} {k : Int} (hi : e.s[i]? = some (.o j)) (hj : e.o[j]? = some (Ow.lst C.K ds)) (h : EvE C te e (.int k)) (hk : atI ds k = some d) : EvE C (tOp (rIx C.K) (tVar i) te) e d := fun σ F H gd Q q => by
  obtain ⟨a, xs, e1, hH, rx⟩ := own_at hi hj gd
  refine ⟨.ref a, e1, h σ F H gd _ fun v F2 H2 w r => ?_⟩
  cases r
  obtain ⟨u, e2, r2⟩ := dps_atI rx hk
  exact .inl ⟨a, xs, k, u, rfl, rfl, Evl.sq_of (w.h _ _ hH), e2, q u F2 H2 w (dp_mono w.f _ _ r2)⟩
theorem ee_lenO {i j : Nat} (hi : e.s[i]? = some (.o j)) (hj : e.o[j]? = some (Ow.lst C.K ds)) : EvE C (tCB (rLenA C.K) (tCons (tVar i) tNil)) e (.int ds.length) := fun σ F H gd Q q => by
  obtain ⟨a, xs, e1, hH, rx⟩ := own_at hi hj gd
  exact ⟨.ref a, e1, _, xs.length, rfl, .inl ⟨xs, Evl.sq_of hH, rfl⟩, by rw [dps_len rx]; exact q _ F H (Grow.refl gd.fh) (.int _)⟩
/-- list(x), x a list or a tuple -/
def rListA (K : PySem.W.Frag) : List V → Hp → VK → Prop := fun xs H Q => ∃ p ys, xs = [.ref p] ∧ (SqL K H p ys ∨ SqT K H p ys) ∧ ∀ l, H l = none → Q (.ref l) (upd H l (.lst ys))
theorem rc_listL : RCE C.K (rListA C.K) [.list ds] (.list ds) := fun F H vs s r Q q => by
  obtain ⟨v, rfl, d1⟩ := dps_one r
  obtain ⟨l, us, rfl, hl, r⟩ := dp_list d1
  exact ⟨l, us, rfl, .inl (Evl.ex_l s hl), fun p hp => q _ _ _ (Grow.alloc s hp) (.lst (Evl.sq_of upd_same) (dps_mono (Evl.Ex.new (ex_none s hp)) _ _ r))⟩
theorem rc_listT : RCE C.K (rListA C.K) [.tuple ds] (.list ds) := fun F H vs s r Q q => by
  obtain ⟨v, rfl, d1⟩ := dps_one r
  obtain ⟨l, us, rfl, hl, r⟩ := dp_tuple d1
  exact ⟨l, us, rfl, .inr (Evl.ex_t s hl), fun p hp => q _ _ _ (Grow.alloc s hp) (.lst (Evl.sq_of upd_same) (dps_mono (Evl.Ex.new (ex_none s hp)) _ _ r))⟩
theorem ee_listO {i j : Nat} (hi : e.s[i]? = some (.o j)) (hj : e.o[j]? = some (Ow.lst C.K ds)) : EvE C (tCB (rListA C.K) (tCons (tVar i) tNil)) e (.list ds) := fun σ F H gd Q q => by
  obtain ⟨a, xs, e1, hH, rx⟩ := own_at hi hj gd
  exact ⟨.ref a, e1, a, xs, rfl, .inl (Evl.sq_of hH), fun p hp => q _ _ _ (Grow.alloc gd.fh hp) (.lst (Evl.sq_of upd_same) (dps_mono (Evl.Ex.new (ex_none gd.fh hp)) _ _ rx))⟩
/-- x != xs, xs one's own list -/
theorem x_neO {i j : Nat} (ha : EvX C ta e x e1) (hi : e1.s[i]? = some (.o j)) (hj : e1.o[j]? = some (Ow.lst C.K ds)) (hx : SeqAt.shaped x = true) (hy : SeqAt.shaped (.list ds) = true) : EvX C (tOp (rNeA C.K) ta (tVar i)) e (.bool (!PyData.eqv x (.list ds))) e1 := fun σ F H gd Q q =>
  ha σ F H gd _ fun v F1 H1 w1 g1 r1 => by
    obtain ⟨a, xs, e2, hH, rx⟩ := own_at hi hj g1
    exact ⟨.ref a, e2, .inr ⟨x, .list ds, dp_mono g1.fh _ _ r1, .lst (Evl.sq_of hH) (dps_mono g1.fh _ _ rx), hx, hy, q _ F1 H1 w1 g1 (.bl _)⟩⟩
/-- xs.pop(i), xs one's own list -/
theorem x_popO {i j k : Nat} (hi : e.s[i]? = some (.o j)) (hj : e.o[j]? = some (Ow.lst C.K ds)) (h : EvE C te e (.int (k : Int))) (hk : ds[k]? = some d) (hz : ds.length ≤ 1000000) :
    EvX C (tBM C.K "list" rPopAt (tVar i) (tCons te tNil)) e d ⟨e.s, e.o.set j (Ow.lst C.K (ds.eraseIdx k)), e.g⟩ := fun σ F H gd Q q => by
  obtain ⟨as, hs, pa⟩ := gd.parts
  have hi' : i < σ.length := Nat.lt_of_lt_of_le (List.getElem?_eq_some_iff.mp hi).1 pa.len
  obtain ⟨a, ea, eas⟩ := pa.slot i _ _ hi (List.getElem?_eq_getElem hi')
  have hjl : j < hs.length := by rw [pa.lh]; exact (List.getElem?_eq_some_iff.mp hj).1
  obtain ⟨xs, hx, rx⟩ := pa.obj j a _ _ eas (List.getElem?_eq_getElem hjl) hj
  have hH : H a = some (.lst xs) := pa.sub j _ (List.getElem?_eq_getElem hjl) a _ (by rw [hx]; exact sing_same)
  refine ⟨.ref a, by rw [List.getElem?_eq_getElem hi', ea], .inl ⟨rfl, xs, Evl.sq_of hH⟩, ?_⟩
  refine h σ F H gd _ fun v F1 H1 w1 r => ?_
  cases r
  have hk1 : k < ds.length := (List.getElem?_eq_some_iff.mp hk).1
  have lx := dps_len rx
  obtain ⟨u, eu, ru⟩ := dps_get rx hk
  have g1 := gd.grow w1
  refine ⟨a, xs, (k : Int), k, u, rfl, rfl, w1.h _ _ hH, by omega, by omega, ?_, eu, q u F1 _ w1.f (g1.write (o' := Ow.lst C.K (ds.eraseIdx k)) as hs (pa.grow w1) _ (List.getElem?_eq_getElem hjl) (by rw [hx, sing_same]; rfl) fun b hb => ?_) (dp_mono w1.f _ _ ru)⟩
  · exact (ixN_seq (n := xs.length) (i := (k : Int)) (j := k) (Evl.ixN_nat (by omega))).1
  · rw [eas] at hb
    cases hb
    refine ⟨xs.eraseIdx k, ?_, dps_erase (dps_mono w1.f _ _ rx) k⟩
    rw [hx]
    unfold sing
    rw [upd_upd]
end
end LH

namespace LH
open PySem L2 PySem.Spec PyProof.Rows
/-! ### a def that takes own objects: the rule -/
theorem Good.cutO {C : Ct} {e : En} {σ σ' : Stt} {F H : Hp} {n : Nat} {os' : List Ow} {g' : List (V × Sl)} (gd : Good C e σ F H) (hn : e.o.take n = os') (hl : os'.length = n) (hg : ∀ q ∈ g', q ∈ e.g) (hb : ∀ v i, (v, Sl.o i) ∈ g' → i < n) : Good C ⟨[], os', g'⟩ σ' F H := by
  obtain ⟨as, hs, p⟩ := gd.parts
  have hle : n ≤ e.o.length := by
    have := congrArg List.length hn
    rw [List.length_take] at this
    omega
  have tk : ∀ {α : Type} {l : List α} {i : Nat} {x : α}, (l.take n)[i]? = some x → l[i]? = some x := fun {α l i x} h => by
    rw [List.getElem?_take] at h
    split at h
    · exact h
    · cases h
  refine ⟨gd.ff, gd.rh, gd.fh, gd.fnew, as.take n, hs.take n, Nat.zero_le _, fun i x v h => by simp at h, ?_, ?_, fun i a h o h1 h2 h3 => ?_, fun i h h1 => p.sub i h (tk h1), fun i h h1 => p.dF i h (tk h1), fun i h h1 => p.dR i h (tk h1), fun i j h k nij h1 h2 => p.dd i j h k nij (tk h1) (tk h2), fun q hq => ?_⟩
  · show (as.take n).length = os'.length
    rw [List.length_take, p.la]; omega
  · show (hs.take n).length = os'.length
    rw [List.length_take, p.lh]; omega
  · have h3' : os'[i]? = some o := h3
    rw [← hn] at h3'
    exact p.obj i a h o (tk h1) (tk h2) (tk h3')
  · have z := p.gh q (hg q hq)
    obtain ⟨v, s⟩ := q
    cases s with
    | un => trivial
    | d x => exact z
    | o i =>
      obtain ⟨a, e1, e2⟩ := z
      exact ⟨a, e1, by rw [List.getElem?_take, if_pos (hb v i hq)]; exact e2⟩
section
variable {P : Program} {w : World} {K : PySem.W.Frag} {mg : Str → Option Value} {base : Heap} {CX : CXT} {x qual : Str} {params : Arguments} {body : List Stmt} {scope : Scope} {dvs : List V} {kws : List (Str × V)} {f : Addr} {fd : FuncData}
theorem ok_obj {N ps : List Str} {k : Nat} {fr : SpR} (F : FunD K x qual params body scope dvs kws f fd) (S : FnScope N ps scope) (len : ∀ sl os r os', fr sl os r os' → sl.length = ps.length ∧ inO sl os'.length = true)
    (hbody : ∀ (cdv : Value) (A : Around) (outer : List Env) (s : Shared) (H : Hp) (E : XK), Room k (A.deeper (envOfC qual scope s.heap.objs.size f cdv)) →
      ∃ t, PSs (cxOf CX P w K mg base N qual scope f cdv A outer s H E) body t ∧ ∀ sl os r os', fr sl os r os' → ∀ (vs : List V) (R F : Hp) (D : Ends), vs.length = sl.length →
        (match r with
          | .ret d => ∀ e : En, e.o.take os'.length = os' → (∀ q ∈ vs.zip sl, q ∈ e.g) → RetE ⟨K, R, F⟩ e D d ∧ (d = .none → Run ⟨K, R, F⟩ e D.nx)
          | .err c => ∀ e : En, e.o.take os'.length = os' → (∀ q ∈ vs.zip sl, q ∈ e.g) → ∀ σ F2 H2, Good ⟨K, R, F⟩ e σ F2 H2 → E (.ref c) none H2
          | .errF c fl => ∀ e : En, e.o.take os'.length = os' → (∀ q ∈ vs.zip sl, q ∈ e.g) → ∀ σ F2 H2 dd, Good ⟨K, R, F⟩ e σ F2 H2 → H2 dd = some (.xd fl) → E (.ref c) (some dd) H2) →
        Run ⟨K, R, F⟩ ⟨sl ++ List.replicate (N.length - sl.length) Sl.un, os, vs.zip sl⟩ (t D)) : FnOk P w K mg base CX (k + 1) f fd ps (spO K fr) := by
  refine F.ok S (fun vs H Q E ⟨F0, R, sl, os, r, os', hl, _, h, _⟩ => by rw [hl]; exact (len sl os r os' h).1) (fun cdv A outer s H vs Q E hr h => ?_)
  obtain ⟨t, ht, hrun⟩ := hbody cdv A outer s H E hr
  obtain ⟨F0, R, sl, os, r, os', hl, gd, h, q⟩ := h
  have hb : ∀ v i, (v, Sl.o i) ∈ vs.zip sl → i < os'.length := fun v i hm => inO_lt (len sl os r os' h).2 (List.of_mem_zip hm).2
  refine ⟨t, ht, hrun sl os r os' h vs R F0 { nx := fun _ H' => Q .non H', rt := Q } hl ?_ _ F0 H ?_⟩
  · cases r with
    | ret d =>
      intro e he hg
      exact ⟨fun σ v F2 H2 g2 r2 => q v F2 H2 g2.ff (g2.cutO he rfl hg hb) r2, fun hd σ F2 H2 g2 => by subst hd; exact q .non F2 H2 g2.ff (g2.cutO he rfl hg hb) .non⟩
    | err c =>
      intro e he hg σ F2 H2 g2
      exact q F2 H2 g2.ff (g2.cutO he rfl hg hb)
    | errF c fl =>
      intro e he hg σ F2 H2 dd g2 hd
      exact q F2 H2 dd g2.ff (g2.cutO he rfl hg hb) hd
  · obtain ⟨as, hs, p⟩ := gd.parts
    refine ⟨gd.ff, gd.rh, gd.fh, gd.fnew, as, hs, ?_, fun i x v h1 h2 => ?_, p.la, p.lh, p.obj, p.sub, p.dF, p.dR, p.dd, p.gh⟩
    · show (sl ++ List.replicate (N.length - sl.length) Sl.un).length ≤ (L2.start N vs).length
      unfold L2.start
      simp [hl]
    · have h1' : (sl ++ List.replicate (N.length - sl.length) Sl.un)[i]? = some x := h1
      unfold L2.start at h2
      by_cases hi : i < sl.length
      · rw [List.getElem?_append_left hi, List.getElem?_eq_getElem hi] at h1'
        rw [List.getElem?_append_left (by simp; omega), List.getElem?_map, List.getElem?_eq_getElem (by omega)] at h2
        cases h1'; cases h2
        have hm : (vs[i]'(by omega), sl[i]) ∈ vs.zip sl := List.mem_iff_getElem.mpr ⟨i, by simp; omega, by rw [List.getElem_zip]⟩
        exact p.gh _ hm
      · rw [List.getElem?_append_right (by omega)] at h1'
        obtain ⟨_, z⟩ := List.getElem?_eq_some_iff.mp h1'
        rw [List.getElem_replicate] at z
        subst z
        trivial
end
/-! ### a new own object -/
section
variable {C : Ct} {e e' : En} {d : PyData} {te : TE} {D : Ends}
theorem Good.newO {σ : Stt} {F H H' : Hp} {a : Addr} {o : Ow} {h0 : Hp} (gd : Good C e σ F H) (hP : o.P a F h0) (hf : ∀ b u, h0 b = some u → H b = none) (he : Ex H H') (hs0 : Ex h0 H') : Good C ⟨e.s, e.o ++ [o], (.ref a, .o e.o.length) :: e.g⟩ σ F H' := by
  obtain ⟨as, hs, pa⟩ := gd.parts
  have ha : ∀ (n : Nat) (h : Hp), (hs ++ [h0])[n]? = some h → hs[n]? = some h ∨ (n = hs.length ∧ h = h0) := fun n h q => by
    rcases Nat.lt_trichotomy n hs.length with z | z | z
    · rw [List.getElem?_append_left z] at q; exact .inl q
    · subst z; simp at q; exact .inr ⟨rfl, q.symm⟩
    · rw [List.getElem?_append_right (by omega), List.getElem?_eq_none (by simp; omega)] at q; cases q
  have upS : ∀ (v : Option V) (x : Sl), SlotOk C.K F as v x → SlotOk C.K F (as ++ [a]) v x := fun v x z => by
    cases x with
    | un => trivial
    | d x => exact z
    | o n =>
      obtain ⟨b, e1, e2⟩ := z
      exact ⟨b, e1, by rw [List.getElem?_append_left (List.getElem?_eq_some_iff.mp e2).1]; exact e2⟩
  have d0 : ∀ {X : Hp}, Ex X H → Disj X h0 := fun {X} k b u hb => by
    cases q : h0 b with
    | none => rfl
    | some u' => have := hf b u' q; rw [k b u hb] at this; cases this
  refine ⟨gd.ff, ex_trans gd.rh he, ex_trans gd.fh he, gd.fnew, as ++ [a], hs ++ [h0], pa.len, fun j x w h1 h2 => upS w x (pa.slot j x w h1 h2), by simp [pa.la], by simp [pa.lh], fun n b h o' h1 h2 h3 => ?_, fun n h q => ?_, fun n h q => ?_, fun n h q => ?_, fun n m h k nm q1 q2 => ?_, fun q hq => ?_⟩
  · rcases ha n h h2 with z | ⟨z1, z2⟩
    · have hn : n < hs.length := (List.getElem?_eq_some_iff.mp z).1
      rw [List.getElem?_append_left (by have := pa.la; have := pa.lh; omega)] at h1
      have h3' : (e.o ++ [o])[n]? = some o' := h3
      rw [List.getElem?_append_left (by have := pa.lh; omega)] at h3'
      exact pa.obj n b h o' h1 z h3'
    · subst z1 z2
      have h3' : (e.o ++ [o])[hs.length]? = some o' := h3
      rw [pa.lh] at h3'
      simp at h3'
      subst h3'
      have e5 : hs.length = as.length := by rw [pa.lh, pa.la]
      rw [e5] at h1
      simp at h1
      subst h1
      exact hP
  · rcases ha n h q with z | ⟨z1, z2⟩
    · exact ex_trans (pa.sub n h z) he
    · subst z2; exact hs0
  · rcases ha n h q with z | ⟨z1, z2⟩
    · exact pa.dF n h z
    · subst z2; exact d0 gd.fh
  · rcases ha n h q with z | ⟨z1, z2⟩
    · exact pa.dR n h z
    · subst z2; exact d0 gd.rh
  · rcases ha n h q1 with z | ⟨z1, z2⟩
    · rcases ha m k q2 with y | ⟨y1, y2⟩
      · exact pa.dd n m h k nm z y
      · subst y2; exact d0 (pa.sub n h z)
    · rcases ha m k q2 with y | ⟨y1, y2⟩
      · subst z2; exact (d0 (pa.sub m k y)).symm
      · exact absurd (z1.trans y1.symm) nm
  · rcases List.mem_cons.mp hq with z | z
    · subst z
      exact ⟨a, rfl, by rw [← pa.la]; simp⟩
    · exact upS _ _ (pa.gh q z)
theorem Good.setO {σ : Stt} {F H : Hp} {i j : Nat} {v : V} (g : Good C e σ F H) (h : (v, Sl.o j) ∈ e.g) : Good C ⟨e.s.set i (.o j), e.o, e.g⟩ (σ.set i (some v)) F H := by
  obtain ⟨as, hs, p⟩ := g.parts
  refine ⟨g.ff, g.rh, g.fh, g.fnew, as, hs, by show (e.s.set i _).length ≤ _; rw [List.length_set, List.length_set]; exact p.len, fun n x w h1 h2 => ?_, p.la, p.lh, p.obj, p.sub, p.dF, p.dR, p.dd, p.gh⟩
  have h1' : (e.s.set i (.o j))[n]? = some x := h1
  by_cases hj : i = n
  · subst hj
    rw [List.getElem?_set] at h1' h2
    simp only [if_true] at h1' h2
    split at h1'
    · split at h2
      · cases h1'; cases h2; exact p.gh _ h
      · cases h2
    · cases h1'
  · rw [List.getElem?_set_ne hj] at h1' h2
    exact p.slot n x w h1' h2
/-- a bare instance, as a class makes it -/
def Ow.raw (A : Addr) : Ow := ⟨fun a _ h => ∃ dx, dx ≠ a ∧ h = upd (sing dx (.own a)) a (.ins A dx []), fun _ _ _ _ _ q => q⟩
theorem r_make0 {A : Addr} {f : SpR} {E : XK} {i : Nat} {o' : Ow} (hf : f [.o 0] [Ow.raw A] (.ret .none) [o']) (k : Run C ⟨e.s.set i (.o e.o.length), e.o ++ [o'], e.g⟩ D.nx) : Run C e (tAsg (tMake A (spO C.K f) [] E tNil) (gName i) D) := fun σ F H gd => by
  intro x dx hx hdx ne
  have n1 : ∀ b u, (upd (sing dx (.own x)) x (.ins A dx [])) b = some u → H b = none := fun b u q => by
    by_cases hb : b = x
    · subst hb; exact hx
    · rw [upd_ne hb] at q
      obtain ⟨rfl, _⟩ := sing_at q
      exact hdx
  have e1 : Ex H (upd (upd H dx (.own x)) x (.ins A dx [])) := fun b u q => by
    rw [upd_ne (ne_of_none q hx), upd_ne (ne_of_none q hdx)]; exact q
  have e2 : Ex (upd (sing dx (.own x)) x (.ins A dx [])) (upd (upd H dx (.own x)) x (.ins A dx [])) := fun b u q => by
    by_cases hb : b = x
    · subst hb; rw [upd_same] at q ⊢; exact q
    · rw [upd_ne hb] at q ⊢
      obtain ⟨rfl, rfl⟩ := sing_at q
      exact upd_same
  have g1 := gd.newO (o := Ow.raw A) (a := x) ⟨dx, ne, rfl⟩ n1 e1 e2
  have z := call_core (C := C) (e := ⟨e.s, e.o ++ [Ow.raw A], (.ref x, .o e.o.length) :: e.g⟩) (vs := [.ref x]) (sl0 := [.o 0]) (js := [e.o.length]) (os := [Ow.raw A]) (os' := [o']) (f := f) (r := .ret .none) (g' := (.ref x, .o e.o.length) :: e.g) (Q := fun v H2 => v = .non ∧ gName i (.ref x) σ H2 D.nx) (E := E)
    (g1.le (LeS.refl _) fun q hq => by
      rcases List.mem_cons.mp hq with z | z
      · rw [z]; exact List.mem_cons_self
      · exact z) rfl (by simp) (fun i j h => by
      have hi : i = 0 := by
        have := (List.getElem?_eq_some_iff.mp h).1
        simp at this
        omega
      subst hi
      cases h
      simp) rfl rfl (fun i hi => by
        have : i = 0 := by simp at hi; omega
        subst this; simp) (fun i hi => by simp at hi; simp [hi]) hf (fun v F2 H2 w g2 r2 => by
      refine ⟨dp_none r2, ?_⟩
      have g3 : Good C ⟨e.s, e.o ++ [o'], (.ref x, .o e.o.length) :: e.g⟩ σ F2 H2 := by
        have eo : putO (e.o ++ [Ow.raw A]) [e.o.length] [o'] = e.o ++ [o'] := by
          unfold putO
          rw [List.set_append_right _ _ (Nat.le_refl _)]
          simp [putO]
        rw [eo] at g2
        exact g2
      have g4 := g3.setO (i := i) (j := e.o.length) (v := .ref x) List.mem_cons_self
      exact k _ F2 H2 (g4.le (LeS.refl _) fun q hq => List.mem_cons_of_mem _ hq))
  exact z
end
/-! ### methods, called where what they raise is wished for at the caller's slots -/
structure MethOk (P : Program) (w : World) (K : PySem.W.Frag) (mg : Str → Option Value) (base : Heap) (CX : CXT) (k : Nat) (A : Addr) (m : Str) (ps : List Str) (sp : Sp) : Prop where
  cl : Cls K A
  ex : ∃ f fd, Meth K A m f ∧ Binds K fd ps [] ∧ FnOk P w K mg base CX k f fd ps sp
section
variable {X : Cx} {CX : CXT} {k : Nat} {f A : Addr} {fd : FuncData} {ps : List Str} {sp : Sp} {E : Stt → XK} {x m : Str} {p pos apos : Pos} {e o : Expr} {es : List Expr} {ta : TE} {t : TA}
theorem pe_methE {pl : Sem Bool} (c : MethOk X.prog X.w X.K X.mg X.base CX k A m ps sp) (he : PE X o ta) (hr : Room k X.A) (hx : ∀ σ, PassesAt CX X σ (E σ)) (ha : PA X (e :: es) t)
    (hst : starEach (e :: es) X.env = (false, eval e X.env) :: starEach es X.env := by rfl) (hpl : (backTo pos (starEach es X.env)).any (·.1) = false := by rfl)
    (ht : eval (.Call (.Attribute o m apos) (e :: es) [] pos) X.env = (do
      let ov ← eval o X.env
      standAt apos.atName
      let (f, first) ← holding [ov] (getMethod ov m pl)
      callWith pos f first (backTo pos (starEach (e :: es) X.env)) (backToKw pos (keywordEach [] X.env))) := by rfl) :
    PE X (.Call (.Attribute o m apos) (e :: es) [] pos) (tMethS A m sp E ta t) := by
  obtain ⟨f, fd, hm, hb, F⟩ := c.ex
  refine ⟨fun pins s σ H Q I h => ?_⟩
  refine PySem.W.methodCall_KW (pl := pl) (thn (he.run pins s σ H _ I h) fun u s1 ⟨x, H1, I1, rx, a, dx, fs, ex, ea, l, q⟩ => ?_) ht
  subst ex
  obtain rfl : u = Value.ref a := rx
  refine getmeth_ok I1 ea c.cl hm l ?_
  refine PySem.W.callWith_K (first := [.ref a]) (h₀ := X.base) I.ok.mod.kin hm.kp (thn (ha.run pos pins s1 σ H1 _ I1 q) fun us s2 ⟨vs, H2, I2, r, q2⟩ => ⟨I2.kIn, ?_⟩) hst hpl
  exact run_fnS (us := .ref a :: us) (vs := .ref a :: vs) F hr hb (hx σ) I2 (.cons rfl r) q2
theorem pe_methE0 {pl : Sem Bool} (c : MethOk X.prog X.w X.K X.mg X.base CX k A m ps sp) (he : PE X o ta) (hr : Room k X.A) (hx : ∀ σ, PassesAt CX X σ (E σ))
    (ht : eval (.Call (.Attribute o m apos) [] [] pos) X.env = (do
      let ov ← eval o X.env
      standAt apos.atName
      let (f, first) ← holding [ov] (getMethod ov m pl)
      callWith pos f first (backTo pos (starEach [] X.env)) (backToKw pos (keywordEach [] X.env))) := by rfl) :
    PE X (.Call (.Attribute o m apos) [] [] pos) (tMethS A m sp E ta tNil) := by
  obtain ⟨f, fd, hm, hb, F⟩ := c.ex
  refine ⟨fun pins s σ H Q I h => ?_⟩
  refine PySem.W.methodCall_KW (pl := pl) (thn (he.run pins s σ H _ I h) fun u s1 ⟨x, H1, I1, rx, a, dx, fs, ex, ea, l, q⟩ => ?_) ht
  subst ex
  obtain rfl : u = Value.ref a := rx
  refine getmeth_ok I1 ea c.cl hm l ?_
  exact PySem.W.callWith_K0 (first := [.ref a]) I1.kIn hm.kp (run_fnS (us := [.ref a]) (vs := [.ref a]) F hr hb (hx σ) I1 (.cons rfl .nil) q)
theorem pass0E {X : Cx} : ∀ σ : Stt, PassesAt CX0 X σ ((fun _ => E0) σ) := fun _ _ _ _ _ _ _ h => h.elim
/-- f(..) of a def that may raise -/
theorem pe_callE {es : List Expr} (c : CalOk X.prog X.w X.K X.mg X.base CX k x ps sp) (hr : Room k X.A) (hx : ∀ σ, PassesAt CX X σ (E σ)) (hg : Gl X x) (ha : PA X (e :: es) t) (hdb : (x == ("__debug__" : Str)) = false := by decide)
    (he : starEach (e :: es) X.env = (false, eval e X.env) :: starEach es X.env := by rfl) (hpl : (backTo pos (starEach es X.env)).any (·.1) = false := by rfl) : PE X (.Call (.Name x p) (e :: es) [] pos) (tCallS sp E t) := by
  obtain ⟨f, fd, hm, hk, hb, F⟩ := c.ex
  exact pe_callS F hr hg hm hk hb hx ha hdb he hpl
theorem pe_fldK {K : PySem.W.Frag} {f : Str} (hK : X.K = K) (he : PE X e ta) (hb : attributeBase e f X.env (eval e X.env) = eval e X.env := by rfl) : PE X (.Attribute e f pos) (tFld K ta f) := by subst hK; exact pe_fld he hb
end
end LH

namespace LH
open PySem L2 PySem.Spec PyProof.Rows
/-! ### own exception classes -/
def excCB (K : PySem.W.Frag) (x : Str) : Bool :=
  He.eqO (PySem.W.findIn K (.ref (He.ga K x)) "__getattribute__") (some (some (.builtin "BaseException.__getattribute__"))) && (He.eqO (PySem.W.findIn K (.ref (He.ga K x)) "__getattr__") (some none) &&
  (decide (PySem.W.subIn K (.ref (He.ga K x)) (.type "BaseException") = some true) && (PySem.W.hasDictIn K (He.ga K x) && (He.eqO (PySem.W.findIn K (.ref (He.ga K x)) "__class__") (some (some (.builtin "object.__class__"))) &&
  (He.eqO (PySem.W.specialIn K (.builtin "object.__class__") "__get__") (some (some (.builtin "getset_descriptor.__get__"))) && (decide (PySem.W.takesIn K (.builtin "object.__class__") = some true) && decide (PySem.W.mroIn K (He.ga K x) (.type "object") = some true)))))))
theorem excCB_ok {K : PySem.W.Frag} {x : Str} (h : excCB K x = true) : ExcC K (He.ga K x) := by
  unfold excCB at h
  simp only [Bool.and_eq_true, decide_eq_true_eq] at h
  obtain ⟨h1, h2, h3, h4, h5, h6, h7, h8⟩ := h
  exact ⟨He.eqO_ok h1, He.eqO_ok h2, h3, h4, He.eqO_ok h5, He.eqO_ok h6, h7, h8⟩
def kitB2 (K : PySem.W.Frag) (x y : Str) (b : Bool) : Bool := decide (PySem.W.kitOne K (.ref (He.ga K x)) (.ref (He.ga K y)) = some b)
theorem kitB2_ok {K : PySem.W.Frag} {x y : Str} {b : Bool} (h : kitB2 K x y b = true) : PySem.W.kitOne K (.ref (He.ga K x)) (.ref (He.ga K y)) = some b := of_decide_eq_true h
/-- isinstance(e, c), e the exception that the suite holds; of its class it is asked that it is the one -/
def rIsX (K : PySem.W.Frag) (D : Addr) (a : Addr) (cls : Value) (d : Option Addr) : List V → Hp → VK → Prop := fun xs H Q => cls = .ref D ∧ d = none ∧ rIsE K D a xs H Q
theorem call_isX {X : Cx} {K : PySem.W.Frag} {a D : Addr} {oe : Obj} {cls : Value} {d : Option Addr} {pn : List (Addr × Obj)} (hK : X.K = K) (C : ExcC K D) (hz : Zc cls d oe) (hf : ∃ vs, oe.data = .fields vs) : CallR (X.suite a ((a, oe) :: pn)) (.builtin "isinstance") (rIsX K D a cls d) := by
  subst hK
  intro pins s σ H xs us Q I r h
  obtain ⟨rfl, rfl, h⟩ := h
  exact call_isE C hz hf pins s σ H xs us Q I r h
theorem Top.exc {fa : List He.Fa} {fn : List He.DefD} {K : PySem.W.Frag} {mg : Str → Option Value} (T : Top fa fn K mg) (i : Nat) {x : Str} (h : fa[i]? = some (.exc x) := by rfl) : PySem.W.excIn K (He.ga K x) He.veBase "ValueError.__new__" = true ∧ PySem.W.keepIn K (.ref (He.ga K x)) = true ∧ PySem.W.subIn K (.ref (He.ga K x)) (.type "BaseException") = some true ∧
    PySem.W.typeIn K (.ref (He.ga K x)) = some (.type "type") := He.exc_ok (T.c.fact i h)
theorem passE {X : Cx} {E : XK} (tk : Takes X (fun cls d _ H => E cls d H)) : ∀ σ : Stt, PassesAt (L2.CX X.prog X.w) X σ ((fun _ => E) σ) := fun σ pins H s e s' I c => passes_call tk (fun _ _ _ _ h => h) pins σ H s e s' I c
section
variable {C : Ct} {e : En} {d : PyData} {te : TE} {D : Ends}
/-- raise X(e) -/
def tRaise1 (E : XK) (c : Addr) (te : TE) : TS := fun _ σ H => te σ H fun _ H1 => E (.ref c) none H1
theorem r_raise {E : XK} {c : Addr} (h : EvE C te e d) (k : ∀ σ F2 H2, Good C e σ F2 H2 → E (.ref c) none H2) : Run C e (fun σ H => te σ H fun _ H1 => E (.ref c) none H1) := fun σ F H gd => h σ F H gd _ fun v F2 H2 w r => k σ F2 H2 (gd.grow w)
end
/-- an instance with one field that holds a list of data -/
def Ow.box (K : PySem.W.Frag) (A : Addr) (fld : Str) (ds : List PyData) : Ow :=
  ⟨fun a F h => ∃ dx l xs, dx ≠ a ∧ l ≠ a ∧ l ≠ dx ∧ h = upd (upd (sing dx (.own a)) a (.ins A dx [(fld, .ref l)])) l (.lst xs) ∧ DpAll K F xs ds,
    fun a F F2 h w ⟨dx, l, xs, n1, n2, n3, e, r⟩ => ⟨dx, l, xs, n1, n2, n3, e, dps_mono w ds xs r⟩⟩
theorem box_ins {K : PySem.W.Frag} {A : Addr} {fld m : Str} {ds : List PyData} (hm : (m == fld) = false) : IsIns (Ow.box K A fld ds) A m := fun a F h ⟨dx, l, xs, n1, n2, n3, e, r⟩ =>
  ⟨dx, [(fld, .ref l)], by rw [e, upd_ne (Ne.symm n2), upd_same], by rw [List.lookup_cons, hm]; rfl⟩
section
variable {C : Ct} {e : En} {d : PyData} {ds : List PyData} {te : TE} {D : Ends} {A : Addr} {fld : Str}
theorem box_at {σ : Stt} {F H : Hp} {i j : Nat} (hi : e.s[i]? = some (.o j)) (hj : e.o[j]? = some (Ow.box C.K A fld ds)) (gd : Good C e σ F H) : ∃ a dx l xs, σ[i]? = some (some (.ref a)) ∧ H a = some (.ins A dx [(fld, .ref l)]) ∧ H l = some (.lst xs) ∧ DpAll C.K F xs ds ∧
    ∀ F2 H2, Grow F H F2 H2 → ∀ xs2 ds2, DpAll C.K F2 xs2 ds2 → Good C ⟨e.s, e.o.set j (Ow.box C.K A fld ds2), e.g⟩ σ F2 (upd H2 l (.lst xs2)) := by
  obtain ⟨as, hs, pa⟩ := gd.parts
  have hi' : i < σ.length := Nat.lt_of_lt_of_le (List.getElem?_eq_some_iff.mp hi).1 pa.len
  obtain ⟨a, ea, eas⟩ := pa.slot i _ _ hi (List.getElem?_eq_getElem hi')
  have hjl : j < hs.length := by rw [pa.lh]; exact (List.getElem?_eq_some_iff.mp hj).1
  have hjh := List.getElem?_eq_getElem hjl
  obtain ⟨dx, l, xs, n1, n2, n3, eh, rx⟩ := pa.obj j a _ _ eas hjh hj
  refine ⟨a, dx, l, xs, by rw [List.getElem?_eq_getElem hi', ea], pa.sub j _ hjh a _ (by rw [eh, upd_ne (Ne.symm n2), upd_same]), pa.sub j _ hjh l _ (by rw [eh, upd_same]), rx, fun F2 H2 w xs2 ds2 r2 => ?_⟩
  refine (gd.grow w).write (o' := Ow.box C.K A fld ds2) as hs (pa.grow w) _ hjh (by rw [eh, upd_same]; rfl) fun b hb => ?_
  rw [eas] at hb
  cases hb
  exact ⟨dx, l, xs2, n1, n2, n3, by rw [eh, upd_upd], r2⟩
theorem fld_look {K : PySem.W.Frag} {fld : Str} {v : V} : ([(fld, v)] : List (Str × V)).lookup fld = some v := by rw [List.lookup_cons]; simp
/-- self.xs.append(e) -/
theorem r_boxApp {i j : Nat} (cl : Cls C.K A) (na : NoAttr C.K A fld) (hi : e.s[i]? = some (.o j)) (hj : e.o[j]? = some (Ow.box C.K A fld ds)) (h : EvE C te e d) (hl : ds.length < 100000) (k : Run C ⟨e.s, e.o.set j (Ow.box C.K A fld (ds ++ [d])), e.g⟩ D.nx) :
    Run C e (tDrop (tBM C.K "list" rAppend (tFld C.K (tVar i) fld) (tCons te tNil)) D) := fun σ F H gd => by
  obtain ⟨a, dx, l, xs, e1, e2, e3, rx, wr⟩ := box_at hi hj gd
  refine ⟨.ref a, e1, a, A, dx, _, _, rfl, e2, cl, na, fld_look (K := C.K), .inl ⟨rfl, xs, Evl.sq_of e3⟩, h σ F H gd _ fun v F2 H2 w r => ?_⟩
  exact ⟨l, xs, v, rfl, rfl, w.h _ _ e3, Evl.sz_lt (by rw [dps_len rx]; exact hl), k σ F2 _ (wr F2 H2 w _ _ (dps_app (dps_mono w.f _ _ rx) (.cons r .nil)))⟩
/-- list(self.xs) -/
theorem ee_boxList {i j : Nat} (cl : Cls C.K A) (na : NoAttr C.K A fld) (hi : e.s[i]? = some (.o j)) (hj : e.o[j]? = some (Ow.box C.K A fld ds)) : EvE C (tCB (rListA C.K) (tCons (tFld C.K (tVar i) fld) tNil)) e (.list ds) := fun σ F H gd Q q => by
  obtain ⟨a, dx, l, xs, e1, e2, e3, rx, wr⟩ := box_at hi hj gd
  exact ⟨.ref a, e1, a, A, dx, _, _, rfl, e2, cl, na, fld_look (K := C.K), l, xs, rfl, .inl (Evl.sq_of e3), fun p hp => q _ _ _ (Grow.alloc gd.fh hp) (.lst (Evl.sq_of upd_same) (dps_mono (Evl.Ex.new (ex_none gd.fh hp)) _ _ rx))⟩
theorem ee_boxLen {i j : Nat} (cl : Cls C.K A) (na : NoAttr C.K A fld) (hi : e.s[i]? = some (.o j)) (hj : e.o[j]? = some (Ow.box C.K A fld ds)) : EvE C (tCB (rLenA C.K) (tCons (tFld C.K (tVar i) fld) tNil)) e (.int ds.length) := fun σ F H gd Q q => by
  obtain ⟨a, dx, l, xs, e1, e2, e3, rx, wr⟩ := box_at hi hj gd
  exact ⟨.ref a, e1, a, A, dx, _, _, rfl, e2, cl, na, fld_look (K := C.K), _, xs.length, rfl, .inl ⟨xs, Evl.sq_of e3, rfl⟩, by rw [dps_len rx]; exact q _ F H (Grow.refl gd.fh) (.int _)⟩
theorem ee_boxIx {i j : Nat} {n : Int} (cl : Cls C.K A) (na : NoAttr C.K A fld) (hi : e.s[i]? = some (.o j)) (hj : e.o[j]? = some (Ow.box C.K A fld ds)) (h : EvE C te e (.int n)) (hk : atI ds n = some d) : EvE C (tOp (rIx C.K) (tFld C.K (tVar i) fld) te) e d := fun σ F H gd Q q => by
  obtain ⟨a, dx, l, xs, e1, e2, e3, rx, wr⟩ := box_at hi hj gd
  refine ⟨.ref a, e1, a, A, dx, _, _, rfl, e2, cl, na, fld_look (K := C.K), h σ F H gd _ fun v F2 H2 w r => ?_⟩
  cases r
  obtain ⟨u, e4, r2⟩ := dps_atI rx hk
  exact .inl ⟨l, xs, n, u, rfl, rfl, Evl.sq_of (w.h _ _ e3), e4, q u F2 H2 w (dp_mono w.f _ _ r2)⟩
theorem x_boxPop {i j k : Nat} (cl : Cls C.K A) (na : NoAttr C.K A fld) (hi : e.s[i]? = some (.o j)) (hj : e.o[j]? = some (Ow.box C.K A fld ds)) (h : EvE C te e (.int (k : Int))) (hk : ds[k]? = some d) (hz : ds.length ≤ 1000000) :
    EvX C (tBM C.K "list" rPopAt (tFld C.K (tVar i) fld) (tCons te tNil)) e d ⟨e.s, e.o.set j (Ow.box C.K A fld (ds.eraseIdx k)), e.g⟩ := fun σ F H gd Q q => by
  obtain ⟨a, dx, l, xs, e1, e2, e3, rx, wr⟩ := box_at hi hj gd
  refine ⟨.ref a, e1, a, A, dx, _, _, rfl, e2, cl, na, fld_look (K := C.K), .inl ⟨rfl, xs, Evl.sq_of e3⟩, h σ F H gd _ fun v F2 H2 w r => ?_⟩
  cases r
  have hk1 : k < ds.length := (List.getElem?_eq_some_iff.mp hk).1
  have lx := dps_len rx
  obtain ⟨u, eu, ru⟩ := dps_get rx hk
  exact ⟨l, xs, (k : Int), k, u, rfl, rfl, w.h _ _ e3, by omega, by omega, (ixN_seq (n := xs.length) (i := (k : Int)) (j := k) (Evl.ixN_nat (by omega))).1, eu, q u F2 _ w.f (wr F2 H2 w _ _ (dps_erase (dps_mono w.f _ _ rx) k)) (dp_mono w.f _ _ ru)⟩
/-- self.xs = [], in __init__ of a bare instance -/
theorem r_boxInit {i j : Nat} (cl : Cls C.K A) (na : NoAttr C.K A fld) (hi : e.s[i]? = some (.o j)) (hj : e.o[j]? = some (Ow.raw A)) (k : Run C ⟨e.s, e.o.set j (Ow.box C.K A fld []), e.g⟩ D.nx) : Run C e (sFld C.K (tVar i) (tLst tNil) fld D) := fun σ F H gd => by
  obtain ⟨as, hs, pa⟩ := gd.parts
  have hi' : i < σ.length := Nat.lt_of_lt_of_le (List.getElem?_eq_some_iff.mp hi).1 pa.len
  obtain ⟨a, ea, eas⟩ := pa.slot i _ _ hi (List.getElem?_eq_getElem hi')
  have hjl : j < hs.length := by rw [pa.lh]; exact (List.getElem?_eq_some_iff.mp hj).1
  have hjh := List.getElem?_eq_getElem hjl
  obtain ⟨dx, n1, eh⟩ := pa.obj j a _ _ eas hjh hj
  have hHa : H a = some (.ins A dx []) := pa.sub j _ hjh a _ (by rw [eh, upd_same])
  refine ⟨by decide, fun p hp => ⟨.ref a, by rw [List.getElem?_eq_getElem hi', ea], a, A, dx, [], rfl, by rw [upd_ne (ne_of_none hHa hp)]; exact hHa, cl, na, by decide, ?_⟩⟩
  -- the object's own part grows by the new list
  have npa : p ≠ a := fun z => by rw [z, hHa] at hp; cases hp
  have hHd : H dx = some (.own a) := pa.sub j _ hjh dx _ (by rw [eh, upd_ne n1]; exact sing_same)
  have npd : p ≠ dx := fun z => by rw [z, hHd] at hp; cases hp
  refine k σ F _ ?_
  have hF : F p = none := ex_none gd.fh hp
  have hR : C.R p = none := ex_none gd.rh hp
  have nFa : F a = none := (pa.dF j _ hjh).symm a _ (by rw [eh, upd_same])
  have nRa : C.R a = none := (pa.dR j _ hjh).symm a _ (by rw [eh, upd_same])
  let h2 : Hp := upd (upd (sing dx (.own a)) a (.ins A dx [(fld, .ref p)])) p (.lst [])
  have exU : ∀ {X : Hp}, Ex X H → X a = none → Ex X (upd (upd H p (.lst [])) a (.ins A dx (putF fld (.ref p) []))) := fun {X} k m b v hb => by
    rw [upd_ne (ne_of_none hb m), upd_ne (ne_of_none (k b v hb) hp)]; exact k b v hb
  have h2in : ∀ b u, h2 b = some u → b = p ∨ ∃ u', hs[j] b = some u' := fun b u hb => by
    by_cases hbp : b = p
    · exact .inl hbp
    · have hb' : upd (sing dx (.own a)) a (.ins A dx [(fld, .ref p)]) b = some u := by
        have := hb; show _ = _; rw [show h2 = upd (upd (sing dx (.own a)) a (.ins A dx [(fld, .ref p)])) p (.lst []) from rfl, upd_ne hbp] at this; exact this
      refine .inr ?_
      rw [eh]
      by_cases hba : b = a
      · subst hba; exact ⟨_, upd_same⟩
      · rw [upd_ne hba] at hb' ⊢; exact ⟨u, hb'⟩
  have at_ : ∀ (n : Nat) (k : Hp), (hs.set j h2)[n]? = some k → (n = j ∧ k = h2) ∨ (n ≠ j ∧ hs[n]? = some k) := fun n k q => by
    by_cases hn : j = n
    · subst hn
      rw [List.getElem?_set_self hjl] at q
      exact .inl ⟨rfl, (Option.some.inj q).symm⟩
    · rw [List.getElem?_set_ne hn] at q
      exact .inr ⟨Ne.symm hn, q⟩
  have d2 : ∀ {X : Hp}, Disj X hs[j] → X p = none → Disj X h2 := fun {X} dj m => Disj.symm fun b u hb => by
    rcases h2in b u hb with z | ⟨u', z⟩
    · rw [z]; exact m
    · exact dj.symm b u' z
  have nO : ∀ (n : Nat) (k : Hp), n ≠ j → hs[n]? = some k → k a = none := fun n k nj q => (pa.dd j n _ k (Ne.symm nj) hjh q) a _ (by rw [eh, upd_same])
  refine ⟨gd.ff, exU gd.rh nRa, exU gd.fh nFa, gd.fnew, as, hs.set j h2, pa.len, pa.slot, by simp [pa.la], by simp [pa.lh], fun n b k o h1 h3 h4 => ?_, fun n k q => ?_, fun n k q => ?_, fun n k q => ?_, fun n m k l nm q1 q2 => ?_, pa.gh⟩
  · rcases at_ n k h3 with ⟨rfl, rfl⟩ | ⟨nj, q⟩
    · have h4' : (e.o.set n (Ow.box C.K A fld []))[n]? = some o := h4
      rw [List.getElem?_set_self (by rw [← pa.lh]; exact hjl)] at h4'
      cases h4'
      rw [eas] at h1
      cases h1
      exact ⟨dx, p, [], n1, npa, npd, rfl, .nil⟩
    · have h4' : (e.o.set j (Ow.box C.K A fld []))[n]? = some o := h4
      rw [List.getElem?_set_ne (Ne.symm nj)] at h4'
      exact pa.obj n b k o h1 q h4'
  · rcases at_ n k q with ⟨rfl, rfl⟩ | ⟨nj, q⟩
    · intro b u hb
      have hb0 := hb
      show upd (upd H p (.lst [])) a (.ins A dx (putF fld (.ref p) [])) b = some u
      by_cases hba : b = a
      · subst hba
        rw [upd_same]
        have : h2 b = some (.ins A dx [(fld, .ref p)]) := by
          show upd (upd (sing dx (.own b)) b (.ins A dx [(fld, .ref p)])) p (.lst []) b = _
          rw [upd_ne (Ne.symm npa), upd_same]
        rw [this] at hb
        rw [← hb]; rfl
      · rw [upd_ne hba]
        by_cases hbp : b = p
        · subst hbp
          rw [upd_same]
          have : h2 b = some (.lst []) := upd_same
          rw [this] at hb
          exact hb
        · rw [upd_ne hbp]
          have : h2 b = sing dx (.own a) b := by
            show upd (upd (sing dx (.own a)) a (.ins A dx [(fld, .ref p)])) p (.lst []) b = _
            rw [upd_ne hbp, upd_ne hba]
          rw [this] at hb
          obtain ⟨rfl, rfl⟩ := sing_at hb
          exact hHd
    · exact exU (pa.sub n k q) (nO n k nj q)
  · rcases at_ n k q with ⟨rfl, rfl⟩ | ⟨nj, q⟩
    · exact d2 (pa.dF n _ hjh) hF
    · exact pa.dF n k q
  · rcases at_ n k q with ⟨rfl, rfl⟩ | ⟨nj, q⟩
    · exact d2 (pa.dR n _ hjh) hR
    · exact pa.dR n k q
  · rcases at_ n k q1 with ⟨e1, e2⟩ | ⟨nj, p1⟩
    · rcases at_ m l q2 with ⟨e3, e4⟩ | ⟨mj, p2⟩
      · exact absurd (e1.trans e3.symm) nm
      · rw [e2]
        exact (d2 (pa.dd j m _ l (Ne.symm mj) hjh p2).symm (ex_none (pa.sub m l p2) hp)).symm
    · rcases at_ m l q2 with ⟨e3, e4⟩ | ⟨mj, p2⟩
      · rw [e4]
        exact d2 (pa.dd n j k _ nj p1 hjh) (ex_none (pa.sub n k p1) hp)
      · exact pa.dd n m k l nm p1 p2
end
end LH
namespace LH
open PySem L2 PySem.Spec PyProof.Rows
structure MkOk (P : Program) (w : World) (K : PySem.W.Frag) (mg : Str → Option Value) (base : Heap) (CX : CXT) (k : Nat) (x : Str) (A : Addr) (ps : List Str) (sp : Sp) : Prop where
  gl : mg x = some (.ref A)
  ex : ∃ f fd, Mk K A f ∧ Binds K fd ps [] ∧ FnOk P w K mg base CX k f fd ps sp
section
variable {X : Cx} {CX : CXT} {k : Nat} {A : Addr} {ps : List Str} {sp : Sp} {E : XK} {x : Str} {p pos : Pos} {K : PySem.W.Frag}
theorem pe_makeC (c : MkOk X.prog X.w X.K X.mg X.base CX k x A ps sp) (hr : Room (k + 1) X.A) (hx : Passes CX X E) (hg : Gl X x) (hdb : (x == ("__debug__" : Str)) = false := by decide) : PE X (.Call (.Name x p) [] [] pos) (tMake A sp [] E tNil) := by
  obtain ⟨f, fd, hM, hb, F⟩ := c.ex
  exact pe_make0 hM F hr hg c.gl hb .nil hx hdb
theorem call_listK (hK : X.K = K) : CallR X (.type "list") (rListA K) := by subst hK; exact call_list_of
end
section
variable {C : Ct} {e e' : En} {d : PyData} {te tx : TE}
theorem x_isi {T : String} {b : Bool} (h : EvX C te e d e') (ht : ∀ (σ : L2.St) (H : Hp) (Q : VK), Q (.ty T) H → tx σ H Q) (hk : kitB (tyD d) T = some b) : EvX C (tCB (rIsi C.K) (tCons te (tCons tx tNil))) e (.bool b) e' := fun σ F H g Q q =>
  h σ F H g _ fun v F1 H1 w1 g1 d1 => ht σ H1 _ ⟨v, .ty T, .type (tyD d), .type T, b, rfl, .ty T, dp_ty g1.fh d1, kit_ty hk, q _ F1 H1 w1 g1 (.bl _)⟩
end
end LH
namespace LH
open PySem L2 PySem.Spec PyProof.Rows
section
variable {C : Ct} {e : En} {d : PyData} {D : Ends}
/-- o.m(..) that raises: as an expression, at a wish that nothing is asked of -/
theorem mx_err {f : SpR} {tr : TA} {sl : List Sl} {A : Addr} {m : Str} {i j : Nat} {o : Ow} {E : Stt → XK} {c : Addr} (sl0 : List Sl) (js : List Nat) (os os' : List Ow) (hi : e.s[i]? = some (.o j)) (ho : e.o[j]? = some o) (hI : IsIns o A m) (h : SvA C tr e sl) (hf : f sl0 os (.err c) os') (k : ∀ σ F2 H2, Good C ⟨e.s, putO e.o js os', e.g⟩ σ F2 H2 → E σ (.ref c) none H2) (hsl : .o j :: sl = sl0.map (ren js) := by rfl) (hos : js.map (fun j => e.o[j]?) = os.map some := by rfl) (hl' : os'.length = js.length := by rfl)
    (hj : js.Nodup := by decide) (hall : ((List.range js.length).all fun i => hasO sl0 i) = true := by rfl) (hbd : inO sl0 js.length = true := by rfl) : ∀ σ F H, Good C e σ F H → ∀ Q : VK, tMethS A m (spO C.K f) E (tVar i) tr σ H Q :=
  fun σ F H gd Q => meth_x sl0 js os os' hi ho hI h hf hsl hos hl' hj hall hbd σ F H gd Q E fun F2 H2 _ g2 => k σ F2 H2 g2
theorem r_dropErr {te : TE} (h : ∀ σ F H, Good C e σ F H → ∀ Q : VK, te σ H Q) : Run C e (tDrop te D) := fun σ F H gd => h σ F H gd _
end
end LH
namespace LH
open PySem L2 PySem.Spec PyProof.Rows
/-- except X as n: return isinstance(n, Y), at an exception of X -/
theorem exc_is {C : Ct} {e : En} {D : Ends} {σ : Stt} {F H : Hp} {i : Nat} {A B : Addr} {W : WX} (gd : Good C e σ F H) (hi : i < e.s.length) (hx : PySem.W.exmOne C.K (.ref A) (.ref A) = some true) (hk : PySem.W.kitOne C.K (.ref A) (.ref B) = some true) (hR : RetE C e D (.bool true)) :
    WE (wAs C.K (.ref A) i (fun a cls d => tRet (tCB (rIsX C.K A a cls d) (tCons (tVar i) (tCons (tC (.ref B)) tNil)))) W D) σ (.ref A) none H := by
  refine ⟨true, hx, fun _ a ha => ?_, fun h => by cases h⟩
  obtain ⟨as, hs, p⟩ := gd.parts
  have hl : i < σ.length := Nat.lt_of_lt_of_le hi p.len
  refine ⟨.ref a, by rw [List.getElem?_set_self hl], ?_⟩
  refine ⟨rfl, rfl, .ref B, .ref B, true, rfl, fun u h => h, hk, ?_⟩
  exact hR σ (.bl true) F H gd (.bl _)
end LH
namespace LH
open PySem L2 PySem.Spec PyProof.Rows
section
variable {C : Ct} {e e' : En} {ta tb : TE}
theorem x_andVT {c : Bool} (h1 : EvE C ta e (.bool true)) (h2 : EvX C tb e (.bool c) e') : EvX C (tAndV ta tb) e (.bool c) e' := fun σ F H g Q q => h1 σ F H g _ fun v F1 H1 w1 d1 => ⟨true, dp_bool d1, by
  show tb σ H1 Q
  exact h2 σ F1 H1 (g.grow w1) Q fun v F2 H2 w2 g2 d2 => q v F2 H2 (ex_trans w1.f w2) g2 d2⟩
end
end LH

set_option maxHeartbeats 1000000
/-! zip of two sequences, each of them a list or a tuple -/
namespace LH
open PySem
section
/-- b: a tuple, else a list -/
def ItB (b : Bool) (h : Heap) (it src : Addr) (n : Nat) : Prop := match b with
  | true => h.IsTupleIter it src n
  | false => h.IsListIter it src n
def SqB (b : Bool) (h : Heap) (src : Addr) (items : Array Value) : Prop := match b with
  | true => h.IsTuple src items
  | false => h.IsList src items
theorem ItB.keep {b : Bool} {h h' : Heap} {it src c : Addr} {n : Nat} (k : ItB b h it src n) (x : Heap.ExtBut c h h') (ne : it ≠ c) : ItB b h' it src n := by
  cases b with
  | true => exact Heap.IsTupleIter.extBut k x ne
  | false => exact Heap.IsListIter.extBut k x ne
theorem ItB.at {b : Bool} {h h' : Heap} {it src : Addr} {n : Nat} (k : ItB b h it src n) (x : ∀ o, h.get? it = some o → h'.get? it = some o) : ItB b h' it src n := by
  cases b with
  | true => exact Heap.IsTupleIter.at k x
  | false => exact Heap.IsListIter.at k x
theorem ItB.lt {b : Bool} {h : Heap} {it src : Addr} {n : Nat} (k : ItB b h it src n) : it < h.objs.size := by
  cases b with
  | true => obtain ⟨_, q, _⟩ := k; exact Heap.lt_size q
  | false => obtain ⟨_, q, _⟩ := k; exact Heap.lt_size q
theorem SqB.keep {b : Bool} {h h' : Heap} {src c : Addr} {items : Array Value} (k : SqB b h src items) (x : Heap.ExtBut c h h') (ne : src ≠ c) : SqB b h' src items := by
  cases b with
  | true => exact Heap.IsTuple.extBut k x ne
  | false => exact Heap.IsList.extBut k x ne
theorem SqB.push {b : Bool} {h : Heap} {src : Addr} {items : Array Value} (k : SqB b h src items) (o : Obj) : SqB b (h.push o) src items := by
  cases b with
  | true => exact Heap.IsTuple.push k o
  | false => exact Heap.IsList.push k o
variable {prog : Program} {w : World} {A : Around} {E : Value → Shared → Prop} {s : Shared}
theorem next_some {b : Bool} {it src : Addr} {n : Nat} {items : Array Value} {x : Value} {Q : Value → Shared → Prop} (ki : ItB b s.heap it src n) (ks : SqB b s.heap src items) (hx : items[n]? = some x)
    (q : ∀ h', ItB b h' it src (n + 1) → Heap.SameBut it s.heap h' → Q x { s with heap := h' }) : wpAny (model prog w) A (Builtin.SmallTypes.nextOf (.ref it)) Q E s := by
  cases b with
  | true => exact RZ.nextOf_tuple_item ki ks hx q
  | false => exact wpAny_nextOf_list_item ki ks hx q
theorem next_none {b : Bool} {it src : Addr} {n : Nat} {items : Array Value} {Q : Value → Shared → Prop} (hh : A.handled = none) (ki : ItB b s.heap it src n) (ks : SqB b s.heap src items) (hx : items[n]? = none)
    (q : ∀ h' e, Heap.ExtBut it s.heap h' → (∃ o, h'.get? e = some o ∧ o.cls = .type "StopIteration") → E (.ref e) { s with heap := h' }) : wpAny (model prog w) A (Builtin.SmallTypes.nextOf (.ref it)) Q E s := by
  cases b with
  | true => exact RZ.nextOf_tuple_end hh ki ks hx q
  | false => exact wpAny_nextOf_list_end hh ki ks hx q
/-- the parts of a zip as they stand -/
structure Zst (b c : Bool) (h : Heap) (zz ti to p1 p2 s1 s2 : Addr) (n1 n2 : Nat) (us vs : Array Value) (ua va : Value) : Prop where
  z : IsZip h zz ti to .none
  t : IsPair h ti (.ref p1) (.ref p2)
  o : IsPair h to ua va
  i1 : ItB b h p1 s1 n1
  i2 : ItB c h p2 s2 n2
  q1 : SqB b h s1 us
  q2 : SqB c h s2 vs
variable {b c : Bool} {zz ti to p1 p2 s1 s2 : Addr} {n1 n2 : Nat} {us vs : Array Value} {ua va : Value}
theorem zipB_some {x y : Value} {Q : Value → Shared → Prop} (D : ZipApart zz ti to p1 p2 s1 s2) (Z : Zst b c s.heap zz ti to p1 p2 s1 s2 n1 n2 us vs ua va) (hx : us[n1]? = some x) (hy : vs[n2]? = some y)
    (q : ∀ h', IsZip h' zz ti to (rawInt s.heap.objs.size) → IsPair h' to x y → ItB b h' p1 s1 (n1 + 1) → ItB c h' p2 s2 (n2 + 1) → IsPair h' s.heap.objs.size x y → h'.objs.size = s.heap.objs.size + 1 →
      (∀ a o, a ≠ zz → a ≠ to → a ≠ p1 → a ≠ p2 → s.heap.get? a = some o → h'.get? a = some o) → Q (.ref s.heap.objs.size) { s with heap := h' }) :
    wpAny (model prog w) A (Builtin.«zip.__next__» ⟨[.ref zz], []⟩) (fun fin s' => ∃ v, fin = .done (.ret v) ∧ Q v s') E s := by
  show wpAny _ _ (field (.ref zz) 2 >>= _) _ _ _
  refine wpAny_bind (wpAny_field Z.z rfl (x := .bool false) rfl ?_)
  show wpAny _ _ (field (.ref zz) 3 >>= _) _ _ _
  refine wpAny_bind (wpAny_field Z.z rfl (x := .ref ti) rfl (wpAny_bind (wpAny_seqItems Z.t rfl ?_)))
  show wpAny _ _ (Builtin.SmallTypes.ownedTupleIsFree (.ref zz) >>= _) _ _ _
  refine wpAny_bind ?_; unfold Builtin.SmallTypes.ownedTupleIsFree
  refine wpAny_bind (wpAny_field Z.z rfl (x := .none) rfl (wpAny_pure ?_)); simp only [if_true]
  refine wpAny_bind (wpAny_rule (wpAny_bind (wpAny_field Z.z rfl (x := .ref to) rfl ?_)))
  refine wpAny_bind (wpAny_setField_rec Z.z (by simp) fun ha za sa => ?_)
  have za' : IsZip ha zz ti to .ellipsis := za
  refine wpAny_bind ?_; simp only [List.zipIdx_cons, List.zipIdx_nil, List.forIn_cons, List.forIn_nil]
  refine wpAny_bind (wpAny_bind (wpAny_onRaise ?_)); show wpAny _ _ (Builtin.SmallTypes.nextOf (.ref p1) >>= _) _ _ _
  refine wpAny_bind (next_some (Z.i1.keep sa.extBut D.i1z) (Z.q1.keep sa.extBut D.l1z) hx fun hb ib sb => wpAny_pure ?_)
  have ob : IsPair hb to ua va := sb.extBut _ _ D.TOi1 (sa.extBut _ _ D.TOz Z.o)
  refine wpAny_bind (wpAny_seqItems ob rfl (wpAny_bind (wpAny_updateSeq_pair ob fun hc oc sc => ?_)))
  have oc' : IsPair hc to x va := oc
  refine wpAny_bind (wpAny_letGo (wpAny_pure ?_))
  refine wpAny_bind (wpAny_bind (wpAny_onRaise ?_)); show wpAny _ _ (Builtin.SmallTypes.nextOf (.ref p2) >>= _) _ _ _
  have i2c : ItB c hc p2 s2 n2 := ((Z.i2.keep sa.extBut D.i2z).keep sb.extBut D.i12.symm).keep sc.extBut D.TOi2.symm
  have q2c : SqB c hc s2 vs := ((Z.q2.keep sa.extBut D.l2z).keep sb.extBut D.l2i1).keep sc.extBut D.l2TO
  refine wpAny_bind (next_some i2c q2c hy fun hd id2 sd => wpAny_pure ?_)
  have od : IsPair hd to x va := sd.extBut _ _ D.TOi2 oc'
  refine wpAny_bind (wpAny_seqItems od rfl (wpAny_bind (wpAny_updateSeq_pair od fun he oe se => ?_)))
  have oe' : IsPair he to x y := oe
  refine wpAny_bind (wpAny_letGo (wpAny_pure (wpAny_pure (wpAny_bind (wpAny_seqItems oe' rfl (wpAny_bind (wpAny_newTuple ?_)))))))
  have size : he.objs.size = s.heap.objs.size := by rw [se.1, sd.1, sc.1, sb.1, sa.1]
  have ze : IsZip he zz ti to .ellipsis := se.extBut _ _ D.TOz.symm (sd.extBut _ _ D.i2z.symm (sc.extBut _ _ D.TOz.symm (sb.extBut _ _ D.i1z.symm za')))
  have ke : ∀ a o, a ≠ zz → a ≠ to → a ≠ p1 → a ≠ p2 → s.heap.get? a = some o → he.get? a = some o := fun a o c1 c2 c3 c4 e => se.extBut _ _ c2 (sd.extBut _ _ c4 (sc.extBut _ _ c2 (sb.extBut _ _ c3 (sa.extBut _ _ c1 e))))
  have i1e : ItB b he p1 s1 (n1 + 1) := ((ib.keep sc.extBut D.TOi1.symm).keep sd.extBut D.i12).keep se.extBut D.TOi1.symm
  have i2e : ItB c he p2 s2 (n2 + 1) := id2.keep se.extBut D.TOi2.symm
  have ltz : zz < he.objs.size := Heap.lt_size ze
  have lto : to < he.objs.size := Heap.lt_size oe'
  show wpAny _ _ (Builtin.SmallTypes.ownedTupleHandOut (.ref zz) (.ref he.objs.size) >>= _) _ _ _
  refine wpAny_bind ?_; unfold Builtin.SmallTypes.ownedTupleHandOut
  have zf : IsZip (he.push { cls := .type "tuple", data := .seq #[x, y] }) zz ti to .ellipsis := Heap.get?_push_of_some _ ze
  refine wpAny_bind (wpAny_setField_rec zf (by simp) fun hg zg sg => ?_)
  have zg' : IsZip hg zz ti to (rawInt he.objs.size) := zg
  refine wpAny_setField_rec zg' (by simp) fun hi zi si => ?_
  have zi' : IsZip hi zz ti to (rawInt he.objs.size) := zi
  have up : ∀ a o, a ≠ zz → he.get? a = some o → hi.get? a = some o := fun a o c1 e => si.extBut _ _ c1 (sg.extBut _ _ c1 (Heap.get?_push_of_some _ e))
  have pr : IsPair hi he.objs.size x y := si.extBut _ _ (Nat.ne_of_gt ltz) (sg.extBut _ _ (Nat.ne_of_gt ltz) (Heap.get?_push_size _ rfl))
  have sz : hi.objs.size = he.objs.size + 1 := by rw [si.1, sg.1, Heap.size_push]
  rw [size] at zi' pr sz
  refine wpAny_pure ⟨_, rfl, ?_⟩
  show Q (.ref he.objs.size) _
  rw [size]
  exact q hi zi' (up _ _ D.TOz oe') (i1e.at fun o e => up _ o D.i1z e) (i2e.at fun o e => up _ o D.i2z e) pr sz fun a o c1 c2 c3 c4 e => up a o c1 (ke a o c1 c2 c3 c4 e)
theorem zipB_none {Q : Fin → Shared → Prop} (hh : A.handled = none) (D : ZipApart zz ti to p1 p2 s1 s2) (Z : Zst b c s.heap zz ti to p1 p2 s1 s2 n1 n2 us vs ua va) (hend : us[n1]? = none ∨ vs[n2]? = none)
    (q : ∀ h' e, (∀ a o, a ≠ zz → a ≠ to → a ≠ p1 → a ≠ p2 → s.heap.get? a = some o → h'.get? a = some o) → (∃ o, h'.get? e = some o ∧ o.cls = .type "StopIteration") → E (.ref e) { s with heap := h' }) :
    wpAny (model prog w) A (Builtin.«zip.__next__» ⟨[.ref zz], []⟩) Q E s := by
  show wpAny _ _ (field (.ref zz) 2 >>= _) _ _ _
  refine wpAny_bind (wpAny_field Z.z rfl (x := .bool false) rfl ?_)
  show wpAny _ _ (field (.ref zz) 3 >>= _) _ _ _
  refine wpAny_bind (wpAny_field Z.z rfl (x := .ref ti) rfl (wpAny_bind (wpAny_seqItems Z.t rfl ?_)))
  show wpAny _ _ (Builtin.SmallTypes.ownedTupleIsFree (.ref zz) >>= _) _ _ _
  refine wpAny_bind ?_; unfold Builtin.SmallTypes.ownedTupleIsFree
  refine wpAny_bind (wpAny_field Z.z rfl (x := .none) rfl (wpAny_pure ?_)); simp only [if_true]
  refine wpAny_bind (wpAny_rule (wpAny_bind (wpAny_field Z.z rfl (x := .ref to) rfl ?_)))
  refine wpAny_bind (wpAny_setField_rec Z.z (by simp) fun ha za sa => ?_)
  have za' : IsZip ha zz ti to .ellipsis := za
  refine wpAny_bind ?_; simp only [List.zipIdx_cons, List.zipIdx_nil, List.forIn_cons, List.forIn_nil]
  refine wpAny_bind (wpAny_bind (wpAny_onRaise ?_)); show wpAny _ _ (Builtin.SmallTypes.nextOf (.ref p1) >>= _) _ _ _
  cases hx : us[n1]? with
  | none =>
    refine wpAny_bind (next_none hh (Z.i1.keep sa.extBut D.i1z) (Z.q1.keep sa.extBut D.l1z) hx fun hb e sb st => ?_)
    obtain ⟨oe, eo, ec⟩ := st
    have zb : IsZip hb zz ti to .ellipsis := sb _ _ D.i1z.symm za'
    have ne : e ≠ zz := fun k => by subst k; rw [zb] at eo; cases eo; simp at ec
    exact wpAny_setField_rec zb (by simp) fun hc _ sc => q hc e (fun a o c1 _ c3 _ k => sc.extBut _ _ c1 (sb _ _ c3 (sa.extBut _ _ c1 k))) ⟨oe, sc.extBut _ _ ne eo, ec⟩
  | some x =>
    have hy : vs[n2]? = none := hend.resolve_left fun k => by rw [hx] at k; cases k
    refine wpAny_bind (next_some (Z.i1.keep sa.extBut D.i1z) (Z.q1.keep sa.extBut D.l1z) hx fun hb ib sb => wpAny_pure ?_)
    have ob : IsPair hb to ua va := sb.extBut _ _ D.TOi1 (sa.extBut _ _ D.TOz Z.o)
    refine wpAny_bind (wpAny_seqItems ob rfl (wpAny_bind (wpAny_updateSeq_pair ob fun hc oc sc => ?_)))
    refine wpAny_bind (wpAny_letGo (wpAny_pure ?_))
    refine wpAny_bind (wpAny_bind (wpAny_onRaise ?_)); show wpAny _ _ (Builtin.SmallTypes.nextOf (.ref p2) >>= _) _ _ _
    have i2c : ItB c hc p2 s2 n2 := ((Z.i2.keep sa.extBut D.i2z).keep sb.extBut D.i12.symm).keep sc.extBut D.TOi2.symm
    have q2c : SqB c hc s2 vs := ((Z.q2.keep sa.extBut D.l2z).keep sb.extBut D.l2i1).keep sc.extBut D.l2TO
    refine wpAny_bind (next_none hh i2c q2c hy fun hd e sd st => ?_)
    obtain ⟨oe, eo, ec⟩ := st
    have zd : IsZip hd zz ti to .ellipsis := sd _ _ D.i2z.symm (sc.extBut _ _ D.TOz.symm (sb.extBut _ _ D.i1z.symm za'))
    have ne : e ≠ zz := fun k => by subst k; rw [zd] at eo; cases eo; simp at ec
    exact wpAny_setField_rec zd (by simp) fun hf _ sf => q hf e (fun a o c1 c2 c3 c4 k => sf.extBut _ _ c1 (sd _ _ c4 (sc.extBut _ _ c2 (sb.extBut _ _ c3 (sa.extBut _ _ c1 k))))) ⟨oe, sf.extBut _ _ ne eo, ec⟩
theorem nextZ_some {x y : Value} {Q : Option Value → Shared → Prop} (D : ZipApart zz ti to p1 p2 s1 s2) (Z : Zst b c s.heap zz ti to p1 p2 s1 s2 n1 n2 us vs ua va) (hx : us[n1]? = some x) (hy : vs[n2]? = some y)
    (q : ∀ h', IsZip h' zz ti to (rawInt s.heap.objs.size) → IsPair h' to x y → ItB b h' p1 s1 (n1 + 1) → ItB c h' p2 s2 (n2 + 1) → IsPair h' s.heap.objs.size x y → h'.objs.size = s.heap.objs.size + 1 →
      (∀ a o, a ≠ zz → a ≠ to → a ≠ p1 → a ≠ p2 → s.heap.get? a = some o → h'.get? a = some o) → Q (some (.ref s.heap.objs.size)) { s with heap := h' }) : wpAny (model prog w) A (pyNext (.ref zz)) Q E s := by
  have ht : s.TypeIs (.ref zz) "zip" := ⟨_, Z.z, rfl⟩
  unfold pyNext
  refine wpAny_bind (wpAny_attempt (wpAny_callSpecial?_slot (name := Str.ofString "__next__") ht F.slot_zip_next (wpAny_call_entry F.slot_zip_next ht F.entry_zip_next ?_ (F.args_zip_next_1 _))))
  exact zipB_some D Z hx hy fun h' k1 k2 k3 k4 k5 k6 k7 => wpAny_pure (q h' k1 k2 k3 k4 k5 k6 k7)
theorem nextZ_none {Q : Option Value → Shared → Prop} (hh : A.handled = none) (D : ZipApart zz ti to p1 p2 s1 s2) (Z : Zst b c s.heap zz ti to p1 p2 s1 s2 n1 n2 us vs ua va) (hend : us[n1]? = none ∨ vs[n2]? = none)
    (q : ∀ h', (∀ a o, a ≠ zz → a ≠ to → a ≠ p1 → a ≠ p2 → s.heap.get? a = some o → h'.get? a = some o) → Q none { s with heap := h' }) : wpAny (model prog w) A (pyNext (.ref zz)) Q E s := by
  have ht : s.TypeIs (.ref zz) "zip" := ⟨_, Z.z, rfl⟩
  unfold pyNext
  refine wpAny_bind (wpAny_attempt (wpAny_callSpecial?_slot (name := Str.ofString "__next__") ht F.slot_zip_next (wpAny_call_entry F.slot_zip_next ht F.entry_zip_next ?_ (F.args_zip_next_1 _))))
  refine zipB_none hh D Z hend fun h' e k ⟨o, eo, ec⟩ => ?_
  exact wpAny_bind (wpAny_isInstance (T := "StopIteration") (b := true) ⟨o, eo, ec⟩ isSubtype_stop (wpAny_pure (q _ k)))
end
section
/-- the heap behind zip(t, l): t a tuple, l a list -/
abbrev zm1 (h : Heap) (l1 : Addr) : Heap := h.push { cls := .type "tuple_iterator", data := .fields #[.ref l1, .int 0 0] }
abbrev zm2 (h : Heap) (l1 l2 : Addr) : Heap := (zm1 h l1).push { cls := .type "list_iterator", data := .fields #[.ref l2, .int 0 0] }
abbrev zm3 (h : Heap) (l1 l2 : Addr) : Heap := (zm2 h l1 l2).push { cls := .type "tuple", data := .seq #[.ref h.objs.size, .ref (zm1 h l1).objs.size] }
abbrev zm4 (h : Heap) (l1 l2 : Addr) : Heap := (zm3 h l1 l2).push { cls := .type "tuple", data := .seq #[.none, .none] }
abbrev zm5 (h : Heap) (l1 l2 : Addr) : Heap := (zm4 h l1 l2).push { cls := .type "zip", data := .fields #[.none, .bool false, .bool false, .ref (zm2 h l1 l2).objs.size, .ref (zm3 h l1 l2).objs.size] }
theorem zm_new (l1 l2 : Addr) (us vs : Array Value) :
    Meets (Builtin.«zip.__new__» ⟨[.type "zip", .ref l1, .ref l2], []⟩) (fun _ R s => s.heap.IsTuple l1 us ∧ s.heap.IsList l2 vs ∧ R (.ok (.ret (.ref (zm4 s.heap l1 l2).objs.size))) { s with heap := zm5 s.heap l1 l2 }) :=
  .of_wp fun prog w A R s h => by
    obtain ⟨hp, g, d, tk, os⟩ := s; obtain ⟨k1, k2, h⟩ := h
    have hsub := sub_zip
    have e1 : Heap.IsTuple (Shared.heap ⟨hp, g, d, tk, os⟩) l1 us := k1
    have e2 : Heap.IsList (Shared.heap ⟨hp.push { cls := .type "tuple_iterator", data := .fields #[.ref l1, .int 0 0] }, g, d, tk, os⟩) l2 vs := Heap.IsList.push k2 _
    wp_walk using wpAny_pyIter_tuple e1, wpAny_pyIter_list e2
    exact ⟨_, rfl, h⟩
variable {prog : Program} {w : World} {A : Around} {E : Value → Shared → Prop} {s : Shared}
theorem call_zm {l1 l2 : Addr} {us vs : Array Value} {Q : Value → Shared → Prop} (k1 : s.heap.IsTuple l1 us) (k2 : s.heap.IsList l2 vs)
    (q : ∀ h', Zst true false h' (s.heap.objs.size + 4) (s.heap.objs.size + 2) (s.heap.objs.size + 3) s.heap.objs.size (s.heap.objs.size + 1) l1 l2 0 0 us vs .none .none → (∀ c o, s.heap.get? c = some o → h'.get? c = some o) → Q (.ref (s.heap.objs.size + 4)) { s with heap := h' }) :
    wpAny (model prog w) A (call (.type "zip") [.ref l1, .ref l2]) Q E s := by
  refine callType_new F.called_zip (by decide) (F.typeCall_zip_2 _ _) (F.newCall_zip_2 _ _) (fun obj => F.args_object_init_3 obj _ _) F.entry_zip_new (zm_new l1 l2 us vs) ⟨k1, k2, ?_⟩
  have n1 : (zm1 s.heap l1).objs.size = s.heap.objs.size + 1 := Heap.size_push ..
  have n2 : (zm2 s.heap l1 l2).objs.size = s.heap.objs.size + 2 := by rw [Heap.size_push, n1]
  have n3 : (zm3 s.heap l1 l2).objs.size = s.heap.objs.size + 3 := by rw [Heap.size_push, n2]
  have n4 : (zm4 s.heap l1 l2).objs.size = s.heap.objs.size + 4 := by rw [Heap.size_push, n3]
  have up1 : ∀ c o, (zm4 s.heap l1 l2).get? c = some o → (zm5 s.heap l1 l2).get? c = some o := fun c o x => Heap.get?_push_of_some _ x
  have up2 : ∀ c o, (zm3 s.heap l1 l2).get? c = some o → (zm5 s.heap l1 l2).get? c = some o := fun c o x => up1 _ _ (Heap.get?_push_of_some _ x)
  have up3 : ∀ c o, (zm2 s.heap l1 l2).get? c = some o → (zm5 s.heap l1 l2).get? c = some o := fun c o x => up2 _ _ (Heap.get?_push_of_some _ x)
  have up4 : ∀ c o, (zm1 s.heap l1).get? c = some o → (zm5 s.heap l1 l2).get? c = some o := fun c o x => up3 _ _ (Heap.get?_push_of_some _ x)
  have up5 : ∀ c o, s.heap.get? c = some o → (zm5 s.heap l1 l2).get? c = some o := fun c o x => up4 _ _ (Heap.get?_push_of_some _ x)
  have m5 : (zm5 s.heap l1 l2).get? (zm4 s.heap l1 l2).objs.size = some _ := Heap.get?_push_size _ rfl
  have m4 : (zm5 s.heap l1 l2).get? (zm3 s.heap l1 l2).objs.size = some _ := up1 _ _ (Heap.get?_push_size _ rfl)
  have m3 : (zm5 s.heap l1 l2).get? (zm2 s.heap l1 l2).objs.size = some _ := up2 _ _ (Heap.get?_push_size _ rfl)
  have m2 : (zm5 s.heap l1 l2).get? (zm1 s.heap l1).objs.size = some _ := up3 _ _ (Heap.get?_push_size _ rfl)
  have m1 : (zm5 s.heap l1 l2).get? s.heap.objs.size = some _ := up4 _ _ (Heap.get?_push_size _ rfl)
  show _ ∧ _
  rw [n2, n3, n4] at m5
  rw [n1, n2] at m3
  rw [n3] at m4
  rw [n1] at m2
  rw [n4]
  refine ⟨⟨_, m5, rfl⟩, q _ ⟨m5, m3, m4, ⟨_, m1, rfl, rfl⟩, ⟨_, m2, rfl, rfl⟩, ?_, ?_⟩ up5⟩
  · exact k1.at fun o x => up5 _ o x
  · exact k2.at fun o x => up5 _ o x
end
end LH

namespace LH
open PySem PySem.Spec PyProof.Rows L2
/-- a turn of zip(t, l): t a tuple, l a list -/
def ItzM (K : PySem.W.Frag) (a b : Addr) : It where
  go i H := ∃ (us vs : List V) (x y : V), SqT K H a us ∧ SqL K H b vs ∧ us[i]? = some x ∧ vs[i]? = some y
  yld i H v H' := ∃ T x y, v = .ref T ∧ H T = none ∧ H' = upd H T (.tup [x, y]) ∧ (∀ us, SqT K H a us → us[i]? = some x) ∧ ∀ vs, SqL K H b vs → vs[i]? = some y
  stop i H := ∃ us vs : List V, SqT K H a us ∧ SqL K H b vs ∧ (us.length ≤ i ∨ vs.length ≤ i)
def ZstM (a b zz ti to p1 p2 : Addr) (i : Nat) (h : Heap) : Prop := IsZip h zz ti to .none ∧ IsPair h ti (.ref p1) (.ref p2) ∧ (∃ x y, IsPair h to x y) ∧ ItB true h p1 a i ∧ ItB false h p2 b i
theorem five {c zz ti to p1 p2 : Addr} (h : c ∈ [zz, ti, to, p1, p2]) : c = zz ∨ c = ti ∨ c = to ∨ c = p1 ∨ c = p2 := by simpa using h
theorem five_not {c zz ti to p1 p2 : Addr} (h : c ∉ [zz, ti, to, p1, p2]) : c ≠ zz ∧ c ≠ ti ∧ c ≠ to ∧ c ≠ p1 ∧ c ≠ p2 := by simpa using h
theorem five_in {zz ti to p1 p2 : Addr} : zz ∈ [zz, ti, to, p1, p2] ∧ ti ∈ [zz, ti, to, p1, p2] ∧ to ∈ [zz, ti, to, p1, p2] ∧ p1 ∈ [zz, ti, to, p1, p2] ∧ p2 ∈ [zz, ti, to, p1, p2] := by simp
theorem zm_obj {a b zz ti to p1 p2 : Addr} {i : Nat} {h : Heap} (st : ZstM a b zz ti to p1 p2 i h) : ∀ c ∈ [zz, ti, to, p1, p2], ∃ o, h.get? c = some o ∧ ∀ v, o.data ≠ .cell v := fun c hc => by
  obtain ⟨h1, h2, ⟨x, y, h3⟩, ⟨o4, h4, _, d4⟩, ⟨o5, h5, _, d5⟩⟩ := st
  rcases five hc with q | q | q | q | q <;> rw [q]
  · exact ⟨_, h1, fun v k => nomatch k⟩
  · exact ⟨_, h2, fun v k => nomatch k⟩
  · exact ⟨_, h3, fun v k => nomatch k⟩
  · exact ⟨_, h4, fun v k => by rw [d4] at k; cases k⟩
  · exact ⟨_, h5, fun v k => by rw [d5] at k; cases k⟩
theorem turn_zm {P : Program} {w : World} {K : PySem.W.Frag} {elts : List Expr} {kk : Nat} {tpos : Pos} {a b zz ti to p1 p2 : Addr} (D : ZipApart zz ti to p1 p2 a b) :
    Turn P w K (.Tuple elts kk tpos) (ItzM K a b) [zz, ti, to, p1, p2] zz (ZstM a b zz ti to p1 p2) := by
  refine ⟨five_in.1, fun i h st => zm_obj st, fun i h h' st k => ?_, ?_, ?_, fun A i s Q E st q => wpAny_pyIter_zip st.1 q⟩
  · obtain ⟨h1, h2, ⟨x, y, h3⟩, h4, h5⟩ := st
    obtain ⟨m1, m2, m3, m4, m5⟩ := five_in (zz := zz) (ti := ti) (to := to) (p1 := p1) (p2 := p2)
    exact ⟨k _ m1 _ h1, k _ m2 _ h2, ⟨x, y, k _ m3 _ h3⟩, h4.at fun o q => k _ m4 o q, h5.at fun o q => k _ m5 o q⟩
  · rintro X rfl rfl rfl hc i pins s σ H E I hf st ⟨us, vs, x, y, qu, qv, hx, hy⟩
    obtain ⟨ua, ru, pu, _⟩ := I.tuple qu
    obtain ⟨va, rv, pv, _⟩ := I.list qv
    obtain ⟨u1, hu1, r1⟩ := ru.get hx
    obtain ⟨u2, hu2, r2⟩ := rv.get hy
    have live := zm_obj st
    have lt : ∀ c ∈ [zz, ti, to, p1, p2], c < s.heap.objs.size := fun c hc => let ⟨_, q, _⟩ := live c hc; Heap.lt_size q
    obtain ⟨h1, h2, ⟨x0, y0, h3⟩, h4, h5⟩ := st
    refine nextZ_some (x := u1) (y := u2) D ⟨h1, h2, h3, h4, h5, pu, pv.isList⟩ (by simpa using hu1) (by simpa using hu2) fun g z' o' i1' i2' pr _ kk => ?_
    refine ⟨_, rfl, wpAny_letOwnedTupleGo_zip (s := { s with heap := g }) z' fun g2 z2 sb => ?_⟩
    have ltz := lt _ five_in.1
    have pr2 : g2.get? s.heap.objs.size = some { cls := .type "tuple", data := .seq #[u1, u2] } := (sb.2 _ (Nat.ne_of_gt ltz)).trans pr
    have fresh : ObjOk X.prog X.w (upd H s.heap.objs.size (.tup [x, y])) g2 s.heap.objs.size (.tup [x, y]) := ⟨by show 2 ≤ sizeLine; decide, [u1, u2], .cons r1 (.cons r2 .nil), ⟨_, pr2, rfl, _, rfl⟩⟩
    have I2 : Inv X pins σ (upd H s.heap.objs.size (.tup [x, y])) { s with heap := g2 } := by
      refine I.turnedNew (t' := s.toks) (ch := [zz, ti, to, p1, p2]) (fun c o hb q => ?_) hf (Nat.le_refl _) fresh
      obtain ⟨n1, n2, n3, n4, n5⟩ := five_not hb
      exact (sb.2 c n1).trans (kk c o n1 n3 n4 n5 q)
    refine ⟨.ref s.heap.objs.size, _, I2, rfl, ⟨_, x, y, rfl, I.hok.fresh (Nat.le_refl _), rfl, fun l hl => by rw [I.tuple_inj hl qu]; exact hx, fun l hl => by rw [I.list_inj hl qv]; exact hy⟩, ⟨z2, ?_, ⟨u1, u2, ?_⟩, ?_, ?_⟩, fun c hcm => ?_⟩
    · exact (sb.2 _ D.TIz).trans (kk _ _ D.TIz D.TITO D.TIi1 D.TIi2 h2)
    · exact (sb.2 _ D.TOz).trans o'
    · exact i1'.at fun o q => (sb.2 _ D.i1z).trans q
    · exact i2'.at fun o q => (sb.2 _ D.i2z).trans q
    · rw [upd_ne (Nat.ne_of_lt (lt c hcm))]
      exact (hf c hcm).1
  · rintro X rfl rfl rfl hc i pins s σ H E I hf st ⟨us, vs, qu, qv, hend⟩
    obtain ⟨ua, ru, pu, _⟩ := I.tuple qu
    obtain ⟨va, rv, pv, _⟩ := I.list qv
    have l1 := ru.length
    have l2 := rv.length
    obtain ⟨h1, h2, ⟨x0, y0, h3⟩, h4, h5⟩ := st
    have he : ua.toArray[i]? = none ∨ va.toArray[i]? = none := hend.imp (fun q => by simp; omega) (fun q => by simp; omega)
    refine nextZ_none (I.ok.hd hc) D ⟨h1, h2, h3, h4, h5, pu, pv.isList⟩ he fun g kk => ⟨rfl, ?_⟩
    refine I.turnedL (t' := s.toks) (ch := [zz, ti, to, p1, p2]) (fun c o hb q => ?_) hf
    obtain ⟨n1, n2, n3, n4, n5⟩ := five_not hb
    exact kk c o n1 n3 n4 n5 q
def iZipM (K : PySem.W.Frag) (ta : TA) : TI := fun σ H R => ta σ H fun xs H1 => ∃ a b us vs, xs = [.ref a, .ref b] ∧ SqT K H1 a us ∧ SqL K H1 b vs ∧ R (ItzM K a b) H1
theorem pi_zipM {X : Cx} {K : PySem.W.Frag} {e e2 : Expr} {ta : TA} {p pos tpos : Pos} {elts : List Expr} {kk : Nat} (hK : X.K = K) (hg : Gl X "zip") (hm : X.mg "zip" = none) (ha : PA X [e, e2] ta)
    (hs : starEach [e, e2] X.env = (false, eval e X.env) :: starEach [e2] X.env := by rfl) (hpl : (backTo pos (starEach [e2] X.env)).any (·.1) = false := by rfl) :
    PI X (.Tuple elts kk tpos) (.Call (.Name "zip" p) [e, e2] [] pos) (iZipM K ta) := by
  subst hK
  refine ⟨fun pins s σ H R I h => Call_ (ld_blt I hg hm PyProof.Rows.boot_zip (PyProof.Rows.callWith_type1 (thn (ha.run pos pins s σ H _ I h) fun xs s1 ⟨ws, H1, I1, r1, a, b, us, vs, ew, qu, qv, q⟩ => ?_) hs hpl))⟩
  subst ew
  cases r1 with
  | cons ra rr => cases rr with
    | cons rb rr =>
      cases rr; cases ra; cases rb
      obtain ⟨ua, ru, pu, _⟩ := I1.tuple qu
      obtain ⟨va, rv, pv, _⟩ := I1.list qv
      obtain ⟨oa, ea, _⟩ := id pu
      refine call_zm (show s1.heap.IsTuple a ua.toArray from pu) pv.isList fun g Z kk => wpAny_pyIter_zip Z.z ?_
      refine ⟨s1.heap.objs.size + 4, [s1.heap.objs.size + 4, s1.heap.objs.size + 2, s1.heap.objs.size + 3, s1.heap.objs.size, s1.heap.objs.size + 1], _, _, H1, rfl, I1.kept (t' := s1.toks) kk, turn_zm (PySem.W.ktu_apart s1.heap.objs.size a b (Heap.lt_size ea) pv.lt), ⟨Z.z, Z.t, ⟨_, _, Z.o⟩, Z.i1, Z.i2⟩, fun c hc => ?_, q⟩
      have ge : s1.heap.objs.size ≤ c := by rcases five hc with z | z | z | z | z <;> rw [z] <;> first | exact Nat.le_add_right _ _ | exact Nat.le_refl _
      exact I1.fpOk ge (I1.hok.fresh ge)
section
variable {C : Ct} {e : En} {D : Ends} {t : TS} {g : TG} {xs ys : List PyData} {ta : TA}
/-- over zip(t, l), t a tuple and l a list of one length, both of them data -/
theorem r_forZ (h : EvA C ta e [.tuple xs, .list ys]) (hl : xs.length = ys.length) (S : Nat → List Sl) (O : Nat → List Ow) (h0 : LeS e.s (S 0)) (hO : e.o = O 0)
    (hb : ∀ (u v : V) i (x y : PyData), xs[i]? = some x → ys[i]? = some y → ∃ bE js, TgE C g js (.tuple [x, y]) ⟨S i, O i, (u, .d (.tuple xs)) :: (v, .d (.list ys)) :: e.g⟩ bE ∧
      Run C bE (t { D with nx := NX C ⟨S (i + 1), O (i + 1), (u, .d (.tuple xs)) :: (v, .d (.list ys)) :: e.g⟩, ct := NX C ⟨S (i + 1), O (i + 1), (u, .d (.tuple xs)) :: (v, .d (.list ys)) :: e.g⟩, bk := D.nx }))
    (hd : Run C ⟨S xs.length, O xs.length, e.g⟩ D.nx) : Run C e (tFor (iZipM C.K ta) g t D) := fun σ F H gd => h σ F H gd _ fun vs F1 H1 w1 r => by
  cases r with
  | cons ra r => cases r with
    | cons rb r =>
      cases r
      obtain ⟨a, us, rfl, hus, rus⟩ := dp_tuple ra
      obtain ⟨b, ws, rfl, hws, rws⟩ := dp_list rb
      have lu := dps_len rus
      have lw := dps_len rws
      have hq : ∀ σ F H i, Good C ⟨S i, O i, (.ref a, .d (.tuple xs)) :: (.ref b, .d (.list ys)) :: e.g⟩ σ F H → ∃ us ws, SqT C.K H a us ∧ SqL C.K H b ws ∧ DpAll C.K F us xs ∧ DpAll C.K F ws ys := fun σ F H i gd => by
        obtain ⟨a', us, q, h1, r1⟩ := dp_tuple (gd.known (List.mem_cons_self))
        cases q
        obtain ⟨b', ws, q, h2, r2⟩ := dp_list (gd.known (List.mem_cons_of_mem _ List.mem_cons_self))
        cases q
        exact ⟨us, ws, Evl.ex_t gd.fh h1, Evl.ex_l gd.fh h2, r1, r2⟩
      refine ⟨a, b, us, ws, rfl, Evl.ex_t w1.sub hus, Evl.ex_l w1.sub hws, ?_⟩
      have G0 : Good C ⟨S 0, O 0, (.ref a, .d (.tuple xs)) :: (.ref b, .d (.list ys)) :: e.g⟩ σ F1 H1 := by
        have := (((gd.grow w1).ghost rb).ghost ra).le (s' := S 0) (g' := (.ref a, .d (.tuple xs)) :: (.ref b, .d (.list ys)) :: e.g) h0 (fun q hq => hq)
        rw [← hO]; exact this
      have wk : Walk (ItzM C.K a b) xs.length (fun H => ∃ us ws : List V, SqT C.K H a us ∧ SqL C.K H b ws ∧ us.length = xs.length ∧ ws.length = xs.length) (fun i H x H' => (ItzM C.K a b).yld i H x H') :=
        ⟨fun i H hi ⟨us, ws, q1, q2, l1, l2⟩ => ⟨us, ws, us[i], ws[i], q1, q2, by simp [l1, hi], by simp [l2, hi]⟩, fun H ⟨us, ws, q1, q2, l1, l2⟩ => ⟨us, ws, q1, q2, .inl (by omega)⟩, fun i H x H' hi _ y => y⟩
      refine for_core (C := C) (g := g) (t := t) (D := D) wk (fun i => ⟨S i, O i, (.ref a, .d (.tuple xs)) :: (.ref b, .d (.list ys)) :: e.g⟩) (fun i => .tuple [xs.getD i .none, ys.getD i .none]) ⟨F1, G0⟩ (fun i σ F H hi gd => ?_) (fun i σ F H x H' hi gd y => ?_) (fun i hi => ?_) (fun σ F H gd => ?_)
      · obtain ⟨us, ws, q1, q2, r1, r2⟩ := hq σ F H i gd
        exact ⟨us, ws, q1, q2, dps_len r1, by rw [dps_len r2, hl]⟩
      · obtain ⟨T, x', y', rfl, hT, rfl, f1, f2⟩ := y
        obtain ⟨us, ws, q1, q2, r1, r2⟩ := hq σ F H i gd
        obtain ⟨d1, e1, e2⟩ := dps_getV r1 (f1 us q1)
        obtain ⟨d2, e3, e4⟩ := dps_getV r2 (f2 ws q2)
        have w2 : Grow F H (upd F T (.tup [x', y'])) (upd H T (.tup [x', y'])) := Grow.alloc gd.fh hT
        refine ⟨_, gd.grow w2, ?_⟩
        rw [List.getD_eq_getElem?_getD, List.getD_eq_getElem?_getD, e1, e3]
        exact .tup (Evl.st_of upd_same) (.cons (dp_mono w2.f _ _ e2) (.cons (dp_mono w2.f _ _ e4) .nil))
      · have e1 : xs[i]? = some (xs.getD i .none) := by rw [List.getD_eq_getElem?_getD, List.getElem?_eq_getElem hi]; rfl
        have e2 : ys[i]? = some (ys.getD i .none) := by rw [List.getD_eq_getElem?_getD, List.getElem?_eq_getElem (by omega)]; rfl
        exact hb (.ref a) (.ref b) i _ _ e1 e2
      · exact hd σ F H (gd.le (LeS.refl _) fun q hq => List.mem_cons_of_mem _ (List.mem_cons_of_mem _ hq))
end
end LH

/-! a table of the module: text keys, tuples of texts; asked by .get -/
namespace LH
open PySem L2 PySem.Spec PyProof.Rows
def strOf : Value → Option Str
  | .str x _ => some x
  | _ => none
def strsB (K : PySem.W.Frag) (a : Addr) (ws : List Str) : Bool := match K.lookup a with
  | some ⟨.type c, _, .seq its _, _⟩ => decide (c = "tuple") && (decide (its.size ≤ sizeLine) && decide (its.toList.map strOf = ws.map some))
  | _ => false
theorem strs_vals : ∀ {us : List Value} {ws : List Str}, us.map strOf = ws.map some → Vals (ws.map V.str) us
  | [], [], _ => .nil
  | [], _ :: _, h => by cases h
  | _ :: _, [], h => by cases h
  | u :: us, x :: ws, h => by
    injection h with h1 h2
    refine .cons ?_ (strs_vals h2)
    cases u <;> simp [strOf] at h1
    subst h1
    exact ⟨_, rfl⟩
theorem strs_dps {K : PySem.W.Frag} {F : Hp} : ∀ ws : List Str, DpAll K F (ws.map V.str) (ws.map PyData.str)
  | [] => .nil
  | x :: ws => .cons (.str x) (strs_dps ws)
theorem strsB_ok {K : PySem.W.Frag} {a : Addr} {ws : List Str} (h : strsB K a ws = true) (F : Hp) : Dp K F (.ref a) (.tuple (ws.map .str)) := by
  unfold strsB at h
  split at h
  · rename_i c od its n sl q
    simp only [Bool.and_eq_true, decide_eq_true_eq] at h
    obtain ⟨h1, h2, h3⟩ := h
    subst h1
    exact .tup (.inr ⟨_, its, n, q, rfl, rfl, h2, strs_vals h3⟩) (strs_dps ws)
  · cases h
def rowB (K : PySem.W.Frag) (e : DictEntry) (k : Str) (ws : List Str) : Bool := decide (strOf e.key = some k) && (match e.val with
  | .ref a => strsB K a ws
  | _ => false)
def rowsB (K : PySem.W.Frag) : List DictEntry → List (Str × List Str) → Bool
  | [], [] => true
  | e :: es, r :: rs => rowB K e r.1 r.2 && rowsB K es rs
  | _, _ => false
def tabB (K : PySem.W.Frag) (d : Addr) (kvs : List (Str × List Str)) : Bool := match K.lookup d with
  | some ⟨_, _, .dict es _, _⟩ => rowsB K es.toList kvs
  | _ => false
/-- what stands in a table at a key -/
def tabAt (kvs : List (Str × List Str)) (z : Str) : PyData := match kvs.find? (fun r => r.1 == z) with
  | some r => .tuple (r.2.map .str)
  | none => .none
def TabR (K : PySem.W.Frag) (r : Option Value) (d : PyData) : Prop := (r = none ∧ d = .none) ∨ ∃ a, r = some (.ref a) ∧ ∀ F, Dp K F (.ref a) d
theorem rowB_ok {K : PySem.W.Frag} {e : DictEntry} {k : Str} {ws : List Str} (h : rowB K e k ws = true) : (∃ t, e.key = .str k t) ∧ ∃ a, e.val = .ref a ∧ ∀ F, Dp K F (.ref a) (.tuple (ws.map .str)) := by
  unfold rowB at h
  simp only [Bool.and_eq_true, decide_eq_true_eq] at h
  obtain ⟨h1, h2⟩ := h
  refine ⟨?_, ?_⟩
  · cases q : e.key <;> rw [q] at h1 <;> simp [strOf] at h1
    subst h1
    exact ⟨_, rfl⟩
  · cases q : e.val <;> rw [q] at h2 <;> simp at h2
    exact ⟨_, rfl, strsB_ok h2⟩
theorem rows_find {K : PySem.W.Frag} (z : Str) : ∀ {es : List DictEntry} {kvs : List (Str × List Str)}, rowsB K es kvs = true →
    ∃ r, (match es.find? (·.key.isStr z) with | some e => some (some e.val) | none => if es.any (·.refKey) then none else some none) = some r ∧ TabR K r (tabAt kvs z)
  | [], [], _ => ⟨none, rfl, .inl ⟨rfl, rfl⟩⟩
  | [], _ :: _, h => by cases h
  | _ :: _, [], h => by cases h
  | e :: es, r :: rs, h => by
    have h' : (rowB K e r.1 r.2 && rowsB K es rs) = true := h
    rw [Bool.and_eq_true] at h'
    obtain ⟨⟨t, hk⟩, a, hv, hd⟩ := rowB_ok h'.1
    have hs : e.key.isStr z = (r.1 == z) := by rw [hk]; rfl
    have hr : e.refKey = false := by unfold DictEntry.refKey; rw [hk]
    by_cases q : r.1 = z
    · have q' : (r.1 == z) = true := beq_iff_eq.mpr q
      refine ⟨some (.ref a), ?_, .inr ⟨a, rfl, ?_⟩⟩
      · rw [List.find?_cons, hs, q', ← hv]
      · unfold tabAt; rw [List.find?_cons, q']; exact hd
    · have q' : (r.1 == z) = false := by simpa using q
      obtain ⟨x, h1, h2⟩ := rows_find z h'.2
      refine ⟨x, ?_, ?_⟩
      · rw [List.find?_cons, hs, q', List.any_cons, hr, Bool.false_or]; exact h1
      · unfold tabAt; rw [List.find?_cons, q']; exact h2
theorem tabB_ok {K : PySem.W.Frag} {d : Addr} {kvs : List (Str × List Str)} (h : tabB K d kvs = true) (z : Str) : ∃ r, PySem.W.nsIn K d z = some r ∧ TabR K r (tabAt kvs z) := by
  unfold tabB at h
  unfold PySem.W.nsIn
  split at h
  · rename_i q
    rw [q]
    exact rows_find z h
  · cases h
/-- t.get(k) -/
def tKGet (K : PySem.W.Frag) (d : Addr) (td ty : TE) : TE := fun σ H Q => td σ H fun x H1 => x = .ref d ∧ ty σ H1 fun y H2 => ∃ z r, y = .str z ∧ PySem.W.nsIn K d z = some r ∧ (r = none → Q .non H2) ∧ ∀ u, r = some u → ∃ v, RelV v u ∧ Q v H2
section
variable {X : Cx} {o e : Expr} {apos cpos : Pos} {td ty : TE} {d : Addr} {K : PySem.W.Frag}
theorem pe_kget (hK : X.K = K) (hD : ∃ es n, KDict K X.w d es n) (ho : PE X o td) (he : PE X e ty) (m : M1 X o "get" apos e cpos) : PE X (.Call (.Attribute o "get" apos) [e] [] cpos) (tKGet K d td ty) := by
  subst hK
  obtain ⟨es, n, D⟩ := hD
  refine ⟨fun pins s σ H Q I h => wpAny_Call_method m.base m.few m.line PySem.F.plainAttrs_dict PySem.F.slot_dict_get PySem.F.type_dict_get (thn (ho.run pins s σ H _ I h) fun u s1 ⟨x, H1, I1, rx, ex, q1⟩ => ?_)⟩
  subst ex
  obtain rfl : u = Value.ref d := rx
  refine ⟨kd_type D I1, fun b q => by cases q; exact ⟨_, I1.kIn _ _ D.at_, rfl⟩, ?_⟩
  rw [m.trees]
  refine Calls.callWith_builtin rfl (Calls.evalArgs_plain (Calls.spliced_cons (thn (he.run pins s1 σ H1 _ I1 q1) fun v s2 ⟨y, H2, I2, ry, z, r, ez, er, q2, q3⟩ => Calls.spliced_nil ?_)))
  subst ez
  obtain ⟨t, rfl⟩ := ry
  have mo := PySem.W.mapOf_K (prog := X.prog) (w := X.w) I2.kIn D.at_ D.lit
  refine call_meetsIn PySem.F.slot_dict_get mo.typeIs PySem.F.entry_dict_get (PySem.F.args_dict_get_2 _ _) (meets_dict_get (PySem.strKind X.prog X.w) d (PySem.strKind_is X.prog X.w z t) D.low) ⟨_, mo, ?_⟩
  rw [PySem.W.find_K D.at_ er]
  cases r with
  | none => exact ⟨.non, H2, I2.tok _, rfl, q2 rfl⟩
  | some u =>
    obtain ⟨v, rv, q⟩ := q3 u rfl
    exact ⟨v, H2, I2.tok _, rv, q⟩
end
theorem ee_kget {C : Ct} {e : En} {te : TE} {d : Addr} {kvs : List (Str × List Str)} {z : Str} (h : EvE C te e (.str z)) (ht : tabB C.K d kvs = true) : EvE C (tKGet C.K d (tC (.ref d)) te) e (tabAt kvs z) := fun σ F H g Q q => by
  refine ⟨rfl, h σ F H g _ fun v F2 H2 w r => ?_⟩
  cases r
  obtain ⟨x, e1, e2⟩ := tabB_ok ht z
  rcases e2 with ⟨rfl, e3⟩ | ⟨a, rfl, e3⟩
  · exact ⟨z, none, rfl, e1, fun _ => q .non F2 H2 w (by rw [e3]; exact .non), fun u hu => by cases hu⟩
  · exact ⟨z, some (.ref a), rfl, e1, (fun hu => by cases hu), fun u hu => by cases hu; exact ⟨.ref a, rfl, q (.ref a) F2 H2 w (e3 F2)⟩⟩
end LH

/-! x.replace(y, z, 1), y and z written texts -/
namespace LH
open PySem L2 PySem.Spec PyProof.Rows PySem.Builtin PySem.Builtin.Str
/-- where y is found first in x -/
def firstIn (x y : Str) : List Nat := occurrences x y 0 x.length 1
def rep1 (x y z : Str) : Str := if ((firstIn x y).isEmpty || (y.length == 0 && z.length == 0)) = true then x else glued z (partsBetween x (firstIn x y) y.length)
theorem gives_rep1 (x y z : Str) (t u v k : Tok) (hu : (u == 0 || v == 0) = false) (hv : (u == v) = false) (hyz : (y == z) = false) (hl : tooLong (x.length + (firstIn x y).length * z.length) = false) :
    Gives («str.replace» ⟨[.str x t, .str y u, .str z v, .int 1 k], []⟩) (if ((firstIn x y).isEmpty || (y.length == 0 && z.length == 0)) = true then .val (.str x t) else .str (glued z (partsBetween x (firstIn x y) y.length))) := by
  show Gives (if ((firstIn x y).isEmpty || (y.length == 0 && z.length == 0)) = true then (do rule "str.replace.nothing"; ret (.str x t)) else
    (do let q ← isSame (.str y u) (.str z v)
        if q = true then (do rule "str.replace.old-is-new"; ret (.str x t)) else
        if tooLong (x.length + (firstIn x y).length * z.length) = true then unsupported "str.replace:memory" else retStr (glued z (partsBetween x (firstIn x y) y.length)))) _
  cases hc : ((firstIn x y).isEmpty || (y.length == 0 && z.length == 0))
  · rw [isSame_str_other y z u v hu hv hyz, hl]
    exact .of_eq rfl
  · exact .rule (.of_eq rfl)
theorem rep1_len (x y z : Str) (hb : x.length + z.length ≤ 16777216) : (glued z (partsBetween x (firstIn x y) y.length)).length ≤ x.length + z.length := by
  have h1 := StrLaws.occ_length_le x y 0 x.length 1
  have hy : (glued y (partsBetween x (occurrences x y 0 x.length 1) y.length)).length = x.length := by rw [StrLaws.glued_between_self]
  unfold firstIn
  rw [size_glued, length_partsBetween, Nat.add_sub_cancel] at hy ⊢
  have h2 : (occurrences x y 0 x.length 1).length * z.length ≤ 1 * z.length := Nat.mul_le_mul_right _ h1
  omega
section
variable {prog : Program} {w : World} {A : Around} {E : Value → Shared → Prop} {s : Shared} {x y z : Str} {t u v k : Tok} {Q : Value → Shared → Prop}
theorem call_rep1 (hu : u ≠ 0) (hv : v ≠ 0) (huv : u ≠ v) (hyz : (y == z) = false) (hb : x.length + z.length ≤ 16777216) (q : ∀ t' n, Q (.str (rep1 x y z) t') { s with toks := n }) :
    wpAny (model prog w) A (call (.builtin "str.replace") [.str x t, .str y u, .str z v, .int 1 k]) Q E s := by
  have e : (2 : Nat) ^ 24 = 16777216 := by decide
  have h1 := StrLaws.occ_length_le x y 0 x.length 1
  have h2 : (firstIn x y).length * z.length ≤ 1 * z.length := Nat.mul_le_mul_right _ h1
  have hl : tooLong (x.length + (firstIn x y).length * z.length) = false := by
    unfold tooLong sizeLine
    exact decide_eq_false (by omega)
  refine call_gives F.slot_str_replace (typeIs_str _ _ _) F.entry_str_replace (F.args_str_replace_4 _ _ _ _) (gives_rep1 x y z t u v k (by simp [hu, hv]) (by simp [huv]) hyz hl) ?_
  have q' := q
  unfold rep1 at q'
  cases hc : ((firstIn x y).isEmpty || (y.length == 0 && z.length == 0))
  · rw [hc] at q'
    simp only [Bool.false_eq_true, if_false] at q' ⊢
    exact ⟨Nat.le_trans (rep1_len x y z hb) (by rw [sizeLine_eq]; omega), q' _ _⟩
  · rw [hc] at q'
    simp only [if_true] at q' ⊢
    exact q' t s.toks
end
def tRep1 (to : TE) (y z : Str) : TE := fun σ H Q => to σ H fun v H1 => ∃ x, v = .str x ∧ x.length + z.length ≤ 16777216 ∧ Q (.str (rep1 x y z)) H1
section
variable {X : Cx} {o e f : Expr} {te tf to : TE} {ta : TA} {es : List Expr} {y z x : Str} {i j k : Nat} {c0 c1 c2 apos pos p p' : Pos}
theorem pet_rep1 (ho : PE X o to) (hyz : (y == z) = false := by decide)
    (hst : starEach [.Constant (.str y) i c0, .Constant (.str z) j c1, .Constant (.int 1) k c2] X.env = [(false, eval (.Constant (.str y) i c0) X.env), (false, eval (.Constant (.str z) j c1) X.env), (false, eval (.Constant (.int 1) k c2) X.env)] := by rfl)
    (hbase : attributeBase o "replace" X.env (eval o X.env) = eval o X.env := by rfl) (hline : (apos.endLine == pos.line) = true := by rfl) :
    PET X (.Call (.Attribute o "replace" apos) [.Constant (.str y) i c0, .Constant (.str z) j c1, .Constant (.int 1) k c2] [] pos) (tRep1 to y z) := by
  intro pins s σ H Q h0 I h
  refine wpAny_Call_method_lateS hbase (by rw [hst]; rfl) hline ?_
  rw [hst]
  refine wpAny_mono (wpAny_toks_of h0 (ho.run pins s σ H _ I h)) (fun v s1 ⟨n, a, H1, I1, r1, w, ew, hb, q⟩ => ?_) fun _ _ q => q.2
  subst ew
  obtain ⟨tw, rfl⟩ := r1
  refine ⟨"str", _, PySem.F.plainAttrs_str, PySem.F.slot_str_replace, PySem.F.type_str_replace, typeIs_str _ _ _, (fun _ k => nomatch k), ?_⟩
  refine Calls.callWith_builtin rfl (Calls.evalArgs_plain (Calls.spliced_cons ?_))
  refine Calls.Constant_str (k := i) (pos := c0) (Calls.spliced_cons ?_)
  refine Calls.Constant_str (k := j) (pos := c1) (Calls.spliced_cons ?_)
  refine wpAny_Constant_int (k := k) (pos := c2) (Calls.spliced_nil ?_)
  refine call_rep1 (Nat.ne_of_gt n) (Nat.succ_ne_zero _) (Nat.ne_of_lt (Nat.lt_succ_self _)) hyz hb fun t' m => ⟨.str (rep1 w y z), H1, I1.tok m, ⟨t', rfl⟩, q⟩
/-- behind this one a token is out -/
def PEN (X : Cx) (e : Expr) (t : TE) : Prop := ∀ (pins : List (Addr × Obj)) (s : Shared) (σ : L2.St) (H : Hp) (Q : VK), L2.Inv X pins σ H s → t σ H Q → wpAny (model X.prog X.w) X.A (eval e X.env) (fun v s1 => 1 ≤ s1.toks ∧ EP X pins σ Q v s1) X.xe s
theorem pen_opS {op : Operator} {r : R2} (ho : OpR X (binaryOp op) r) (ha : PE X e te) : PEN X (.BinOp e op (.Constant (.str x) j p) pos) (tOp r te (tC (.str x))) := by
  intro pins s σ H Q I h
  refine wpAny_BinOp (thn (ha.run pins s σ H _ I h) fun v s1 ⟨a, H1, I1, r1, q1⟩ => Calls.Constant_str ?_)
  have n1 : 1 ≤ ({ s1 with toks := s1.toks + 1 } : Shared).toks := Nat.le_add_left 1 s1.toks
  refine wpAny_mono (wpAny_toks_of n1 (ho pins _ σ H1 a (.str x) v _ Q (I1.tok _) r1 ⟨s1.toks, rfl⟩ q1)) (fun u s2 q => q) fun _ _ q => q.2
theorem pa_consN (ha : PEN X e te) (hr : PAT X es ta) (hs : starEach (e :: es) X.env = (false, eval e X.env) :: starEach es X.env := by rfl) : PA X (e :: es) (tCons te ta) := by
  refine ⟨fun pos pins s σ H Q I h => ?_⟩
  rw [hs]
  show wpAny _ _ (spliced ((false, eval e X.env) :: backTo pos (starEach es X.env))) _ _ s
  refine Calls.spliced_cons (thn (ha pins s σ H _ I h) fun v s1 ⟨n, a, H1, I1, r1, q1⟩ => ?_)
  exact thn (hr pos pins s1 σ H1 _ n I1 q1) fun us s2 ⟨xs, H2, I2, r2, q2⟩ => ⟨a :: xs, H2, I2, .cons r1 r2, q2⟩
theorem pat_of (h : PA X es ta) : PAT X es ta := fun pos pins s σ H Q _ I q => h.run pos pins s σ H Q I q
theorem pet_of (h : PE X e te) : PET X e te := fun pins s σ H Q _ I q => h.run pins s σ H Q I q
end
end LH

/-! split and join, by words that are free of the sign between -/
namespace LH
open PySem L2 TL Evl PySem.Spec PyProof.Rows PySem.Builtin PySem.Builtin.Str
def rSplit : V → List V → Hp → VK → Prop := fun x xs H Q => ∃ a b, x = .str a ∧ xs = [.str b] ∧ (b.length == 0) = false ∧ a.length + 2 ≤ sizeLine ∧ rNewStrs (Txt.split a b) H Q
theorem ml_split {X : Cx} : MtR X "str.split" rSplit := mt_split
def rJoin (K : PySem.W.Frag) : V → List V → Hp → VK → Prop := fun x xs H Q => ∃ a p, ∃ ys : List Str, x = .str a ∧ xs = [.ref p] ∧ (SqL K H p (ys.map V.str) ∨ SqT K H p (ys.map V.str)) ∧ (ys.map (·.length)).sum + ys.length * a.length ≤ 16777216 ∧ Q (.str (Txt.join a ys)) H
theorem ml_join {X : Cx} {K : PySem.W.Frag} (hK : X.K = K) : MtR X "str.join" (rJoin K) := by subst hK; exact mt_join
theorem dps_strs' {K : PySem.W.Frag} {F : Hp} : ∀ {ws : List Str} {vs : List V}, DpAll K F vs (ws.map PyData.str) → vs = ws.map V.str
  | [], _, .nil => rfl
  | _ :: _, _, .cons (.str _) r => by rw [List.map_cons, dps_strs' r]
section
variable {C : Ct} {e : En} {te ta : TE}
theorem ee_split {a c : Str} (h : EvE C te e (.str a)) (h2 : EvE C ta e (.str c)) (hc : (c.length == 0) = false) (ha : a.length ≤ 1000000) : EvE C (tM1 rSplit te ta) e (.list ((Txt.split a c).map .str)) := fun σ F H g Q q =>
  h σ F H g _ fun v F1 H1 w1 d1 => by
    cases d1
    refine ⟨⟨a, rfl⟩, h2 σ F1 H1 (g.grow w1) _ fun v F2 H2 w2 d2 => ?_⟩
    cases d2
    exact ⟨a, c, rfl, rfl, hc, Nat.le_trans (Nat.add_le_add_right ha 2) (by decide), fun p hp => q _ _ _ ((w1.trans w2).trans (Grow.alloc w2.sub hp)) (.lst (sq_of upd_same) (strs_dps _))⟩
theorem ee_join {a : Str} {ws : List Str} (h : EvE C te e (.str a)) (h2 : EvE C ta e (.list (ws.map .str))) (hz : (ws.map (·.length)).sum + ws.length * a.length ≤ 16777216) : EvE C (tM1 (rJoin C.K) te ta) e (.str (Str.join a ws)) := fun σ F H g Q q =>
  h σ F H g _ fun v F1 H1 w1 d1 => by
    cases d1
    refine ⟨⟨a, rfl⟩, h2 σ F1 H1 (g.grow w1) _ fun v F2 H2 w2 d2 => ?_⟩
    obtain ⟨p, us, rfl, hp, r⟩ := dp_list d2
    rw [dps_strs' r] at hp
    refine ⟨a, p, ws, rfl, rfl, .inl (ex_l w2.sub hp), hz, ?_⟩
    rw [show Txt.join a ws = Str.join a ws from StrLaws.glued_eq_join a ws]
    exact q _ F2 H2 (w1.trans w2) (.str _)
theorem ee_joinT {a : Str} {ws : List Str} (h : EvE C te e (.str a)) (h2 : EvE C ta e (.tuple (ws.map .str))) (hz : (ws.map (·.length)).sum + ws.length * a.length ≤ 16777216) : EvE C (tM1 (rJoin C.K) te ta) e (.str (Str.join a ws)) := fun σ F H g Q q =>
  h σ F H g _ fun v F1 H1 w1 d1 => by
    cases d1
    refine ⟨⟨a, rfl⟩, h2 σ F1 H1 (g.grow w1) _ fun v F2 H2 w2 d2 => ?_⟩
    obtain ⟨p, us, rfl, hp, r⟩ := dp_tuple d2
    rw [dps_strs' r] at hp
    refine ⟨a, p, ws, rfl, rfl, .inr (ex_t w2.sub hp), hz, ?_⟩
    rw [show Txt.join a ws = Str.join a ws from StrLaws.glued_eq_join a ws]
    exact q _ F2 H2 (w1.trans w2) (.str _)
theorem ee_rep1 {x y z : Str} (h : EvE C te e (.str x)) (hz : x.length + z.length ≤ 16777216) : EvE C (tRep1 te y z) e (.str (rep1 x y z)) := fun σ F H g Q q => h σ F H g _ fun v F1 H1 w1 d1 => by
  cases d1
  exact ⟨x, rfl, hz, q _ F1 H1 w1 (.str _)⟩
end
/-! ### words -/
abbrev sgn (c : Nat) : Str := ⟨#[c]⟩
theorem tl_join1 (c : Nat) (x y : Str) (r : List Str) : tl (Str.join (sgn c) (x :: y :: r)) = tl x ++ c :: tl (Str.join (sgn c) (y :: r)) := by
  show tl (x ++ sgn c ++ Str.join (sgn c) (y :: r)) = _
  rw [tl_append, tl_append, List.append_assoc]; rfl
theorem cut_eq {c : Nat} : ∀ {a b p q : List Nat}, c ∉ a → c ∉ b → a ++ c :: p = b ++ c :: q → a = b ∧ p = q
  | [], [], _, _, _, _, h => ⟨rfl, (List.cons.inj h).2⟩
  | [], y :: b, _, _, _, hb, h => absurd (List.cons.inj h).1 fun e => hb (by rw [e]; exact List.mem_cons_self)
  | x :: a, [], _, _, ha, _, h => absurd (List.cons.inj h).1 fun e => ha (by rw [← e]; exact List.mem_cons_self)
  | x :: a, y :: b, _, _, ha, hb, h => by
    obtain ⟨h1, h2⟩ := List.cons.inj h
    obtain ⟨h3, h4⟩ := cut_eq (fun m => ha (List.mem_cons_of_mem _ m)) (fun m => hb (List.mem_cons_of_mem _ m)) h2
    exact ⟨by rw [h1, h3], h4⟩
/-- words that are free of a sign are told by the text in which it stands between them -/
theorem words_one {c : Nat} : ∀ {ps qs : List Str}, ps ≠ [] → qs ≠ [] → (∀ p ∈ ps, c ∉ tl p) → (∀ p ∈ qs, c ∉ tl p) → Str.join (sgn c) ps = Str.join (sgn c) qs → ps = qs
  | [], _, h, _, _, _, _ => absurd rfl h
  | _ :: _, [], _, h, _, _, _ => absurd rfl h
  | [x], [y], _, _, _, _, h => by rw [show x = y from h]
  | [x], y :: z :: r, _, _, h1, _, h => by
    have e : tl x = tl y ++ c :: tl (Str.join (sgn c) (z :: r)) := by rw [← tl_join1, ← h]; rfl
    exact absurd (show c ∈ tl x by rw [e]; simp) (h1 x List.mem_cons_self)
  | x :: z :: r, [y], _, _, _, h2, h => by
    have e : tl y = tl x ++ c :: tl (Str.join (sgn c) (z :: r)) := by rw [← tl_join1, h]; rfl
    exact absurd (show c ∈ tl y by rw [e]; simp) (h2 y List.mem_cons_self)
  | x :: z :: r, y :: u :: s, _, _, h1, h2, h => by
    have e : tl x ++ c :: tl (Str.join (sgn c) (z :: r)) = tl y ++ c :: tl (Str.join (sgn c) (u :: s)) := by rw [← tl_join1, ← tl_join1, h]
    obtain ⟨e1, e2⟩ := cut_eq (h1 x List.mem_cons_self) (h2 y List.mem_cons_self) e
    rw [ext_tl e1, words_one (by simp) (by simp) (fun p hp => h1 p (List.mem_cons_of_mem _ hp)) (fun p hp => h2 p (List.mem_cons_of_mem _ hp)) (ext_tl e2)]
theorem split_ne (x : Str) (c : Nat) : Txt.split x (sgn c) ≠ [] := fun h => by
  have := split_pos x (sgn c)
  rw [h] at this
  exact absurd this (by decide)
theorem split_join {c : Nat} {ws : List Str} (h : ws ≠ []) (hf : ∀ w ∈ ws, c ∉ tl w) : Txt.split (Str.join (sgn c) ws) (sgn c) = ws :=
  words_one (split_ne _ c) h (StrLaws.split_free _ c) hf (StrLaws.join_split _ _)
theorem join_app (c : Nat) : ∀ {ps qs : List Str}, ps ≠ [] → qs ≠ [] → Str.join (sgn c) (ps ++ qs) = Str.join (sgn c) ps ++ sgn c ++ Str.join (sgn c) qs
  | [], _, h, _ => absurd rfl h
  | [x], [], _, h => absurd rfl h
  | [x], y :: r, _, _ => rfl
  | x :: y :: r, qs, _, h => by
    have ih := join_app c (ps := y :: r) (by simp) h
    show x ++ sgn c ++ Str.join (sgn c) (y :: r ++ qs) = x ++ sgn c ++ Str.join (sgn c) (y :: r) ++ sgn c ++ Str.join (sgn c) qs
    rw [ih]
    refine ext_tl ?_
    simp only [tl_append, List.append_assoc]
theorem split_app (x y : Str) (c : Nat) : Txt.split (x ++ sgn c ++ y) (sgn c) = Txt.split x (sgn c) ++ Txt.split y (sgn c) := by
  have h1 := split_ne x c
  refine words_one (split_ne _ c) (by simp [h1]) (StrLaws.split_free _ c) (fun p hp => ?_) ?_
  · rcases List.mem_append.mp hp with z | z
    · exact StrLaws.split_free x c p z
    · exact StrLaws.split_free y c p z
  · rw [StrLaws.join_split, join_app c h1 (split_ne y c), StrLaws.join_split, StrLaws.join_split]
/-- the first sign replaced -/
theorem rep1_at {x z : Str} {c : Nat} (h : c ∈ tl x) : ∃ a b, x = a ++ sgn c ++ b ∧ rep1 x (sgn c) z = a ++ z ++ b := by
  have h1 : (firstIn x (sgn c)).isEmpty = false := by
    have := StrLaws.found_one x c
    rw [decide_eq_true (show c ∈ x.cps.toList from h)] at this
    simpa [firstIn] using this
  have h2 : (firstIn x (sgn c)).length ≤ 1 := StrLaws.occ_length_le x (sgn c) 0 x.length 1
  obtain ⟨f, ch⟩ := StrLaws.occ_chain x (sgn c) 1
  have ch' : StrLaws.ChainTo x (sgn c) x.length 0 (firstIn x (sgn c)) f := ch
  unfold rep1
  rw [h1]
  cases q : firstIn x (sgn c) with
  | nil => rw [q] at h1; cases h1
  | cons k r =>
    cases r with
    | cons _ _ => rw [q] at h2; simp at h2
    | nil =>
      rw [q] at ch'
      obtain ⟨_, at_, _⟩ := ch'
      refine ⟨strSub x 0 k, strSub x (k + (sgn c).length) x.length, ?_, ?_⟩
      · rw [StrLaws.sub_cat x (sgn c) (Nat.zero_le k) at_, StrLaws.sub_whole]
      · rw [if_neg (by simp [Str.length]), StrLaws.partsBetween_eq, StrLaws.glued_eq_join]
        rfl
end LH

set_option maxHeartbeats 400000
namespace LH
open PySem L2 TL PySem.Spec PyProof.Rows
def thingS (o : Str) (n : Int) : Str := o ++ Str.ofString "-" ++ Str.ofString (toString n)
theorem join3 (a b c : Str) : joinS Str.empty [a, b, c] = a ++ b ++ c := by
  show Str.empty ++ a ++ b ++ c = a ++ b ++ c
  have : Str.empty ++ a = a := ext_tl (by rw [tl_append]; rfl)
  rw [this]
theorem num_tl {n : Int} (h0 : 0 ≤ n) : tl (Str.ofString (toString n)) = numL n.toNat := by
  have e : n = ((n.toNat : Nat) : Int) := by omega
  rw [e, tl_num]
  rfl
theorem num_len {n : Int} (h0 : 0 ≤ n) (h1 : n ≤ 1000000000) : (Str.ofString (toString n)).length ≤ 10 := by
  rw [len_tl, num_tl h0]
  exact numL_len (by decide) (by omega)
theorem num_log {n : Int} (h0 : 0 ≤ n) (h1 : n ≤ 1000000000) : n.natAbs.log2 < 1920 := by
  have h : n.natAbs < 2 ^ 40 := by omega
  by_cases hz : n.natAbs = 0
  · rw [hz]; decide
  · have := (Nat.log2_lt hz).mpr h
    omega
theorem int_back {n : Int} (h0 : 0 ≤ n) (h1 : n ≤ 1000000000) : intText? (Str.ofString (toString n)) = some n := by
  have e : n = ((n.toNat : Nat) : Int) := by omega
  rw [e]
  refine int_num ?_
  have := numL_len (n := n.toNat) (k := 10) (by decide) (by omega)
  omega
/-- a cell of the script -/
def cellA (ns : List Int) (k : Int) : Int := if k < (ns.length : Int) then ns.getD k.toNat 0 else 7 * k
/-- the drawn name of an office -/
def offSt (c : Int) : Nat → Str × Int
  | 0 => (Str.ofString "", (c.natAbs : Int))
  | i + 1 => ((offSt c i).1 ++ ⟨#[97 + ((offSt c i).2 / 12 % 26).toNat]⟩, (offSt c i).2 / 7 + 31 * (i : Int))
def officeOf (c : Int) : Str := (offSt c (1 + (c.natAbs : Int) % 12).toNat).1
theorem offSt_len (c : Int) : ∀ i, (offSt c i).1.length = i
  | 0 => rfl
  | i + 1 => by
    show ((offSt c i).1 ++ (⟨#[97 + ((offSt c i).2 / 12 % 26).toNat]⟩ : Str)).length = i + 1
    rw [str_len_app, offSt_len c i]
    rfl
theorem abc_at {i : Int} (h0 : 0 ≤ i) (h1 : i < 26) : atI (tl (Str.ofString "abcdefghijklmnopqrstuvwxyz")) i = some (97 + i.toNat) := by
  refine atI_nat' h0 ?_
  have : ∀ j, j < 26 → (tl (Str.ofString "abcdefghijklmnopqrstuvwxyz"))[j]? = some (97 + j) := by decide +kernel
  exact this i.toNat (by omega)
theorem small_add {x : Int} (h0 : 0 ≤ x) (h1 : x < 26) : isSmall (97 + x.toNat) = true := by
  unfold isSmall; simp; omega
theorem offSt_small (c : Int) : ∀ i, ∀ k ∈ tl (offSt c i).1, isSmall k = true
  | 0, k, h => by cases h
  | i + 1, k, h => by
    have h' : k ∈ tl ((offSt c i).1 ++ (⟨#[97 + ((offSt c i).2 / 12 % 26).toNat]⟩ : Str)) := h
    rw [tl_append] at h'
    rcases List.mem_append.mp h' with z | z
    · exact offSt_small c i k z
    · have : k = 97 + ((offSt c i).2 / 12 % 26).toNat := by simpa [tl] using z
      rw [this]
      exact small_add (by omega) (by omega)
theorem officeOf_ok (c : Int) : isOffL (tl (officeOf c)) = true := by
  unfold isOffL officeOf
  have hl := offSt_len c (1 + (c.natAbs : Int) % 12).toNat
  rw [len_tl] at hl
  rw [hl]
  simp only [Bool.and_eq_true, decide_eq_true_eq, List.all_eq_true]
  exact ⟨by omega, by omega, offSt_small c _⟩
theorem off_free {l : List Nat} (h : isOffL l = true) : 45 ∉ l := fun hm => by
  unfold isOffL at h
  simp only [Bool.and_eq_true, List.all_eq_true] at h
  have := h.2.2 45 hm
  exact absurd this (by decide)
theorem off_okStr {o : Str} (h : isOffL (tl o) = true) : okStr o = true := okStr_iff.mpr fun c hc => by
  unfold isOffL at h
  simp only [Bool.and_eq_true, List.all_eq_true] at h
  have := small_lt (h.2.2 c hc)
  omega
def GoodS (k : Nat) (s : Str) : Prop := s.length ≤ k ∧ okStr s = true
theorem GoodS.app {a b : Nat} {x y : Str} (h : GoodS a x) (g : GoodS b y) : GoodS (a + b) (x ++ y) := ⟨by rw [str_len_app]; have := h.1; have := g.1; omega, okStr_iff.mpr fun c hc => by
  rw [tl_append] at hc
  rcases List.mem_append.mp hc with z | z
  · exact okStr_iff.mp h.2 c z
  · exact okStr_iff.mp g.2 c z⟩
theorem GoodS.mono {a b : Nat} {x : Str} (h : GoodS a x) (l : a ≤ b) : GoodS b x := ⟨Nat.le_trans h.1 l, h.2⟩
/-- a drawn text -/
def txtSt (c : Int) : Nat → Str × Int
  | 0 => (Str.ofString "", (c.natAbs : Int))
  | i + 1 => ((txtSt c i).1 ++ ⟨#[(tl (Str.ofString "abz-0A19_ y-x")).getD ((txtSt c i).2 / 16 % 13).toNat 0]⟩, (txtSt c i).2 / 13 + 5 * (i : Int))
def textOf (c : Int) : Str := (txtSt c ((c.natAbs : Int) % 16).toNat).1
theorem txtSt_len (c : Int) : ∀ i, (txtSt c i).1.length = i
  | 0 => rfl
  | i + 1 => by
    show ((txtSt c i).1 ++ (⟨#[(tl (Str.ofString "abz-0A19_ y-x")).getD ((txtSt c i).2 / 16 % 13).toNat 0]⟩ : Str)).length = i + 1
    rw [str_len_app, txtSt_len c i]
    rfl
theorem textOf_ok (c : Int) : okStr (textOf c) = true := by
  unfold textOf
  generalize ((c.natAbs : Int) % 16).toNat = n
  refine okStr_iff.mpr ?_
  induction n with
  | zero => intro k h; cases h
  | succ i ih =>
    intro k h
    have h' : k ∈ tl ((txtSt c i).1 ++ (⟨#[(tl (Str.ofString "abz-0A19_ y-x")).getD ((txtSt c i).2 / 16 % 13).toNat 0]⟩ : Str)) := h
    rw [tl_append] at h'
    rcases List.mem_append.mp h' with z | z
    · exact ih k z
    · have hk : k = (tl (Str.ofString "abz-0A19_ y-x")).getD ((txtSt c i).2 / 16 % 13).toNat 0 := by simpa [tl] using z
      have : ∀ j, (tl (Str.ofString "abz-0A19_ y-x")).getD j 0 < 0x110000 := fun j => by
        by_cases hj : j < 13
        · have : ∀ j, j < 13 → (tl (Str.ofString "abz-0A19_ y-x")).getD j 0 < 0x110000 := by decide +kernel
          exact this j hj
        · rw [List.getD_eq_getElem?_getD, List.getElem?_eq_none (by rw [show (tl (Str.ofString "abz-0A19_ y-x")).length = 13 from rfl]; omega)]; decide
      rw [hk]
      exact this _
theorem signs_at {i : Int} (h0 : 0 ≤ i) (h1 : i < 13) : atI (tl (Str.ofString "abz-0A19_ y-x")) i = some ((tl (Str.ofString "abz-0A19_ y-x")).getD i.toNat 0) := by
  refine atI_nat' h0 ?_
  have : ∀ j, j < 13 → (tl (Str.ofString "abz-0A19_ y-x"))[j]? = some ((tl (Str.ofString "abz-0A19_ y-x")).getD j 0) := by decide +kernel
  exact this i.toNat (by omega)
theorem not_small (c : Nat) : (decide ((⟨#[c]⟩ : Str).cps.toList < (Str.ofString "a").cps.toList) || decide ((Str.ofString "z").cps.toList < (⟨#[c]⟩ : Str).cps.toList)) = !isSmall c := by
  show (decide (([c] : List Nat) < [97]) || decide (([122] : List Nat) < [c])) = !isSmall c
  rw [sign_lt, sign_lt]
  unfold isSmall
  by_cases h1 : 97 ≤ c <;> by_cases h2 : c ≤ 122 <;> simp [h1, h2] <;> omega
theorem not_dig (c : Nat) : (decide ((⟨#[c]⟩ : Str).cps.toList < (Str.ofString "0").cps.toList) || decide ((Str.ofString "9").cps.toList < (⟨#[c]⟩ : Str).cps.toList)) = !isDig c := by
  show (decide (([c] : List Nat) < [48]) || decide (([57] : List Nat) < [c])) = !isDig c
  rw [sign_lt, sign_lt]
  unfold isDig
  by_cases h1 : 48 ≤ c <;> by_cases h2 : c ≤ 57 <;> simp [h1, h2] <;> omega
theorem lawOffice (s : Str) : ((decide ((1 : Int) ≤ (s.length : Int)) && decide ((s.length : Int) ≤ 12)) && (tl s).all fun c => !!isSmall c) = isOffL (tl s) := by
  unfold isOffL
  rw [len_tl]
  generalize tl s = l
  have e1 : decide ((1 : Int) ≤ (l.length : Int)) = decide (1 ≤ l.length) := decide_eq_decide.mpr (by omega)
  have e2 : decide ((l.length : Int) ≤ 12) = decide (l.length ≤ 12) := decide_eq_decide.mpr (by omega)
  rw [e1, e2, Bool.and_assoc]
  simp only [Bool.not_not]
theorem lawNumber (s : Str) : isNumL (tl s) = if (decide (s = Str.ofString "") || (decide ((⟨#[(tl s).getD 0 0]⟩ : Str) = Str.ofString "0") || (decide ((10 : Int) < (s.length : Int)) || !((tl s).filter fun c => !isDig c).isEmpty))) = true then false else decide ((NumText.digitsVal (tl s) : Int) ≤ 1000000000) := by
  have e0 : decide (s = Str.ofString "") = decide (tl s = []) := decide_eq_decide.mpr ⟨fun e => by rw [e]; rfl, fun e => ext_tl e⟩
  have e1 : decide ((⟨#[(tl s).getD 0 0]⟩ : Str) = Str.ofString "0") = decide ((tl s).getD 0 0 = 48) := decide_eq_decide.mpr ⟨fun e => by have := congrArg tl e; simpa [tl] using List.head_eq_of_cons_eq (this : [(tl s).getD 0 0] = [48]), fun e => by rw [e]; rfl⟩
  rw [e0, e1, len_tl, isEmpty_filter]
  unfold isNumL
  generalize tl s = l
  have e2 : decide ((10 : Int) < (l.length : Int)) = !decide (l.length ≤ 10) := by
    by_cases h : l.length ≤ 10
    · rw [decide_eq_true h, decide_eq_false (by omega)]; rfl
    · rw [decide_eq_false h, decide_eq_true (by omega)]; rfl
  have e3 : decide ((NumText.digitsVal l : Int) ≤ 1000000000) = decide (NumText.digitsVal l ≤ 1000000000) := decide_eq_decide.mpr (by omega)
  rw [e2, e3]
  cases l with
  | nil => rfl
  | cons c l =>
    simp only [Bool.not_not]
    by_cases h1 : c = 48
    · subst h1; simp
    · cases h2 : decide ((c :: l).length ≤ 10) <;> cases h3 : (c :: l).all isDig <;> simp [h1]
theorem sign_is (c k : Nat) : decide ((⟨#[c]⟩ : Str) = ⟨#[k]⟩) = (c == k) := by
  by_cases h : c = k
  · subst h; simp
  · rw [decide_eq_false (fun e => h (by have := congrArg tl e; exact List.head_eq_of_cons_eq (this : [c] = [k])))]
    simp [h]
theorem cut_to (s : Str) (j : Nat) : tl (cutS s none (some (j : Int))) = (tl s).take j := by
  unfold cutS
  rw [tl_mk, HT.sIx_none, HT.sIx_nat, List.drop_zero, Nat.sub_zero, len_tl]
  show (tl s).take (min j (tl s).length) = (tl s).take j
  by_cases h : j ≤ (tl s).length
  · rw [Nat.min_eq_left h]
  · rw [Nat.min_eq_right (by omega), List.take_of_length_le (Nat.le_refl _), List.take_of_length_le (by omega)]
theorem cut_from (s : Str) (j : Nat) : tl (cutS s (some (j : Int)) none) = (tl s).drop j := by
  unfold cutS
  rw [tl_mk, HT.sIx_none, HT.sIx_nat, len_tl]
  show ((tl s).drop (min j (tl s).length)).take ((tl s).length - min j (tl s).length) = (tl s).drop j
  by_cases h : j ≤ (tl s).length
  · rw [Nat.min_eq_left h, List.take_of_length_le (by rw [List.length_drop]; omega)]
  · rw [Nat.min_eq_right (by omega), List.drop_of_length_le (Nat.le_refl _), List.drop_of_length_le (by omega)]; simp
/-- a drawn number -/
def numberOf (c : Int) : Int := [1 + c / 4 % 9, 1 + c / 4 % 1000000000, 1000000000 - c / 4 % 3, 1 + c / 4 % 200].getD (c % 4).toNat 0
theorem numberOf_in (c : Int) : 1 ≤ numberOf c ∧ numberOf c ≤ 1000000000 := by
  unfold numberOf
  rcases (by omega : c % 4 = 0 ∨ c % 4 = 1 ∨ c % 4 = 2 ∨ c % 4 = 3) with e | e | e | e <;> rw [e] <;> simp <;> omega
end LH
namespace LH
open PySem L2 PySem.Spec PyProof.Rows
section
variable {C : Ct} {e e' : En} {d : PyData} {te : TE} {D : Ends}
/-- f(..) of a def that may raise, with what it raises wished for at the caller's slots -/
theorem x_callS {f : SpR} {tr : TA} {sl : List Sl} {E : Stt → XK} (sl0 : List Sl) (js : List Nat) (os os' : List Ow) (h : SvA C tr e sl) (hf : f sl0 os (.ret d) os') (hsl : sl = sl0.map (ren js) := by rfl) (hos : js.map (fun j => e.o[j]?) = os.map some := by rfl) (hl' : os'.length = js.length := by rfl)
    (hj : js.Nodup := by decide) (hall : ((List.range js.length).all fun i => hasO sl0 i) = true := by rfl) (hbd : inO sl0 js.length = true := by rfl) : EvX C (tCallS (spO C.K f) E tr) e d ⟨e.s, putO e.o js os', e.g⟩ :=
  fun σ F H gd Q q => call_x sl0 js os os' h hf hsl hos hl' hj hall hbd σ F H gd Q (E σ) q
theorem cx_errS {f : SpR} {tr : TA} {sl : List Sl} {E : Stt → XK} {c : Addr} (sl0 : List Sl) (js : List Nat) (os os' : List Ow) (h : SvA C tr e sl) (hf : f sl0 os (.err c) os') (k : ∀ σ F2 H2, Good C ⟨e.s, putO e.o js os', e.g⟩ σ F2 H2 → E σ (.ref c) none H2) (hsl : sl = sl0.map (ren js) := by rfl) (hos : js.map (fun j => e.o[j]?) = os.map some := by rfl) (hl' : os'.length = js.length := by rfl)
    (hj : js.Nodup := by decide) (hall : ((List.range js.length).all fun i => hasO sl0 i) = true := by rfl) (hbd : inO sl0 js.length = true := by rfl) : ∀ σ F H, Good C e σ F H → ∀ Q : VK, tCallS (spO C.K f) E tr σ H Q :=
  fun σ F H gd Q => call_x sl0 js os os' h hf hsl hos hl' hj hall hbd σ F H gd Q (E σ) fun F2 H2 _ g2 => k σ F2 H2 g2
theorem cx_errF {f : SpR} {tr : TA} {sl : List Sl} {E : Stt → XK} {c : Addr} {fl : List (Str × V)} (sl0 : List Sl) (js : List Nat) (os os' : List Ow) (h : SvA C tr e sl) (hf : f sl0 os (.errF c fl) os') (k : ∀ σ F2 H2 dd, Good C ⟨e.s, putO e.o js os', e.g⟩ σ F2 H2 → H2 dd = some (.xd fl) → E σ (.ref c) (some dd) H2) (hsl : sl = sl0.map (ren js) := by rfl) (hos : js.map (fun j => e.o[j]?) = os.map some := by rfl) (hl' : os'.length = js.length := by rfl)
    (hj : js.Nodup := by decide) (hall : ((List.range js.length).all fun i => hasO sl0 i) = true := by rfl) (hbd : inO sl0 js.length = true := by rfl) : ∀ σ F H, Good C e σ F H → ∀ Q : VK, tCallS (spO C.K f) E tr σ H Q :=
  fun σ F H gd Q => call_x sl0 js os os' h hf hsl hos hl' hj hall hbd σ F H gd Q (E σ) fun F2 H2 dd _ g2 hd => k σ F2 H2 dd g2 hd
end
theorem pg_unlK {X : Cx} {K : PySem.W.Frag} {pos : Pos} {es : List Expr} {k : Nat} {t : TGs} {n : Nat} (hK : X.K = K) (hc : X.calm = true) (h : PGs X es t) (hn : (assignEach es X.env).length = n := by rfl) (hst : (assignEach es X.env).findIdx? (·.1) = none := by rfl) : PG X (.Tuple es k pos) (gUnl K n t) := by subst hK; exact pg_unl hc h hn hst
theorem tg_unl {C : Ct} {e e' : En} {js : List Nat} {gs : TGs} {ds : List PyData} {n : Nat} (h : TgsE C gs js ds e e') (hn : ds.length = n) : TgE C (gUnl C.K n gs) js (.list ds) e e' := fun σ F H v gd r Q q => by
  obtain ⟨a, xs, rfl, hs, r⟩ := dp_list r
  exact ⟨a, xs, rfl, Evl.ex_l gd.fh hs, (dps_len r).trans hn, h σ F H xs gd r Q q⟩
end LH
namespace LH
open PySem L2 PySem.Spec PyProof.Rows
/-- tuple(x), x a list or a tuple -/
def rTupA (K : PySem.W.Frag) : List V → Hp → VK → Prop := fun xs H Q => ∃ p ys, xs = [.ref p] ∧ ((SqL K H p ys ∧ ∀ l, H l = none → Q (.ref l) (upd H l (.tup ys))) ∨ (SqT K H p ys ∧ Q (.ref p) H))
theorem call_tupK {X : Cx} {K : PySem.W.Frag} (hK : X.K = K) : CallR X (.type "tuple") (rTupA K) := by subst hK; exact call_tuple_of
section
variable {C : Ct} {e : En} {ds : List PyData}
theorem ee_tupO {i j : Nat} (hi : e.s[i]? = some (.o j)) (hj : e.o[j]? = some (Ow.lst C.K ds)) : EvE C (tCB (rTupA C.K) (tCons (tVar i) tNil)) e (.tuple ds) := fun σ F H gd Q q => by
  obtain ⟨a, xs, e1, hH, rx⟩ := own_at hi hj gd
  exact ⟨.ref a, e1, a, xs, rfl, .inl ⟨Evl.sq_of hH, fun p hp => q _ _ _ (Grow.alloc gd.fh hp) (.tup (Evl.st_of upd_same) (dps_mono (Evl.Ex.new (ex_none gd.fh hp)) _ _ rx))⟩⟩
/-- a state that there is not -/
theorem run_bad {P : Stt → Hp → Prop} {i n : Nat} (h : e.s[i]? = some (.o n)) (hn : e.o.length ≤ n) : Run C e P := fun σ F H gd => by
  obtain ⟨as, hs, pa⟩ := gd.parts
  have hi' : i < σ.length := Nat.lt_of_lt_of_le (List.getElem?_eq_some_iff.mp h).1 pa.len
  obtain ⟨a, ea, eas⟩ := pa.slot i _ _ h (List.getElem?_eq_getElem hi')
  have := (List.getElem?_eq_some_iff.mp eas).1
  rw [pa.la] at this
  exact absurd this (Nat.not_lt_of_le hn)
end
end LH
namespace LH
open PySem L2 PySem.Spec PyProof.Rows
section
variable {C : Ct} {e : En} {te tl' : TE} {tt : TT} {g : TG} {vs : List Nat}
/-- a comprehension over a tuple, of all its items -/
theorem ee_lcT' {ds : List PyData} (h : EvE C tl' e (.tuple ds)) (k : PyData → PyData) (hn : ds.length ≤ 1000000)
    (hb : ∀ x ∈ ds, ∃ bE, TgE C g vs x ⟨wipeS e.s vs, e.o, e.g⟩ bE ∧ EvB C tt bE true ∧ EvE C te bE (k x)) : EvE C (tLc (iTup C.K tl') g tt te vs) e (.list (ds.map k)) := by
  by_cases hx : ds = []
  · subst hx
    exact EvE.is (ee_lcT h (fun _ => true) (fun _ => .none) (by simp) fun i d hd => by simp at hd) rfl
  · obtain ⟨x0, hx0⟩ := List.exists_mem_of_ne_nil _ hx
    have hc : ∀ i x, ds[i]? = some x → ds.getD i x0 = x := fun i x h => by rw [List.getD_eq_getElem?_getD, h]; rfl
    refine EvE.is (ee_lcT h (fun _ => true) (fun i => k (ds.getD i x0)) hn fun i d hi => ?_) ?_
    · obtain ⟨bE, h1, h2, h3⟩ := hb d (List.mem_of_getElem? hi)
      exact ⟨bE, h1, h2, fun _ => by rw [hc i d hi]; exact h3⟩
    · have := givenD_filter ds (fun _ => true) (fun i => k (ds.getD i x0)) (fun _ => true) k (fun _ _ _ => rfl) (fun i x h => by rw [hc i x h])
      rw [List.filter_eq_self.mpr fun _ _ => rfl] at this
      exact congrArg PyData.list this
end
end LH
namespace LH
open PySem L2 PySem.Spec PyProof.Rows
/-- except X as n: return isinstance(n, Y) and not isinstance(n, Z), at an exception of X -/
theorem exc_isNot {C : Ct} {e : En} {D : Ends} {σ : Stt} {F H : Hp} {i : Nat} {A B B2 : Addr} {W : WX} (gd : Good C e σ F H) (hi : i < e.s.length) (hx : PySem.W.exmOne C.K (.ref A) (.ref A) = some true) (hk : PySem.W.kitOne C.K (.ref A) (.ref B) = some true) (hk2 : PySem.W.kitOne C.K (.ref A) (.ref B2) = some false) (hR : RetE C e D (.bool true)) :
    WE (wAs C.K (.ref A) i (fun a cls d => tRet (tAndV (tCB (rIsX C.K A a cls d) (tCons (tVar i) (tCons (tC (.ref B)) tNil))) (tNotV (tCB (rIsX C.K A a cls d) (tCons (tVar i) (tCons (tC (.ref B2)) tNil)))))) W D) σ (.ref A) none H := by
  refine ⟨true, hx, fun _ a ha => ?_, fun h => by cases h⟩
  obtain ⟨as, hs, p⟩ := gd.parts
  have hl : i < σ.length := Nat.lt_of_lt_of_le hi p.len
  have hg : (σ.set i (some (.ref a)))[i]? = some (some (.ref a)) := by rw [List.getElem?_set_self hl]
  refine ⟨.ref a, hg, rfl, rfl, .ref B, .ref B, true, rfl, fun u h => h, hk, true, rfl, ?_⟩
  rw [if_pos rfl]
  refine ⟨.ref a, hg, rfl, rfl, .ref B2, .ref B2, false, rfl, fun u h => h, hk2, false, rfl, ?_⟩
  exact hR σ (.bl true) F H gd (.bl _)
end LH

set_option maxHeartbeats 400000
/-! letters, by words: a mirror -/
namespace LH
open PySem L2 TL PySem.Spec PyProof.Rows
def kinds : List (Str × List Str) := [("deed", ["office", "office", "thing", "office", "number", "number"]), ("receipt", ["office", "office", "thing", "number"]), ("notice", ["office", "office", "thing"]), ("noted", ["office", "office", "thing"]), ("claim", ["office", "office", "thing", "number"]), ("paid", ["office", "office", "thing", "number"])]
/-- what a word stands for -/
def wordD (k x : Str) : PyData :=
  if k = Str.ofString "number" then (if isNumL (tl x) = true then .int (NumText.digitsVal (tl x)) else .none)
  else if k = Str.ofString "thing" then (if isThingL (tl x) = true then .str x else .none)
  else if isOffL (tl x) = true then .str x else .none
def rowD (ks ws : List Str) : List PyData := (ks.zip ws).map fun p => wordD p.1 p.2
def rowsD (ks ws : List Str) : PyData := if ws.length = ks.length + 1 ∧ (rowD ks ws.tail).any isNone = false then .tuple (.str (ws.headD (Str.ofString "")) :: rowD ks ws.tail) else .none
theorem cut1 (x : Str) (ws : List Str) : LH.cutD ((x :: ws).map PyData.str) (some 1) none = ws.map .str := by
  unfold LH.cutD
  rw [show HT.sIx ((x :: ws).map PyData.str).length 0 (some 1) = min 1 ((x :: ws).map PyData.str).length from HT.sIx_nat _ _ 1, HT.sIx_none]
  have e : min 1 ((x :: ws).map PyData.str).length = 1 := by simp
  rw [e]
  show ((ws.map PyData.str)).take _ = _
  rw [List.take_of_length_le (by simp)]
theorem rowD_len {ks ws : List Str} (h : ks.length = ws.length) : (rowD ks ws).length = ks.length := by unfold rowD; simp [h]
theorem rowD_at {ks ws : List Str} {i : Nat} {k x : Str} (h1 : ks[i]? = some k) (h2 : ws[i]? = some x) : (rowD ks ws)[i]? = some (wordD k x) := by
  unfold rowD
  rw [List.getElem?_map, show (ks.zip ws)[i]? = some (k, x) from List.getElem?_zip_eq_some.mpr ⟨h1, h2⟩]; rfl
/-- a word as it is written -/
def strD : PyData → Str
  | .str s => s
  | .int i => Str.ofString (toString i)
  | _ => Str.ofString ""
def Wr (d : PyData) : Prop := (∃ s : Str, d = .str s ∧ s.length ≤ 1000) ∨ ∃ i : Int, d = .int i ∧ 0 ≤ i ∧ i ≤ 1000000000
theorem Wr.len {d : PyData} (h : Wr d) : (strD d).length ≤ 1000 := by
  rcases h with ⟨s, rfl, h⟩ | ⟨i, rfl, h0, h1⟩
  · exact h
  · exact Nat.le_trans (num_len h0 h1) (by decide)
theorem sum_len {ws : List Str} (h : ∀ x ∈ ws, x.length ≤ 1000) : (ws.map (·.length)).sum ≤ 1000 * ws.length := by
  induction ws with
  | nil => simp
  | cons x ws ih =>
    have h1 := h x List.mem_cons_self
    have h2 := ih fun y hy => h y (List.mem_cons_of_mem _ hy)
    simp only [List.map_cons, List.sum_cons, List.length_cons]
    omega
abbrev joinW (ws : List Str) : Str := Str.join (sgn 32) ws
/-- the letter of a text's words, or none -/
def letW (ws : List Str) : PyData := match kinds.find? (fun r => r.1 == ws.headD (Str.ofString "")) with
  | some r => rowsD r.2 ws
  | none => .none
theorem officeOf_len (c : Int) : (officeOf c).length ≤ 12 := by
  have ho := officeOf_ok c
  rw [len_tl]; unfold isOffL at ho; simp only [Bool.and_eq_true, decide_eq_true_eq] at ho; omega
def shp : Nat → Str × Str
  | 0 => (Str.ofString "deed", Str.ofString "ooionn")
  | 1 => (Str.ofString "receipt", Str.ofString "ooin")
  | 2 => (Str.ofString "notice", Str.ofString "ooi")
  | 3 => (Str.ofString "noted", Str.ofString "ooi")
  | 4 => (Str.ofString "claim", Str.ofString "ooin")
  | _ => (Str.ofString "paid", Str.ofString "ooin")
theorem shp_split (m : Nat) : Txt.split ((shp m).1 ++ sgn 32 ++ (shp m).2) (sgn 32) = [(shp m).1, (shp m).2] := by
  refine split_join (c := 32) (ws := [(shp m).1, (shp m).2]) (by simp) ?_
  have : ∀ w ∈ [(shp m).1, (shp m).2], (tl w).contains 32 = false := by
    match m with
    | 0 => decide +kernel
    | 1 => decide +kernel
    | 2 => decide +kernel
    | 3 => decide +kernel
    | 4 => decide +kernel
    | _ + 5 => exact (by decide +kernel : ∀ w ∈ [Str.ofString "paid", Str.ofString "ooin"], (tl w).contains 32 = false)
  intro w hw hm
  have := this w hw
  rw [List.contains_iff_mem.mpr hm] at this
  cases this
def valD (ns : List Int) (sh : Str) (k : Nat) : PyData :=
  if (tl sh).getD k 0 = 110 then .int (numberOf (cellA ns (2 + (k : Int))))
  else if (tl sh).getD k 0 = 111 then .str (officeOf (cellA ns (2 + (k : Int))))
  else .str (thingS (officeOf (cellA ns (2 + (k : Int)) / 5)) (numberOf (cellA ns (2 + (k : Int)) / 3)))
def letD (ns : List Int) (w sh : Str) : List PyData := .str w :: (List.range sh.length).map (valD ns sh)
theorem sgn_is (c k : Nat) (x : Str) (hx : x = sgn k) : decide ((sgn c) = x) = decide (c = k) := by
  subst hx
  exact decide_eq_decide.mpr ⟨fun e => List.head_eq_of_cons_eq (congrArg tl e : [c] = [k]), fun e => by rw [e]⟩
def badW (k : Nat) : List Str :=
  if k = 110 then ["0", "1000000001", "-1", "01", "+1", "", "x"]
  else if k = 111 then ["", "abcdefghijklm", "Ab", "a1", "ash-1", "7"]
  else ["", "ash", "ash-0", "ash-01", "ash-1000000001", "Ash-1", "ash-1-2", "7"]
end LH

set_option maxHeartbeats 400000
namespace LH
open PySem L2 TL PySem.Spec PyProof.Rows
theorem numL_head : ∀ (n : Nat), 1 ≤ n → (numL n).head? ≠ some 48 := by
  intro n
  induction n using Nat.strongRecOn with
  | _ n ih =>
    intro h1 h2
    by_cases h : n < 10
    · rw [numL_lt h] at h2
      have : 48 + n = 48 := by simpa using h2
      omega
    · rw [numL_step (by omega)] at h2
      have := ih (n / 10) (by omega) (by omega)
      cases q : numL (n / 10) with
      | nil => exact numL_ne _ q
      | cons a r => rw [q] at h2 this; exact this (by simpa using h2)
theorem num_ok {n : Int} (h0 : 1 ≤ n) (h1 : n ≤ 1000000000) : isNumL (tl (Str.ofString (toString n))) = true ∧ ((NumText.digitsVal (tl (Str.ofString (toString n))) : Nat) : Int) = n := by
  rw [num_tl (by omega)]
  have hv := numL_val n.toNat
  refine ⟨?_, by rw [hv]; omega⟩
  unfold isNumL
  rw [hv]
  have h2 : 1 ≤ (numL n.toNat).length := Nat.pos_of_ne_zero fun z => numL_ne n.toNat (List.length_eq_zero_iff.mp z)
  have h3 : (numL n.toNat).length ≤ 10 := numL_len (by decide) (by omega)
  have h4 : ((numL n.toNat).head? == some 48) = false := by
    have := numL_head n.toNat (by omega)
    simpa using this
  have h5 : (numL n.toNat).all isDig = true := by
    rw [List.all_eq_true]
    intro c hc
    by_cases q : 48 ≤ c ∧ c ≤ 57
    · unfold isDig; simp [q]
    · exact absurd hc (numL_free (by omega))
  rw [decide_eq_true h2, decide_eq_true h3, h4, h5, decide_eq_true (by omega)]
  rfl
theorem thing_ok {o : Str} {n : Int} (ho : isOffL (tl o) = true) (h0 : 1 ≤ n) (h1 : n ≤ 1000000000) : isThingL (tl (thingS o n)) = true := by
  rw [← thing_iff, show Txt.partition (thingS o n) (Str.ofString "-") = (o, Str.ofString "-", Str.ofString (toString n)) from partition_app (s := 45) (S := []) rfl (off_free ho)]
  show (isOffL (tl o) && numP (Str.ofString (toString n))) = true
  rw [ho, number_iff, (num_ok h0 h1).1]; rfl
def kindOf (c : Nat) : Str := if c = 110 then Str.ofString "number" else if c = 111 then Str.ofString "office" else Str.ofString "thing"
theorem word_val (ns : List Int) (sh : Str) (k : Nat) : wordD (kindOf ((tl sh).getD k 0)) (strD (valD ns sh k)) = valD ns sh k := by
  unfold valD kindOf
  by_cases h : (tl sh).getD k 0 = 110
  · rw [if_pos h, if_pos h]
    have hn := numberOf_in (cellA ns (2 + (k : Int)))
    have ho := num_ok hn.1 hn.2
    unfold wordD strD
    rw [if_pos rfl, if_pos ho.1, ho.2]
  · rw [if_neg h, if_neg h]
    by_cases h2 : (tl sh).getD k 0 = 111
    · rw [if_pos h2, if_pos h2]
      unfold wordD strD
      rw [if_neg (by decide +kernel), if_neg (by decide +kernel), if_pos (officeOf_ok _)]
    · rw [if_neg h2, if_neg h2]
      have hn := numberOf_in (cellA ns (2 + (k : Int)) / 3)
      unfold wordD strD
      rw [if_neg (by decide +kernel), if_pos rfl, if_pos (thing_ok (officeOf_ok _) hn.1 hn.2)]
theorem num_free {n : Int} (h0 : 1 ≤ n) (h1 : n ≤ 1000000000) : 32 ∉ tl (Str.ofString (toString n)) := by
  rw [num_tl (by omega)]
  exact numL_free (.inl (by decide))
theorem off_free32 (c : Int) : 32 ∉ tl (officeOf c) := fun hm => by
  have h := officeOf_ok c
  unfold isOffL at h
  simp only [Bool.and_eq_true, List.all_eq_true] at h
  exact absurd (h.2.2 32 hm) (by decide)
theorem val_free (ns : List Int) (sh : Str) (k : Nat) : 32 ∉ tl (strD (valD ns sh k)) := by
  unfold valD
  split
  · exact num_free (numberOf_in _).1 (numberOf_in _).2
  · split
    · exact off_free32 _
    · unfold strD thingS
      rw [tl_append, tl_append]
      intro hm
      rcases List.mem_append.mp hm with z | z
      · rcases List.mem_append.mp z with z | z
        · exact off_free32 _ z
        · exact absurd z (by decide +kernel)
      · exact num_free (numberOf_in _).1 (numberOf_in _).2 z
theorem val_wr (ns : List Int) (sh : Str) (k : Nat) : Wr (valD ns sh k) := by
  unfold valD
  split
  · have h := numberOf_in (cellA ns (2 + (k : Int)))
    exact .inr ⟨_, rfl, by omega, h.2⟩
  · split
    · exact .inl ⟨_, rfl, Nat.le_trans (officeOf_len _) (by decide)⟩
    · have h := numberOf_in (cellA ns (2 + (k : Int)) / 3)
      have h1 := officeOf_len (cellA ns (2 + (k : Int)) / 5)
      have h2 := num_len (n := numberOf (cellA ns (2 + (k : Int)) / 3)) (by omega) h.2
      refine .inl ⟨_, rfl, ?_⟩
      unfold thingS
      rw [str_len_app, str_len_app, show (Str.ofString "-").length = 1 from rfl]
      omega
theorem val_some (ns : List Int) (sh : Str) (k : Nat) : isNone (valD ns sh k) = false := by
  unfold valD
  split
  · rfl
  · split <;> rfl
/-- the words of a drawn letter, behind the first -/
def tailW (ns : List Int) (sh : Str) : List Str := (List.range sh.length).map fun k => strD (valD ns sh k)
theorem row_vals (ns : List Int) (sh : Str) : rowD ((tl sh).map kindOf) (tailW ns sh) = (List.range sh.length).map (valD ns sh) := by
  have hl : ((tl sh).map kindOf).length = (tailW ns sh).length := by unfold tailW; rw [List.length_map, List.length_map, List.length_range, len_tl]
  refine List.ext_getElem? fun i => ?_
  by_cases h : i < sh.length
  · have h1 : ((tl sh).map kindOf)[i]? = some (kindOf ((tl sh).getD i 0)) := by
      rw [List.getElem?_map, List.getD_eq_getElem?_getD, List.getElem?_eq_getElem (by rw [← len_tl]; exact h)]; rfl
    have h2 : (tailW ns sh)[i]? = some (strD (valD ns sh i)) := by
      unfold tailW
      rw [List.getElem?_map, List.getElem?_range h]; rfl
    rw [rowD_at h1 h2, word_val, List.getElem?_map, List.getElem?_range h]; rfl
  · rw [List.getElem?_eq_none (by rw [rowD_len hl, List.length_map, ← len_tl]; omega), List.getElem?_eq_none (by rw [List.length_map, List.length_range]; omega)]
theorem find_kind (m : Nat) : kinds.find? (fun r => r.1 == (shp m).1) = some ((shp m).1, (tl (shp m).2).map kindOf) := by
  match m with
  | 0 => decide +kernel
  | 1 => decide +kernel
  | 2 => decide +kernel
  | 3 => decide +kernel
  | 4 => decide +kernel
  | _ + 5 => exact (by decide +kernel : kinds.find? (fun r => r.1 == (shp 5).1) = some ((shp 5).1, (tl (shp 5).2).map kindOf))
theorem let_rows (m : Nat) (wt : List Str) : letW ((shp m).1 :: wt) = rowsD ((tl (shp m).2).map kindOf) ((shp m).1 :: wt) := by
  unfold letW
  rw [show ((shp m).1 :: wt).headD (Str.ofString "") = (shp m).1 from rfl, find_kind]
theorem let_good (ns : List Int) (m : Nat) : letW ((shp m).1 :: tailW ns (shp m).2) = .tuple (letD ns (shp m).1 (shp m).2) := by
  rw [let_rows]
  unfold rowsD
  rw [show ((shp m).1 :: tailW ns (shp m).2).tail = tailW ns (shp m).2 from rfl, row_vals, if_pos]
  · rfl
  · refine ⟨by unfold tailW; rw [List.length_cons, List.length_map, List.length_map, List.length_range, len_tl], ?_⟩
    cases q : ((List.range (shp m).2.length).map (valD ns (shp m).2)).any isNone with
    | false => rfl
    | true =>
      obtain ⟨d, hd, e⟩ := List.any_eq_true.mp q
      obtain ⟨k, _, rfl⟩ := List.mem_map.mp hd
      rw [val_some] at e
      cases e
theorem bad_len (m : Nat) {wt : List Str} (h : wt.length ≠ (shp m).2.length) : isNone (letW ((shp m).1 :: wt)) = true := by
  rw [let_rows]
  unfold rowsD
  rw [if_neg fun z => h (by have := z.1; rw [List.length_cons, List.length_map, ← len_tl] at this; omega)]
  rfl
theorem bad_head {w0 : Str} {wt : List Str} (h : kinds.find? (fun r => r.1 == w0) = none) : isNone (letW (w0 :: wt)) = true := by
  unfold letW
  rw [show (w0 :: wt).headD (Str.ofString "") = w0 from rfl, h]
  rfl
theorem bad_word (m : Nat) {wt : List Str} {i : Nat} {x : Str} (hi : i < (shp m).2.length) (hx : wt[i]? = some x) (hw : wordD (kindOf ((tl (shp m).2).getD i 0)) x = .none) : isNone (letW ((shp m).1 :: wt)) = true := by
  rw [let_rows]
  unfold rowsD
  rw [if_neg]
  · rfl
  · intro z
    have h1 : ((tl (shp m).2).map kindOf)[i]? = some (kindOf ((tl (shp m).2).getD i 0)) := by
      rw [List.getElem?_map, List.getD_eq_getElem?_getD, List.getElem?_eq_getElem (by rw [← len_tl]; exact hi)]; rfl
    have h2 := rowD_at h1 hx
    have : (rowD ((tl (shp m).2).map kindOf) ((shp m).1 :: wt).tail).any isNone = true := List.any_eq_true.mpr ⟨_, List.mem_of_getElem? h2, by rw [hw]; rfl⟩
    rw [z.2] at this
    cases this
end LH

set_option maxHeartbeats 400000
namespace LH
open PySem L2 TL PySem.Spec PyProof.Rows
def BadT (s : Str) : Prop := s.length ≤ 90000 ∧ isNone (letW (Txt.split s (sgn 32))) = true
def Fw (w : Str) : Prop := 32 ∉ tl w ∧ w.length ≤ 1010
theorem sum_len' {ws : List Str} {k : Nat} (h : ∀ x ∈ ws, x.length ≤ k) : (ws.map (·.length)).sum ≤ k * ws.length := by
  induction ws with
  | nil => simp
  | cons x ws ih =>
    have h1 := h x List.mem_cons_self
    have h2 := ih fun y hy => h y (List.mem_cons_of_mem _ hy)
    simp only [List.map_cons, List.sum_cons, List.length_cons, Nat.mul_succ]
    omega
theorem join_len {V : List Str} (hf : ∀ w ∈ V, Fw w) (hn : V.length ≤ 20) : (joinW V).length ≤ 80000 := by
  have h1 := StrLaws.join_length_le (sgn 32) V
  have h2 := sum_len' (ws := V) (k := 1010) fun x hx => (hf x hx).2
  rw [show (sgn 32).length = 1 from rfl] at h1
  show (Str.join (sgn 32) V).length ≤ 80000
  omega
theorem badT_of {V : List Str} (hne : V ≠ []) (hf : ∀ w ∈ V, Fw w) (hn : V.length ≤ 20) (h : isNone (letW V) = true) : BadT (joinW V) := by
  refine ⟨Nat.le_trans (join_len hf hn) (by decide), ?_⟩
  rw [split_join hne fun w hw => (hf w hw).1]
  exact h
theorem fw_app {a b : Str} (h1 : Fw a) (h2 : 32 ∉ tl b) (h3 : b.length ≤ 1) (h4 : a.length ≤ 1000) : Fw (a ++ b) := ⟨fun hm => by
  rw [tl_append] at hm
  rcases List.mem_append.mp hm with z | z
  · exact h1.1 z
  · exact h2 z, by rw [str_len_app]; omega⟩
theorem fw_lit {w : Str} (h : (!(tl w).contains 32 && decide (w.length ≤ 1010)) = true) : Fw w := by
  simp only [Bool.and_eq_true, Bool.not_eq_true', decide_eq_true_eq] at h
  exact ⟨fun hm => by rw [List.contains_iff_mem.mpr hm] at h; exact absurd h.1 (by decide), h.2⟩
theorem shp_fw (m : Nat) : Fw (shp m).1 ∧ (shp m).1.length ≤ 10 ∧ 3 ≤ (shp m).2.length ∧ (shp m).2.length ≤ 6 := by
  match m with
  | 0 => exact ⟨fw_lit (by decide +kernel), by decide +kernel⟩
  | 1 => exact ⟨fw_lit (by decide +kernel), by decide +kernel⟩
  | 2 => exact ⟨fw_lit (by decide +kernel), by decide +kernel⟩
  | 3 => exact ⟨fw_lit (by decide +kernel), by decide +kernel⟩
  | 4 => exact ⟨fw_lit (by decide +kernel), by decide +kernel⟩
  | _ + 5 => exact (⟨fw_lit (by decide +kernel), by decide +kernel⟩ : Fw (shp 5).1 ∧ (shp 5).1.length ≤ 10 ∧ 3 ≤ (shp 5).2.length ∧ (shp 5).2.length ≤ 6)
theorem tail_fw (ns : List Int) (sh : Str) : ∀ w ∈ tailW ns sh, Fw w ∧ w.length ≤ 1000 := fun w hw => by
  obtain ⟨k, _, rfl⟩ := List.mem_map.mp hw
  have := (val_wr ns sh k).len
  exact ⟨⟨val_free ns sh k, by omega⟩, this⟩
theorem tail_len (ns : List Int) (sh : Str) : (tailW ns sh).length = sh.length := by unfold tailW; rw [List.length_map, List.length_range]
section
variable (ns : List Int) (m : Nat)
abbrev wd (m : Nat) : Str := (shp m).1
abbrev tw (ns : List Int) (m : Nat) : List Str := tailW ns (shp m).2
abbrev allW (ns : List Int) (m : Nat) : List Str := wd m :: tw ns m
theorem all_fw : ∀ w ∈ allW ns m, Fw w := fun w hw => by
  rcases List.mem_cons.mp hw with z | z
  · rw [z]; exact (shp_fw m).1
  · exact (tail_fw ns _ w z).1
theorem all_len : (allW ns m).length ≤ 7 := by
  have := (shp_fw m).2.2.2
  rw [List.length_cons, tail_len]; omega
theorem t_app (x : Str) : joinW (allW ns m) ++ sgn 32 ++ x = joinW (wd m :: (tw ns m ++ [x])) := (join_app 32 (ps := allW ns m) (qs := [x]) (by simp) (by simp)).symm
theorem bad_app {x : Str} (hx : Fw x) : BadT (joinW (allW ns m) ++ sgn 32 ++ x) := by
  rw [t_app]
  refine badT_of (by simp) (fun w hw => ?_) (by have := all_len ns m; simp at this ⊢; omega) (bad_len m ?_)
  · have hw' : w ∈ allW ns m ++ [x] := hw
    rcases List.mem_append.mp hw' with z | z
    · exact all_fw ns m w z
    · rw [List.mem_singleton.mp z]; exact hx
  · rw [List.length_append, tail_len]; simp
theorem bad1 : BadT (joinW (allW ns m) ++ Str.ofString " ") := by
  have := bad_app ns m (x := Str.ofString "") (fw_lit (by decide +kernel))
  rwa [show joinW (allW ns m) ++ sgn 32 ++ Str.ofString "" = joinW (allW ns m) ++ Str.ofString " " from ext_tl (by simp only [tl_append, List.append_assoc]; rfl)] at this
theorem bad3 : BadT (joinW (allW ns m) ++ Str.ofString " 1") := by
  have := bad_app ns m (x := Str.ofString "1") (fw_lit (by decide +kernel))
  rwa [show joinW (allW ns m) ++ sgn 32 ++ Str.ofString "1" = joinW (allW ns m) ++ Str.ofString " 1" from ext_tl (by simp only [tl_append, List.append_assoc]; rfl)] at this
theorem bad_cons {w0 : Str} {wt : List Str} (h0 : Fw w0) (ht : ∀ w ∈ wt, Fw w) (hl : wt.length ≤ 10) (h : kinds.find? (fun r => r.1 == w0) = none) : BadT (joinW (w0 :: wt)) :=
  badT_of (by simp) (fun w hw => by rcases List.mem_cons.mp hw with z | z; · rw [z]; exact h0
                                    · exact ht w z) (by rw [List.length_cons]; omega) (bad_head h)
theorem bad2 : BadT (Str.ofString " " ++ joinW (allW ns m)) := by
  have := bad_cons (w0 := Str.ofString "") (wt := allW ns m) (fw_lit (by decide +kernel)) (all_fw ns m) (by have := all_len ns m; omega) (by decide +kernel)
  rwa [show joinW (Str.ofString "" :: allW ns m) = Str.ofString " " ++ joinW (allW ns m) from ext_tl (by rw [tl_join1, tl_append]; rfl)] at this
theorem x_none : kinds.find? (fun r => r.1 == Str.ofString "x" ++ wd m) = none := by
  match m with
  | 0 => decide +kernel
  | 1 => decide +kernel
  | 2 => decide +kernel
  | 3 => decide +kernel
  | 4 => decide +kernel
  | _ + 5 => exact (by decide +kernel : kinds.find? (fun r => r.1 == Str.ofString "x" ++ wd 5) = none)
theorem join_head (x w0 : Str) (wt : List Str) : x ++ joinW (w0 :: wt) = joinW ((x ++ w0) :: wt) := by
  cases wt with
  | nil => rfl
  | cons a r => exact ext_tl (by rw [tl_append, tl_join1, tl_join1, tl_append, List.append_assoc])
theorem bad4 : BadT (Str.ofString "x" ++ joinW (allW ns m)) := by
  rw [join_head]
  have hl := tail_len ns (shp m).2
  have h6 := (shp_fw m).2.2.2
  refine bad_cons ⟨fun hm => ?_, ?_⟩ (fun w hw => (tail_fw ns _ w hw).1) (by show (tailW ns (shp m).2).length ≤ 10; omega) (x_none m)
  · rw [tl_append] at hm
    rcases List.mem_append.mp hm with z | z
    · exact absurd z (by decide +kernel)
    · exact (shp_fw m).1.1 z
  · have := (shp_fw m).2.1
    rw [str_len_app, show (Str.ofString "x").length = 1 from rfl]; show 1 + (shp m).1.length ≤ 1010; omega
theorem bad5 : BadT (wd m) := badT_of (V := [wd m]) (by simp) (fun w hw => by rw [List.mem_singleton.mp hw]; exact (shp_fw m).1) (by simp) (bad_len m (by have := (shp_fw m).2.2.1; simp; omega))
theorem bad6 : BadT (Str.ofString "") := bad_cons (w0 := Str.ofString "") (wt := []) (fw_lit (by decide +kernel)) (fun w hw => by cases hw) (by simp) (by decide +kernel)
theorem bad9 : BadT (joinW (Str.ofString "register" :: tw ns m)) := bad_cons (fw_lit (by decide +kernel)) (fun w hw => (tail_fw ns _ w hw).1) (by have hl := tail_len ns (shp m).2; have h6 := (shp_fw m).2.2.2; show (tailW ns (shp m).2).length ≤ 10; omega) (by decide +kernel)
theorem bad10 : BadT (joinW ((allW ns m).take ((allW ns m).length - 1))) := by
  have hl := tail_len ns (shp m).2
  have h3 := (shp_fw m).2.2
  have e : (allW ns m).take ((allW ns m).length - 1) = wd m :: (tw ns m).take ((shp m).2.length - 1) := by
    rw [List.length_cons, hl, Nat.add_sub_cancel]
    cases q : (shp m).2.length with
    | zero => omega
    | succ k => rfl
  rw [e]
  refine badT_of (by simp) (fun w hw => ?_) (by rw [List.length_cons, List.length_take]; omega) (bad_len m (by rw [List.length_take]; omega))
  rcases List.mem_cons.mp hw with z | z
  · rw [z]; exact (shp_fw m).1
  · exact (tail_fw ns _ w (List.mem_of_mem_take z)).1
/-- a word of another kind in one place -/
theorem wordN {k x : Str} (h : isNone (wordD k x) = true) : wordD k x = .none := by
  cases q : wordD k x <;> rw [q] at h <;> first | rfl | cases h
theorem badW_none (c : Nat) : ∀ v ∈ badW c, wordD (kindOf c) v = .none ∧ Fw v := by
  have h1 : ∀ v ∈ badW 110, (isNone (wordD (kindOf 110) v) && (!(tl v).contains 32 && decide (v.length ≤ 1010))) = true := by decide +kernel
  have h2 : ∀ v ∈ badW 111, (isNone (wordD (kindOf 111) v) && (!(tl v).contains 32 && decide (v.length ≤ 1010))) = true := by decide +kernel
  have h3 : ∀ v ∈ badW 0, (isNone (wordD (kindOf 0) v) && (!(tl v).contains 32 && decide (v.length ≤ 1010))) = true := by decide +kernel
  intro v hv
  by_cases a : c = 110
  · subst a
    have := Bool.and_eq_true_iff.mp (h1 v hv)
    exact ⟨wordN this.1, fw_lit this.2⟩
  · by_cases b : c = 111
    · subst b
      have := Bool.and_eq_true_iff.mp (h2 v hv)
      exact ⟨wordN this.1, fw_lit this.2⟩
    · have e1 : badW c = badW 0 := by unfold badW; rw [if_neg a, if_neg b, if_neg (by decide), if_neg (by decide)]
      have e2 : kindOf c = kindOf 0 := by unfold kindOf; rw [if_neg a, if_neg b, if_neg (by decide), if_neg (by decide)]
      rw [e1] at hv
      rw [e2]
      have := Bool.and_eq_true_iff.mp (h3 v hv)
      exact ⟨wordN this.1, fw_lit this.2⟩
theorem bad_at {i : Nat} {x : Str} (hi : i < (shp m).2.length) (hx : wordD (kindOf ((tl (shp m).2).getD i 0)) x = .none) (hf : Fw x) : BadT (joinW (wd m :: ((tw ns m).take i ++ [x] ++ (tw ns m).drop (i + 1)))) := by
  have hl : (tw ns m).length = (shp m).2.length := tail_len ns (shp m).2
  have h6 := (shp_fw m).2.2.2
  have h1 : ((tw ns m).take i).length = i := by rw [List.length_take]; omega
  refine badT_of (by simp) (fun w hw => ?_) (by simp only [List.length_cons, List.length_append, List.length_take, List.length_drop, List.length_nil]; omega) (bad_word m (i := i) (x := x) hi ?_ hx)
  · rcases List.mem_cons.mp hw with z | z
    · rw [z]; exact (shp_fw m).1
    · rcases List.mem_append.mp z with z | z
      · rcases List.mem_append.mp z with z | z
        · exact (tail_fw ns _ w (List.mem_of_mem_take z)).1
        · rw [List.mem_singleton.mp z]; exact hf
      · exact (tail_fw ns _ w (List.mem_of_mem_drop z)).1
  · rw [List.append_assoc, List.getElem?_append_right (by omega), h1, Nat.sub_self]; rfl
theorem bad11 {i : Nat} {v : Str} (hi : i < (shp m).2.length) (hv : v ∈ badW ((tl (shp m).2).getD i 0)) : BadT (joinW ((allW ns m).take (i + 1) ++ [v] ++ (allW ns m).drop (i + 2))) := by
  have h := badW_none _ v hv
  exact bad_at ns m hi h.1 h.2
theorem num_nl (l : List Nat) : isNumL (l ++ [10]) = false := by
  unfold isNumL
  rw [List.all_append, show ([10] : List Nat).all isDig = false from rfl]
  simp
theorem val_nl (k : Nat) (hk : (tl (shp m).2).getD k 0 ≠ 111) : wordD (kindOf ((tl (shp m).2).getD k 0)) (strD (valD ns (shp m).2 k) ++ Str.ofString "\n") = .none := by
  unfold valD kindOf
  by_cases h : (tl (shp m).2).getD k 0 = 110
  · rw [if_pos h, if_pos h]
    unfold wordD
    rw [if_pos rfl, if_neg]
    rw [tl_append, show tl (Str.ofString "\n") = [10] from rfl, num_nl]; decide
  · rw [if_neg h, if_neg h, if_neg hk, if_neg hk]
    unfold wordD strD
    rw [if_neg (by decide +kernel), if_pos rfl, if_neg]
    have e : thingS (officeOf (cellA ns (2 + (k : Int)) / 5)) (numberOf (cellA ns (2 + (k : Int)) / 3)) ++ Str.ofString "\n" = officeOf (cellA ns (2 + (k : Int)) / 5) ++ Str.ofString "-" ++ (Str.ofString (toString (numberOf (cellA ns (2 + (k : Int)) / 3))) ++ Str.ofString "\n") := ext_tl (by unfold thingS; simp only [tl_append, List.append_assoc])
    rw [e, ← thing_iff, partition_app (s := 45) (S := []) rfl (off_free (officeOf_ok _))]
    show ¬ ((isOffL (tl (officeOf (cellA ns (2 + (k : Int)) / 5))) && numP (Str.ofString (toString (numberOf (cellA ns (2 + (k : Int)) / 3))) ++ Str.ofString "\n")) = true)
    rw [number_iff, tl_append, show tl (Str.ofString "\n") = [10] from rfl, num_nl, Bool.and_false]
    decide
theorem last_kind : (tl (shp m).2).getD ((shp m).2.length - 1) 0 ≠ 111 := by
  match m with
  | 0 => decide +kernel
  | 1 => decide +kernel
  | 2 => decide +kernel
  | 3 => decide +kernel
  | 4 => decide +kernel
  | _ + 5 => exact (by decide +kernel : (tl (shp 5).2).getD ((shp 5).2.length - 1) 0 ≠ 111)
theorem join_last (x : Str) : ∀ (ps : List Str) (p : Str), joinW (ps ++ [p]) ++ x = joinW (ps ++ [p ++ x])
  | [], p => rfl
  | [a], p => ext_tl (by show tl (Str.join (sgn 32) [a, p] ++ x) = tl (Str.join (sgn 32) [a, p ++ x]); rw [tl_append, tl_join1, tl_join1]; simp only [Str.join, tl_append, List.append_assoc, List.cons_append])
  | a :: b :: r, p => by
    have ih := join_last x (b :: r) p
    refine ext_tl ?_
    show tl (Str.join (sgn 32) (a :: b :: (r ++ [p])) ++ x) = tl (Str.join (sgn 32) (a :: b :: (r ++ [p ++ x])))
    rw [tl_append, tl_join1, tl_join1, List.append_assoc, List.cons_append, ← tl_append]
    exact congrArg (fun z => tl a ++ 32 :: tl z) ih
theorem bad8 : BadT (joinW (allW ns m) ++ Str.ofString "\n") := by
  have hl : (tw ns m).length = (shp m).2.length := tail_len ns (shp m).2
  have h3 := (shp_fw m).2.2
  have hlast : (tw ns m)[(shp m).2.length - 1]? = some (strD (valD ns (shp m).2 ((shp m).2.length - 1))) := by
    show (tailW ns (shp m).2)[_]? = _
    unfold tailW
    rw [List.getElem?_map, List.getElem?_range (by omega)]; rfl
  have e1 : tw ns m = (tw ns m).take ((shp m).2.length - 1) ++ [strD (valD ns (shp m).2 ((shp m).2.length - 1))] := by
    have h := List.take_add_one (l := tw ns m) (i := (shp m).2.length - 1)
    rw [hlast] at h
    rw [show (shp m).2.length - 1 + 1 = (tw ns m).length by omega, List.take_length] at h
    exact h
  have e2 : (tw ns m).drop ((shp m).2.length - 1 + 1) = [] := List.drop_of_length_le (by omega)
  have hb := bad_at ns m (i := (shp m).2.length - 1) (x := strD (valD ns (shp m).2 ((shp m).2.length - 1)) ++ Str.ofString "\n") (by omega) (val_nl ns m _ (last_kind m)) (fw_app (by exact ⟨val_free ns _ _, by have := (val_wr ns (shp m).2 ((shp m).2.length - 1)).len; omega⟩) (by decide +kernel) (by decide +kernel) (val_wr ns (shp m).2 _).len)
  rw [e2, List.append_nil] at hb
  have e3 : joinW (allW ns m) ++ Str.ofString "\n" = joinW (wd m :: ((tw ns m).take ((shp m).2.length - 1) ++ [strD (valD ns (shp m).2 ((shp m).2.length - 1)) ++ Str.ofString "\n"])) := by
    have := join_last (Str.ofString "\n") (wd m :: (tw ns m).take ((shp m).2.length - 1)) (strD (valD ns (shp m).2 ((shp m).2.length - 1)))
    rw [List.cons_append, List.cons_append, ← e1] at this
    exact this
  rw [e3]
  exact hb
theorem bad7 : BadT (rep1 (joinW (allW ns m)) (Str.ofString " ") (Str.ofString "  ")) := by
  have hmem : 32 ∈ tl (joinW (allW ns m)) := by
    have h3 := (shp_fw m).2.2.1
    have hl : (tw ns m).length = (shp m).2.length := tail_len ns (shp m).2
    cases q : tw ns m with
    | nil => rw [q] at hl; simp at hl; omega
    | cons a r =>
      show 32 ∈ tl (joinW (wd m :: tw ns m))
      rw [q, tl_join1]; simp
  obtain ⟨a, b, e1, e2⟩ := rep1_at (z := Str.ofString "  ") hmem
  have e2' : rep1 (joinW (allW ns m)) (Str.ofString " ") (Str.ofString "  ") = a ++ Str.ofString "  " ++ b := e2
  have hlen := join_len (all_fw ns m) (by have := all_len ns m; omega)
  have hs : Txt.split a (sgn 32) ++ Txt.split b (sgn 32) = allW ns m := by
    rw [← split_app, ← e1]
    exact split_join (by simp) fun w hw => (all_fw ns m w hw).1
  rw [e2']
  refine ⟨?_, ?_⟩
  · rw [e1, str_len_app, str_len_app] at hlen
    rw [str_len_app, str_len_app, show (Str.ofString "  ").length = 2 from rfl]
    omega
  · have e3 : a ++ Str.ofString "  " ++ b = a ++ sgn 32 ++ (Str.ofString "" ++ sgn 32 ++ b) := ext_tl (by simp only [tl_append, List.append_assoc]; rfl)
    rw [e3, split_app, split_app]
    rw [show Txt.split (Str.ofString "") (sgn 32) = [Str.ofString ""] from split_join (ws := [Str.ofString ""]) (by simp) fun w hw => by rw [List.mem_singleton.mp hw]; decide +kernel]
    cases q : Txt.split a (sgn 32) with
    | nil => exact absurd q (split_ne a 32)
    | cons x r =>
      rw [q] at hs
      have h1 := List.cons.inj (show x :: (r ++ Txt.split b (sgn 32)) = wd m :: tw ns m from hs)
      rw [h1.1]
      refine bad_len m ?_
      have hl : (tw ns m).length = (shp m).2.length := tail_len ns (shp m).2
      rw [← h1.2, List.length_append] at hl
      show (r ++ ([Str.ofString ""] ++ Txt.split b (sgn 32))).length ≠ (shp m).2.length
      rw [List.length_append, List.length_append, show [Str.ofString ""].length = 1 from rfl]
      omega
end
end LH
namespace LH
open PySem L2 TL PySem.Spec PyProof.Rows
theorem cut_take {α : Type} (f : α → PyData) (W : List α) (k : Nat) {z : Int} (h : z = (k : Int)) : LH.cutD (W.map f) none (some z) = (W.take k).map f := by
  subst h
  unfold LH.cutD
  rw [List.map_take, show HT.sIx (W.map f).length 0 none = 0 from rfl, HT.sIx_nat, Nat.sub_zero, List.drop_zero, List.take_eq_take_iff]
  omega
theorem cut_drop {α : Type} (f : α → PyData) (W : List α) (k : Nat) {z : Int} (h : z = (k : Int)) : LH.cutD (W.map f) (some z) none = (W.drop k).map f := by
  subst h
  unfold LH.cutD
  rw [List.map_drop, HT.sIx_none, HT.sIx_nat]
  by_cases q : k ≤ (W.map f).length
  · rw [Nat.min_eq_left q, List.take_of_length_le (by rw [List.length_drop]; omega)]
  · rw [Nat.min_eq_right (by omega), List.drop_of_length_le (Nat.le_refl _), List.drop_of_length_le (by omega)]; simp
theorem num_okStr {n : Int} (h0 : 0 ≤ n) : okStr (Str.ofString (toString n)) = true := okStr_iff.mpr fun c hc => by
  rw [num_tl h0] at hc
  by_cases q : 48 ≤ c ∧ c ≤ 57
  · omega
  · exact absurd hc (numL_free (by omega))
theorem app_okStr {a b : Str} (h1 : okStr a = true) (h2 : okStr b = true) : okStr (a ++ b) = true := okStr_iff.mpr fun c hc => by
  rw [tl_append] at hc
  rcases List.mem_append.mp hc with z | z
  · exact okStr_iff.mp h1 c z
  · exact okStr_iff.mp h2 c z
theorem val_flat (ns : List Int) (sh : Str) (k : Nat) : flatN 0 (valD ns sh k) = true ∧ noB (valD ns sh k) = true := by
  unfold valD
  split
  · exact ⟨rfl, rfl⟩
  · split
    · exact ⟨off_okStr (officeOf_ok _), rfl⟩
    · have h := numberOf_in (cellA ns (2 + (k : Int)) / 3)
      exact ⟨app_okStr (app_okStr (off_okStr (officeOf_ok _)) (by decide +kernel)) (num_okStr (by omega)), rfl⟩
theorem shp_ok (m : Nat) : okStr (shp m).1 = true := by
  match m with
  | 0 => decide +kernel
  | 1 => decide +kernel
  | 2 => decide +kernel
  | 3 => decide +kernel
  | 4 => decide +kernel
  | _ + 5 => exact (by decide +kernel : okStr (shp 5).1 = true)
theorem let_flat (ns : List Int) (m : Nat) : SeqAt.shaped (.tuple (letD ns (shp m).1 (shp m).2)) = true ∧ PyData.eqv (.tuple (letD ns (shp m).1 (shp m).2)) (.tuple (letD ns (shp m).1 (shp m).2)) = true := by
  refine ⟨shaped_of 1 ?_, eqv_self ?_⟩
  · show (letD ns (shp m).1 (shp m).2).all (flatN 0) = true
    refine List.all_eq_true.mpr fun d hd => ?_
    rcases List.mem_cons.mp hd with z | z
    · rw [z]; exact shp_ok m
    · obtain ⟨k, _, rfl⟩ := List.mem_map.mp z
      exact (val_flat ns _ k).1
  · show (true && noB.noBs ((List.range (shp m).2.length).map (valD ns (shp m).2))) = true
    rw [noBs_map _ fun k => (val_flat ns _ k).2]; rfl
theorem let_str (ns : List Int) (m : Nat) : (letD ns (shp m).1 (shp m).2).map strD = allW ns m := by
  unfold letD
  rw [List.map_cons, List.map_map]; rfl
theorem let_wr (ns : List Int) (m : Nat) : ∀ x ∈ letD ns (shp m).1 (shp m).2, Wr x := fun x hx => by
  rcases List.mem_cons.mp hx with z | z
  · rw [z]; exact .inl ⟨_, rfl, Nat.le_trans (shp_fw m).2.1 (by decide)⟩
  · obtain ⟨k, _, rfl⟩ := List.mem_map.mp z
    exact val_wr ns _ k
theorem split_all (ns : List Int) (m : Nat) : letW (Txt.split (joinW (allW ns m)) (sgn 32)) = .tuple (letD ns (shp m).1 (shp m).2) := by
  rw [split_join (by simp) fun w hw => (all_fw ns m w hw).1]
  exact let_good ns m
theorem join_ok {V : List Str} (hf : ∀ w ∈ V, Fw w) (hn : V.length ≤ 20) : (V.map (·.length)).sum + V.length * (Str.ofString " ").length ≤ 16777216 := by
  have := sum_len' (ws := V) (k := 1010) fun x hx => (hf x hx).2
  rw [show (Str.ofString " ").length = 1 from rfl]
  omega
end LH
namespace LH
open PySem L2 TL PySem.Spec PyProof.Rows
abbrev bads (T0 w0 t9 t10 : Str) : List Str := [T0 ++ Str.ofString " ", Str.ofString " " ++ T0, T0 ++ Str.ofString " 1", Str.ofString "x" ++ T0, w0, Str.ofString "", rep1 T0 (Str.ofString " ") (Str.ofString "  "), T0 ++ Str.ofString "\n", t9, t10]
abbrev badAt (ns : List Int) (m a : Nat) (v : Str) : Str := joinW ((allW ns m).take (a + 1) ++ [v] ++ (allW ns m).drop (a + 2))
theorem bads_ok (ns : List Int) (m a : Nat) (ha : a < (shp m).2.length) : ∀ s ∈ bads (joinW (allW ns m)) (wd m) (joinW (Str.ofString "register" :: tw ns m)) (joinW ((allW ns m).take ((allW ns m).length - 1))) ++ (badW ((tl (shp m).2).getD a 0)).map (badAt ns m a), BadT s := fun s hs => by
  rcases List.mem_append.mp hs with z | z
  · simp only [bads, List.mem_cons, List.not_mem_nil, or_false] at z
    rcases z with z | z | z | z | z | z | z | z | z | z <;> rw [z]
    · exact bad1 ns m
    · exact bad2 ns m
    · exact bad3 ns m
    · exact bad4 ns m
    · exact bad5 m
    · exact bad6
    · exact bad7 ns m
    · exact bad8 ns m
    · exact bad9 ns m
    · exact bad10 ns m
  · obtain ⟨v, hv, rfl⟩ := List.mem_map.mp z
    exact bad11 ns m ha hv
end LH
namespace LH
open PySem L2 TL PySem.Spec PyProof.Rows
theorem badW_len (c : Nat) : (badW c).length ≤ 8 := by
  unfold badW
  split
  · decide
  · split
    · decide
    · decide
end LH

set_option maxHeartbeats 400000
namespace LH
open PySem L2 TL Evl PySem.Spec PyProof.Rows
/-! ### tuple + tuple, tuple * int, text * int -/
theorem op_addTK {X : Cx} {K : PySem.W.Frag} (hK : X.K = K) : OpR X (binaryOp .Add) (rCatA K) := by subst hK; exact op_catA
theorem op_mulTK {X : Cx} {K : PySem.W.Frag} (hK : X.K = K) : OpR X (binaryOp .Mult) (rRepT K) := by subst hK; exact op_repT
theorem r2_addT {K : PySem.W.Frag} {xs ys : List PyData} (h : xs.length + ys.length ≤ 1000000) : R2E K (rCatA K) (.tuple xs) (.tuple ys) (.tuple (xs ++ ys)) := fun F H v u s a b Q q => by
  obtain ⟨l, vs, rfl, h1, r1⟩ := dp_tuple a
  obtain ⟨m, us, rfl, h2, r2⟩ := dp_tuple b
  refine ⟨l, m, vs, us, rfl, rfl, ex_t s h1, ex_t s h2, Nat.le_trans (by rw [dps_len r1, dps_len r2]; exact h) (by decide), fun e => ?_, fun _ e => ?_, fun _ _ p hp => ?_⟩
  · subst e; cases r1; exact q _ F H (Grow.refl s) (.tup h2 r2)
  · subst e; cases r2; exact q _ F H (Grow.refl s) (by rw [List.append_nil]; exact .tup h1 r1)
  · exact q _ _ _ (Grow.alloc s hp) (.tup (st_of upd_same) (dps_mono (Ex.new (ex_none s hp)) _ _ (dps_app r1 r2)))
theorem dps_rep {K : PySem.W.Frag} {F : Hp} {vs : List V} {ds : List PyData} (h : DpAll K F vs ds) : ∀ n, DpAll K F (List.replicate n vs).flatten (List.replicate n ds).flatten
  | 0 => .nil
  | n + 1 => by rw [List.replicate_succ, List.replicate_succ, List.flatten_cons, List.flatten_cons]; exact dps_app h (dps_rep h n)
theorem r2_mulT {K : PySem.W.Frag} {xs : List PyData} {k : Int} (hn : xs ≠ []) (h0 : 2 ≤ k) (h1 : k ≤ 1000) (hl : xs.length ≤ 1000) : R2E K (rRepT K) (.tuple xs) (.int k) (.tuple (List.replicate k.toNat xs).flatten) := fun F H v u s a b Q q => by
  obtain ⟨l, vs, rfl, g1, r1⟩ := dp_tuple a
  cases b
  refine ⟨l, k, vs, rfl, rfl, ex_t s g1, fun e => hn ?_, h0, h1, by rw [dps_len r1]; exact hl, fun p hp => ?_⟩
  · subst e; cases r1; rfl
  · exact q _ _ _ (Grow.alloc s hp) (.tup (st_of upd_same) (dps_mono (Ex.new (ex_none s hp)) _ _ (dps_rep r1 _)))
def repS (a : Str) (n : Nat) : Str := ⟨(List.replicate n a.cps).foldl (· ++ ·) #[]⟩
theorem repS_tl (a : Str) (n : Nat) : tl (repS a n) = (List.replicate n (tl a)).flatten := by
  have h : ∀ (n : Nat) (acc : Array Nat), ((List.replicate n a.cps).foldl (· ++ ·) acc).toList = acc.toList ++ (List.replicate n (tl a)).flatten := by
    intro n
    induction n with
    | zero => intro acc; simp
    | succ n ih => intro acc; rw [List.replicate_succ, List.foldl_cons, ih, List.replicate_succ, List.flatten_cons, Array.toList_append, List.append_assoc]
  have := h n #[]
  simpa [repS, tl] using this
def rMulS : R2 := fun x y H Q => ∃ a k, x = .str a ∧ y = .int k ∧ 2 ≤ k ∧ k ≤ 1000 ∧ 1 ≤ a.length ∧ a.length ≤ 1000 ∧ Q (.str (repS a k.toNat)) H
theorem op_mulS {X : Cx} : OpR X (binaryOp .Mult) rMulS := by
  intro pins s σ H x y v u Q I rx ry h
  obtain ⟨a, k, rfl, rfl, h0, h1, h2, h3, q⟩ := h
  obtain ⟨t, rfl⟩ := rx
  obtain ⟨t', rfl⟩ := ry
  have e1 : (k == 1 || a.length == 0) = false := by
    rw [Bool.or_eq_false_iff]
    exact ⟨beq_eq_false_iff_ne.mpr (by omega), beq_eq_false_iff_ne.mpr (by omega)⟩
  have hk : a.length * k.toNat ≤ 1000 * 1000 := Nat.mul_le_mul h3 (by omega)
  have hz : (repS a k.toNat).length = k.toNat * a.length := by
    rw [len_tl, repS_tl, PyProof.Rows.lm_len_rep_flat, len_tl]
  refine P.mul_str (by rw [decide_eq_false (by omega), decide_eq_false (by omega)]; rfl) (fun _ _ => ?_) (fun _ _ => ?_) ?_
  · have : (2 ^ 63 - 1 : Int) / 1000 ≤ (2 ^ 63 - 1) / k := by
      refine (Int.le_ediv_iff_mul_le (by omega)).mpr ?_
      have : (2 ^ 63 - 1 : Int) / 1000 * k ≤ (2 ^ 63 - 1 : Int) / 1000 * 1000 := Int.mul_le_mul_of_nonneg_left h1 (by decide)
      exact Int.le_trans this (by decide)
    omega
  · unfold Builtin.Str.tooLong
    rw [sizeLine_eq]
    exact decide_eq_false (by omega)
  · rw [if_neg (by omega), e1]
    exact ⟨by rw [show (⟨(List.replicate k.toNat a.cps).foldl (· ++ ·) #[]⟩ : Str).length = k.toNat * a.length from hz, sizeLine_eq, Nat.mul_comm]; omega, ⟨.str (repS a k.toNat), H, I.tok _, ⟨_, rfl⟩, q⟩⟩
theorem r2_mulS {K : PySem.W.Frag} {a : Str} {k : Int} (h0 : 2 ≤ k) (h1 : k ≤ 1000) (h2 : 1 ≤ a.length) (h3 : a.length ≤ 1000) : R2E K rMulS (.str a) (.int k) (.str (repS a k.toNat)) := fun F H v u s x y Q q => by
  cases x; cases y
  exact ⟨a, k, rfl, rfl, h0, h1, h2, h3, q _ F H (Grow.refl s) (.str _)⟩
/-! ### -i -/
theorem ee_neg {C : Ct} {e : En} {te : TE} {i : Int} (h : EvE C te e (.int i)) : EvE C (tUn (rU fun i => .int (-i)) te) e (.int (-i)) := fun σ F H g Q q => h σ F H g _ fun v F2 H2 w d => by
  cases d
  exact ⟨i, rfl, q _ F2 H2 w (.int _)⟩
/-! ### max(i, j) -/
def rMax2 : List V → Hp → VK → Prop := fun xs H Q => ∃ i j, xs = [.int i, .int j] ∧ Q (.int (if j > i then j else i)) H
theorem call_max2A {X : Cx} (hc : X.calm = true) : CallR X (.builtin "max") rMax2 := call_max2 hc
theorem rc_max2 {K : PySem.W.Frag} {i j : Int} : RCE K rMax2 [.int i, .int j] (.int (max i j)) := fun F H vs s r Q q => by
  cases r with
  | cons r1 r =>
    obtain ⟨v, rfl, d1⟩ := dps_one r
    cases r1; cases d1
    refine ⟨i, j, rfl, ?_⟩
    have e : (if j > i then j else i) = max i j := by split <;> omega
    rw [e]
    exact q _ F H (Grow.refl s) (.int _)
/-! ### tuple(list) -/
theorem rc_tupL {K : PySem.W.Frag} {ds : List PyData} : RCE K (rTupA K) [.list ds] (.tuple ds) := fun F H vs s r Q q => by
  obtain ⟨v, rfl, d1⟩ := dps_one r
  obtain ⟨l, us, rfl, hl, r⟩ := dp_list d1
  exact ⟨l, us, rfl, .inl ⟨Evl.ex_l s hl, fun p hp => q _ _ _ (Grow.alloc s hp) (.tup (st_of upd_same) (dps_mono (Ex.new (ex_none s hp)) _ _ r))⟩⟩
theorem rc_tupT {K : PySem.W.Frag} {ds : List PyData} : RCE K (rTupA K) [.tuple ds] (.tuple ds) := fun F H vs s r Q q => by
  obtain ⟨v, rfl, d1⟩ := dps_one r
  obtain ⟨l, us, rfl, hl, r⟩ := dp_tuple d1
  exact ⟨l, us, rfl, .inr ⟨Evl.ex_t s hl, q _ _ _ (Grow.refl s) (.tup hl r)⟩⟩
theorem EvA.is {C : Ct} {e : En} {ta : TA} {xs ys : List PyData} (h : EvA C ta e xs) (q : xs = ys) : EvA C ta e ys := q ▸ h
end LH

set_option maxHeartbeats 400000
namespace LH
open PySem L2 PySem.Spec PyProof.Rows
/-! ### enumerate(list, start=k) -/
def IteK (k : Int) (K : PySem.W.Frag) (a : Addr) : It where
  go i H := ∃ (xs : List V) (x : V), SqL K H a xs ∧ xs[i]? = some x
  yld i H v H' := ∃ T x, v = .ref T ∧ H T = none ∧ H' = upd H T (.tup [.int (k + (i : Int)), x]) ∧ ∀ xs, SqL K H a xs → xs[i]? = some x
  stop i H := ∃ xs : List V, SqL K H a xs ∧ xs.length = i
theorem turn_enumK {P : Program} {w : World} {K : PySem.W.Frag} {elts : List Expr} {kk : Nat} {tpos : Pos} (k : Int) (a e it : Addr) :
    Turn P w K (.Tuple elts kk tpos) (IteK k K a) [e, it] e (fun i h => (∃ old, IsEnum h e it (k + (i : Int)) old) ∧ h.IsListIter it a i ∧ e ≠ it ∧ a ≠ it ∧ a ≠ e) where
  mem := by simp
  obj := fun i h st b hb => by
    obtain ⟨⟨old, he⟩, ⟨o, ho, hc, hd⟩, _⟩ := st
    have e' : b = e ∨ b = it := by simpa using hb
    rcases e' with z | z
    · rw [z]; exact ⟨_, he, fun v q => nomatch q⟩
    · rw [z]; exact ⟨o, ho, fun v q => by rw [hd] at q; cases q⟩
  keep := fun i h h' st k => let ⟨⟨old, he⟩, hi, hne⟩ := st; ⟨⟨old, k e (by simp) _ he⟩, hi.at fun o q => k it (by simp) o q, hne⟩
  item := by
    intro X hP hw hK hc i pins s σ H E I hf st hg
    subst hP hw hK
    obtain ⟨⟨old, he⟩, hit, hne, hai, hae⟩ := st
    obtain ⟨xs, x, hq, hx⟩ := hg
    obtain ⟨its, rv, p, hz⟩ := I.list hq
    obtain ⟨u, hu, ru⟩ := rv.get hx
    have hil : i < its.toArray.size := by
      rw [List.size_toArray]; exact (List.getElem?_eq_some_iff.mp hu).1
    have hel : e < s.heap.objs.size := Heap.lt_size he
    have hil2 : it < s.heap.objs.size := by obtain ⟨_, q, _⟩ := hit; exact Heap.lt_size q
    refine wpAny_pyNext_enum_itemC (Draws.list (show X.A.in1.handled = none from I.ok.hd hc) it a hai its.toArray) he ⟨hit, p.isList⟩ hil hne (by simp [hne, Ne.symm hae]) fun x' h' tk hx' ho st' hT hsz hk => ?_
    have hxu : x' = u := by
      have : its.toArray[i]? = some u := by simpa using hu
      rw [this] at hx'; exact (Option.some.inj hx').symm
    subst hxu
    refine ⟨_, rfl, wpAny_letOwnedTupleGo_enum (s := { s with heap := h', toks := tk + 1 }) ho fun h'' he' sb => ?_⟩
    have hT2 : h''.get? s.heap.objs.size = some { cls := .type "tuple", data := .seq #[.int (k + (i : Int)) tk, x'] } := (sb.2 _ (Nat.ne_of_gt hel)).trans hT
    have new : ObjOk X.prog X.w (upd H s.heap.objs.size (.tup [.int (k + (i : Int)), x])) h'' s.heap.objs.size (.tup [.int (k + (i : Int)), x]) :=
      ⟨by show 2 ≤ sizeLine; decide, [.int (k + (i : Int)) tk, x'], .cons ⟨_, rfl⟩ (.cons ru .nil), ⟨_, hT2, rfl, _, rfl⟩⟩
    have I1 : Inv X pins σ (upd H s.heap.objs.size (.tup [.int (k + (i : Int)), x])) { s with heap := h'', toks := tk + 1 } :=
      I.turnedNew (t' := tk + 1) (ch := [e, it]) (fun b ob hb q => (sb.2 b (fun z => hb (by simp [z]))).trans (hk b ob (fun z => hb (by simp [z])) (fun z => hb (by simp [z])) q)) hf (Nat.le_refl _) new
    refine ⟨.ref s.heap.objs.size, _, I1, rfl, ⟨_, x, rfl, I.hok.fresh (Nat.le_refl _), rfl, fun ys hy => by rw [I.list_inj hy hq]; exact hx⟩, ⟨⟨x', ?_⟩, st'.1.at fun o q => (sb.2 it (Ne.symm hne)).trans q, hne, hai, hae⟩, fun b hb => ?_⟩
    · have e1 : k + ((i + 1 : Nat) : Int) = k + (i : Int) + 1 := by omega
      rw [e1]; exact he'
    · have hb' : b < s.heap.objs.size := by
        have e' : b = e ∨ b = it := by simpa using hb
        rcases e' with z | z
        · rw [z]; exact hel
        · rw [z]; exact hil2
      rw [upd_ne (Nat.ne_of_lt hb')]
      exact (hf b hb).1
  done := by
    intro X hP hw hK hc i pins s σ H E I hf st hg
    subst hP hw hK
    obtain ⟨⟨old, he⟩, hit, hne, hai, hae⟩ := st
    obtain ⟨xs, hq, hx⟩ := hg
    obtain ⟨its, rv, p, hz⟩ := I.list hq
    obtain ⟨f0, f1, f2, f3, f4, f5⟩ := hf it (by simp)
    have hl := rv.length
    have hs : i = its.toArray.size := by simp; omega
    subst hs
    exact wpAny_pyNext_enum_endD (Draws.list (show X.A.in1.handled = none from I.ok.hd hc) it a hai its.toArray) he ⟨hit, p.isList⟩ fun h' eb => ⟨rfl, I.turned (t' := s.toks) (fun b o hb q => eb b o hb q) f0 f1 f3 f4 f5⟩
  self := fun A i s Q E st h => let ⟨⟨_, he⟩, _⟩ := st; wpAny_pyIter_enum he h
theorem callWith_type_kw {M : Model} {A : Around} {E : Value → Shared → Prop} {s : Shared} {env : Env} {pos : Pos} {T : String} {e : Expr} {rest : List Expr} {kws : List Keyword} {Q : Value → Shared → Prop}
    (h : wpAny M A (spliced (backTo pos (starEach (e :: rest) env))) (fun vs s₁ => wpAny M A (evalAll ((backToKw pos (keywordEach kws env)).map (·.2)))
      (fun kvs s₂ => wpAny M A (call (.type T) vs (((backToKw pos (keywordEach kws env)).filterMap (·.1)).zip kvs)) Q E s₂) E s₁) E s)
    (he : backTo pos (starEach (e :: rest) env) = (false, eval e env) :: backTo pos (starEach rest env) := by rfl)
    (hplain : (backTo pos (starEach (e :: rest) env)).any (·.1) = false := by rfl)
    (hall : (backToKw pos (keywordEach kws env)).all (·.1.isSome) = true := by rfl)
    (hkw : (backToKw pos (keywordEach kws env)).any (·.1.isNone) = false := by rfl) :
    wpAny M A (callWith pos (.type T) [] (backTo pos (starEach (e :: rest) env)) (backToKw pos (keywordEach kws env))) Q E s := by
  have h' : wpAny M A (evalArgs (.type T) true (backTo pos (starEach (e :: rest) env)) (backToKw pos (keywordEach kws env))) (fun a s₁ => wpAny M A (call (.type T) ([] ++ a.pos) a.kw) Q E s₁) E s := by
    rw [he] at h ⊢
    exact evalArgs_kwB hall h
  unfold callWith
  refine wpAny_bind (wpAny_holding (wpAny_mono h' (fun a s₁ h₁ => wpAny_bind (wpAny_standAt ?_)) fun _ _ x => x))
  simp only [hplain, hkw, Bool.or_false]
  refine wpAny_bind (wpAny_pure ?_)
  exact wpAny_bind (wpAny_mono h₁ (fun r s₂ hr => wpAny_bind (wpAny_holding (wpAny_point (wpAny_pure hr)))) fun _ _ x => x)
def iEnumK (k : Int) (K : PySem.W.Frag) (ta : TA) : TI := fun σ H R => ta σ H fun vs H1 => ∃ a xs, vs = [.ref a] ∧ SqL K H1 a xs ∧ R (IteK k K a) H1
theorem pi_enumK {X : Cx} {K : PySem.W.Frag} {e : Expr} {ta : TA} {p pos tpos cp kp : Pos} {elts : List Expr} {kk j : Nat} {k : Int} (hK : X.K = K) (hg : Gl X "enumerate") (hm : X.mg "enumerate" = none) (ha : PA X [e] ta) (h0 : -(2 ^ 63) ≤ k ∧ k < 2 ^ 63 := by decide) (hs : backTo pos (starEach [e] X.env) = (false, eval e X.env) :: backTo pos (starEach [] X.env) := by rfl)
    (hp : (backTo pos (starEach [e] X.env)).any (·.1) = false := by rfl) (ha1 : (backToKw pos (keywordEach [⟨some "start", .Constant (.int k) j cp, kp⟩] X.env)).all (·.1.isSome) = true := by rfl) (ha2 : (backToKw pos (keywordEach [⟨some "start", .Constant (.int k) j cp, kp⟩] X.env)).any (·.1.isNone) = false := by rfl) :
    PI X (.Tuple elts kk tpos) (.Call (.Name "enumerate" p) [e] [⟨some "start", .Constant (.int k) j cp, kp⟩] pos) (iEnumK k K ta) := by
  subst hK
  refine ⟨fun pins s σ H R I h => ?_⟩
  refine wpAny_Call_Name_kw (ld_blt I hg hm boot_enumerate (callWith_type_kw (thn (ha.run pos pins s σ H _ I h) fun us s1 ⟨vs, H1, I1, r1, q1⟩ => ?_) hs hp ha1 ha2))
  obtain ⟨a, xs, ex, hq, q⟩ := q1
  subst ex
  cases r1 with
  | cons r rr =>
    cases rr
    cases r
    refine kws_cons (wpAny_Constant_int (kws_nil ?_))
    show wpAny _ _ (call (.type "enumerate") [.ref a] [(Str.ofString "start", .int k s1.toks)]) _ _ _
    have I1' : Inv X pins σ H1 { s1 with toks := s1.toks + 1 } := I1.tok _
    obtain ⟨its, rv, p', hz⟩ := I1'.list hq
    refine enum_begins_start (begins_list a its.toArray) p'.isList h0.1 h0.2 fun h' he hit hsz hk => wpAny_pyIter_enum he ?_
    have I2 : Inv X pins σ H1 { s1 with heap := h', toks := s1.toks + 1 } := I1'.kept (t' := s1.toks + 1) hk
    have hal : a < s1.heap.objs.size := by obtain ⟨_, q, _⟩ := p'.isList; exact Heap.lt_size q
    refine ⟨s1.heap.objs.size + 1, [s1.heap.objs.size + 1, s1.heap.objs.size], _, _, H1, rfl, I2, turn_enumK k a (s1.heap.objs.size + 1) s1.heap.objs.size, ⟨⟨.none, by rw [show k + ((0 : Nat) : Int) = k by omega]; exact he⟩, ⟨_, hit, rfl, rfl⟩, Nat.succ_ne_self _, Nat.ne_of_lt hal, Nat.ne_of_lt (Nat.lt_succ_of_lt hal)⟩, fun b hb => ?_, q⟩
    have e' : b = s1.heap.objs.size + 1 ∨ b = s1.heap.objs.size := by simpa using hb
    have hle : s1.heap.objs.size ≤ b := by
      rcases e' with z | z
      · rw [z]; exact Nat.le_add_right _ _
      · rw [z]; exact Nat.le_refl _
    exact I1'.fpOk hle (I1'.hok.fresh hle)
section
variable {C : Ct} {e : En} {D : Ends} {t : TS} {g : TG} {ta : TA} {ds : List PyData} {k : Int}
/-- over enumerate(l, start=k), l data -/
theorem r_forE (h : EvA C ta e [.list ds]) (S : Nat → List Sl) (O : Nat → List Ow) (h0 : LeS e.s (S 0)) (hO : e.o = O 0)
    (hb : ∀ (v : V) (i : Nat) (d : PyData), ds[i]? = some d → ∃ bE js, TgE C g js (.tuple [.int (k + (i : Int)), d]) ⟨S i, O i, (v, .d (.list ds)) :: e.g⟩ bE ∧
      Run C bE (t { D with nx := NX C ⟨S (i + 1), O (i + 1), (v, .d (.list ds)) :: e.g⟩, ct := NX C ⟨S (i + 1), O (i + 1), (v, .d (.list ds)) :: e.g⟩, bk := D.nx }))
    (hd : Run C ⟨S ds.length, O ds.length, e.g⟩ D.nx) : Run C e (tFor (iEnumK k C.K ta) g t D) := fun σ F H gd => h σ F H gd _ fun vs F1 H1 w1 r => by
  obtain ⟨v, rfl, d1⟩ := dps_one r
  obtain ⟨a, xs, rfl, hs, rs⟩ := dp_list d1
  have hq : ∀ σ F H i, Good C ⟨S i, O i, (.ref a, .d (.list ds)) :: e.g⟩ σ F H → ∃ ys, SqL C.K H a ys ∧ SqL C.K F a ys ∧ DpAll C.K F ys ds := fun σ F H i gd => by
    obtain ⟨b, ys, q, h1, r1⟩ := dp_list (gd.known (List.mem_cons_self))
    cases q
    exact ⟨ys, Evl.ex_l gd.fh h1, h1, r1⟩
  refine ⟨a, xs, rfl, Evl.ex_l w1.sub hs, ?_⟩
  have G0 : Good C ⟨S 0, O 0, (.ref a, .d (.list ds)) :: e.g⟩ σ F1 H1 := by
    have := ((gd.grow w1).ghost d1).le (s' := S 0) (g' := (.ref a, .d (.list ds)) :: e.g) h0 (fun q hq => hq)
    rw [← hO]; exact this
  have wk : Walk (IteK k C.K a) ds.length (fun H => ∃ ys, SqL C.K H a ys ∧ ys.length = ds.length) (fun i H x H' => ∃ T y, x = .ref T ∧ H T = none ∧ H' = upd H T (.tup [.int (k + (i : Int)), y]) ∧ ∀ ys, SqL C.K H a ys → ys[i]? = some y) :=
    ⟨fun i H hi ⟨ys, q, l⟩ => ⟨ys, ys[i], q, by simp [l, hi]⟩, fun H ⟨ys, q, l⟩ => ⟨ys, q, l⟩, fun i H x H' hi _ y => y⟩
  refine for_core (C := C) (g := g) (t := t) (D := D) wk (fun i => ⟨S i, O i, (.ref a, .d (.list ds)) :: e.g⟩) (fun i => .tuple [.int (k + (i : Int)), ds.getD i .none]) ⟨F1, G0⟩ (fun i σ F H hi gd => ?_) (fun i σ F H x H' hi gd y => ?_) (fun i hi => ?_) (fun σ F H gd => ?_)
  · obtain ⟨ys, q, _, r⟩ := hq σ F H i gd
    exact ⟨ys, q, dps_len r⟩
  · obtain ⟨T, y, rfl, hT, rfl, hy⟩ := y
    obtain ⟨ys, q, q2, r⟩ := hq σ F _ i gd
    obtain ⟨d, e1, e2⟩ := dps_getV r (hy ys q)
    have gr := Grow.alloc (o := .tup [.int (k + (i : Int)), y]) gd.fh hT
    refine ⟨_, gd.grow gr, ?_⟩
    rw [List.getD_eq_getElem?_getD, e1]
    exact .tup (Evl.st_of upd_same) (.cons (.int _) (.cons (dp_mono gr.f _ _ e2) .nil))
  · have e1 : ds[i]? = some (ds.getD i .none) := by rw [List.getD_eq_getElem?_getD, List.getElem?_eq_getElem hi]; rfl
    exact hb (.ref a) i _ e1
  · exact hd σ F H (gd.le (LeS.refl _) fun q hq => List.mem_cons_of_mem _ hq)
end
end LH

set_option maxHeartbeats 400000
/-! lines of journals, by words: a mirror -/
namespace LH
open PySem L2 TL PySem.Spec PyProof.Rows
def LL : List (Str × List Str) := [("register", ["thing", "number"]), ("give", ["thing", "number", "office"]), ("got", ["thing", "office", "number", "number", "office"]), ("use", ["thing"]), ("recall", ["thing"]), ("notice", ["thing", "office"]), ("receipt", ["thing", "number"]), ("noted", ["thing", "office"]), ("pay", ["thing", "office", "number"]), ("paid", ["thing", "number"])]
/-- the kinds that the words behind the first one must have -/
def kindsN (w0 : Str) (n : Nat) : Option (List Str) :=
  if w0 = Str.ofString "split" then some (Str.ofString "thing" :: (List.replicate (max 2 ((n - 2) / 2)) [Str.ofString "thing", Str.ofString "number"]).flatten)
  else if w0 = Str.ofString "join" then some (List.replicate (max 3 (n - 1)) (Str.ofString "thing"))
  else (LL.find? (fun r => r.1 == w0)).map (·.2)
def kindsD (w0 : Str) (n : Nat) : PyData := match kindsN w0 n with
  | some ks => .tuple (ks.map .str)
  | none => .none
def lineW (ws : List Str) : PyData := match kindsN (ws.headD (Str.ofString "")) ws.length with
  | some ks => rowsD ks ws
  | none => .none
theorem kinds_no {w0 : Str} {n : Nat} {ks : List Str} (h : kindsN w0 n = some ks) : Str.ofString "place" ∉ ks := by
  intro hm
  unfold kindsN at h
  split at h
  · cases h
    rcases List.mem_cons.mp hm with z | z
    · exact absurd z (by decide +kernel)
    · obtain ⟨l, h1, h2⟩ := List.mem_flatten.mp z
      rw [(List.mem_replicate.mp h1).2] at h2
      exact absurd h2 (by decide +kernel)
  · split at h
    · cases h
      exact absurd (List.mem_replicate.mp hm).2 (by decide +kernel)
    · cases q : LL.find? (fun r => r.1 == w0) with
      | none => rw [q] at h; cases h
      | some r =>
        rw [q] at h; cases h
        have : ∀ r ∈ LL, r.2.contains (Str.ofString "place") = false := by decide +kernel
        have h1 := this r (List.mem_of_find?_eq_some q)
        rw [List.contains_iff_mem.mpr hm] at h1
        cases h1
theorem kinds_len {w0 : Str} {n : Nat} {ks : List Str} (hn : n ≤ 900) (h : kindsN w0 n = some ks) : ks.length ≤ 1000 := by
  unfold kindsN at h
  split at h
  · cases h
    rw [List.length_cons, PyProof.Rows.lm_len_rep_flat]
    show _ * 2 + 1 ≤ _
    omega
  · split at h
    · cases h
      rw [List.length_replicate]; omega
    · cases q : LL.find? (fun r => r.1 == w0) with
      | none => rw [q] at h; cases h
      | some r =>
        rw [q] at h; cases h
        have : ∀ r ∈ LL, r.2.length ≤ 1000 := by decide +kernel
        exact this r (List.mem_of_find?_eq_some q)
/-- the shapes that are drawn -/
def shpF : Nat → Str × Str
  | 0 => ("register", "in") | 1 => ("give", "ino") | 2 => ("got", "ionno") | 3 => ("use", "i") | 4 => ("recall", "i") | 5 => ("notice", "io") | 6 => ("receipt", "in") | 7 => ("noted", "io") | 8 => ("pay", "ion") | 9 => ("paid", "in")
  | 10 => ("split", "iinin") | 11 => ("split", "iininin") | 12 => ("split", "iinininin") | 13 => ("split", "iininininin")
  | 14 => ("join", "iii") | 15 => ("join", "iiii") | 16 => ("join", "iiiii") | 17 => ("join", "iiiiii") | _ => ("join", "iiiiiii")
def shpI (c : Int) : Nat := if c % 12 = 10 then 10 + (c / 12 % 4).toNat else if c % 12 = 11 then 14 + (c / 12 % 5).toNat else (c % 12).toNat
theorem shpI_lt (c : Int) : shpI c < 19 := by
  unfold shpI
  split
  · omega
  · split <;> omega
theorem shpF_all : ∀ m, m < 19 → (kindsN (shpF m).1 ((shpF m).2.length + 1) = some ((tl (shpF m).2).map kindOf) ∧ (!(tl (shpF m).1).contains 32 && !(tl (shpF m).1).contains 10 && decide ((shpF m).1.length ≤ 10) && !(tl (shpF m).2).contains 32 && decide (1 ≤ (shpF m).2.length) && decide ((shpF m).2.length ≤ 11)) = true) := by decide +kernel
structure ShpOk (w sh : Str) : Prop where
  kinds : kindsN w (sh.length + 1) = some ((tl sh).map kindOf)
  w32 : 32 ∉ tl w
  w10 : 10 ∉ tl w
  wl : w.length ≤ 10
  s32 : 32 ∉ tl sh
  s1 : 1 ≤ sh.length
  s11 : sh.length ≤ 11
theorem shpF_ok (c : Int) : ShpOk (shpF (shpI c)).1 (shpF (shpI c)).2 := by
  obtain ⟨h1, h2⟩ := shpF_all (shpI c) (shpI_lt c)
  simp only [Bool.and_eq_true, Bool.not_eq_true', decide_eq_true_eq] at h2
  obtain ⟨⟨⟨⟨⟨a, b⟩, d⟩, e⟩, f⟩, g⟩ := h2
  have no : ∀ {l : List Nat} {k : Nat}, l.contains k = false → k ∉ l := fun h hm => by rw [List.contains_iff_mem.mpr hm] at h; cases h
  exact ⟨h1, no a, no b, d, no e, f, g⟩
section
variable (ns : List Int) (sh : Str) (at_ : Int)
def valA (k : Nat) : PyData :=
  if (tl sh).getD k 0 = 110 then .int (numberOf (cellA ns (at_ + (k : Int))))
  else if (tl sh).getD k 0 = 111 then .str (officeOf (cellA ns (at_ + (k : Int))))
  else .str (thingS (officeOf (cellA ns (at_ + (k : Int)) / 5)) (numberOf (cellA ns (at_ + (k : Int)) / 3)))
theorem word_valA (k : Nat) : wordD (kindOf ((tl sh).getD k 0)) (strD (valA ns sh at_ k)) = valA ns sh at_ k := by
  unfold valA kindOf
  by_cases h : (tl sh).getD k 0 = 110
  · rw [if_pos h, if_pos h]
    have hn := numberOf_in (cellA ns (at_ + (k : Int)))
    have ho := num_ok hn.1 hn.2
    unfold wordD strD
    rw [if_pos rfl, if_pos ho.1, ho.2]
  · rw [if_neg h, if_neg h]
    by_cases h2 : (tl sh).getD k 0 = 111
    · rw [if_pos h2, if_pos h2]
      unfold wordD strD
      rw [if_neg (by decide +kernel), if_neg (by decide +kernel), if_pos (officeOf_ok _)]
    · rw [if_neg h2, if_neg h2]
      have hn := numberOf_in (cellA ns (at_ + (k : Int)) / 3)
      unfold wordD strD
      rw [if_neg (by decide +kernel), if_pos rfl, if_pos (thing_ok (officeOf_ok _) hn.1 hn.2)]
theorem num_freeC {n : Int} {c : Nat} (hc : c < 48) (h0 : 1 ≤ n) : c ∉ tl (Str.ofString (toString n)) := by
  rw [num_tl (by omega)]
  exact numL_free (.inl hc)
theorem off_freeC (x : Int) {c : Nat} (hc : c < 97) : c ∉ tl (officeOf x) := fun hm => by
  have h := officeOf_ok x
  unfold isOffL at h
  simp only [Bool.and_eq_true, List.all_eq_true] at h
  have := h.2.2 c hm
  unfold isSmall at this
  simp only [Bool.and_eq_true, decide_eq_true_eq] at this
  omega
theorem thing_freeC {x : Int} {n : Int} {c : Nat} (hc : c < 45) (h0 : 1 ≤ n) : c ∉ tl (thingS (officeOf x) n) := by
  unfold thingS
  rw [tl_append, tl_append]
  intro hm
  rcases List.mem_append.mp hm with z | z
  · rcases List.mem_append.mp z with z | z
    · exact off_freeC _ (by omega) z
    · have : c = 45 := by simpa using (show c ∈ [45] from z)
      omega
  · exact num_freeC (by omega) h0 z
theorem valA_free (k : Nat) {c : Nat} (hc : c < 45) : c ∉ tl (strD (valA ns sh at_ k)) := by
  unfold valA
  split
  · exact num_freeC (by omega) (numberOf_in _).1
  · split
    · exact off_freeC _ (by omega)
    · exact thing_freeC hc (numberOf_in _).1
theorem thing_len (x : Int) {n : Int} (h0 : 1 ≤ n) (h1 : n ≤ 1000000000) : (thingS (officeOf x) n).length ≤ 23 := by
  have h1' := officeOf_len x
  have h2 := num_len (n := n) (by omega) h1
  unfold thingS
  rw [str_len_app, str_len_app, show (Str.ofString "-").length = 1 from rfl]
  omega
theorem valA_len (k : Nat) : (strD (valA ns sh at_ k)).length ≤ 23 := by
  unfold valA
  split
  · exact Nat.le_trans (num_len (by have := (numberOf_in (cellA ns (at_ + (k : Int)))).1; omega) (numberOf_in _).2) (by decide)
  · split
    · exact Nat.le_trans (officeOf_len _) (by decide)
    · exact thing_len _ (numberOf_in _).1 (numberOf_in _).2
theorem valA_wr (k : Nat) : Wr (valA ns sh at_ k) := by
  have hl := valA_len ns sh at_ k
  unfold valA at hl ⊢
  split
  · have h := numberOf_in (cellA ns (at_ + (k : Int)))
    exact .inr ⟨_, rfl, by omega, h.2⟩
  · rename_i h1
    rw [if_neg h1] at hl
    split
    · rename_i h2
      rw [if_pos h2] at hl
      exact .inl ⟨_, rfl, Nat.le_trans hl (by decide)⟩
    · rename_i h2
      rw [if_neg h2] at hl
      exact .inl ⟨_, rfl, Nat.le_trans hl (by decide)⟩
theorem valA_some (k : Nat) : isNone (valA ns sh at_ k) = false := by
  unfold valA
  split
  · rfl
  · split <;> rfl
theorem valA_flat (k : Nat) : flatN 0 (valA ns sh at_ k) = true ∧ noB (valA ns sh at_ k) = true := by
  have hok : ∀ {x : Str}, (∀ c ∈ tl x, c < 128) → flatN 0 (.str x) = true := fun {x} h => okStr_iff.mpr fun c hc => by have := h c hc; omega
  have ho : ∀ z : Int, ∀ c ∈ tl (officeOf z), c < 128 := fun z c hc => by
    have h := officeOf_ok z
    unfold isOffL at h
    simp only [Bool.and_eq_true, List.all_eq_true] at h
    exact small_lt (h.2.2 c hc)
  have hn : ∀ n : Int, 1 ≤ n → ∀ c ∈ tl (Str.ofString (toString n)), c < 128 := fun n h0 c hc => by
    rw [num_tl (by omega)] at hc
    have := numL_digits _ c hc
    omega
  unfold valA
  split
  · exact ⟨rfl, rfl⟩
  · split
    · exact ⟨hok (ho _), rfl⟩
    · refine ⟨hok fun c hc => ?_, rfl⟩
      unfold thingS at hc
      rw [tl_append, tl_append] at hc
      rcases List.mem_append.mp hc with z | z
      · rcases List.mem_append.mp z with z | z
        · exact ho _ c z
        · have : c = 45 := by simpa using (show c ∈ [45] from z)
          omega
      · exact hn _ (numberOf_in _).1 c z
def tailA : List Str := (List.range sh.length).map fun k => strD (valA ns sh at_ k)
theorem tailA_len : (tailA ns sh at_).length = sh.length := by unfold tailA; rw [List.length_map, List.length_range]
theorem row_valsA : rowD ((tl sh).map kindOf) (tailA ns sh at_) = (List.range sh.length).map (valA ns sh at_) := by
  have hl : ((tl sh).map kindOf).length = (tailA ns sh at_).length := by unfold tailA; rw [List.length_map, List.length_map, List.length_range, len_tl]
  refine List.ext_getElem? fun i => ?_
  by_cases h : i < sh.length
  · have h1 : ((tl sh).map kindOf)[i]? = some (kindOf ((tl sh).getD i 0)) := by
      rw [List.getElem?_map, List.getD_eq_getElem?_getD, List.getElem?_eq_getElem (by rw [← len_tl]; exact h)]; rfl
    have h2 : (tailA ns sh at_)[i]? = some (strD (valA ns sh at_ i)) := by
      unfold tailA
      rw [List.getElem?_map, List.getElem?_range h]; rfl
    rw [rowD_at h1 h2, word_valA, List.getElem?_map, List.getElem?_range h]; rfl
  · rw [List.getElem?_eq_none (by rw [rowD_len hl, List.length_map, ← len_tl]; omega), List.getElem?_eq_none (by rw [List.length_map, List.length_range]; omega)]
end
/-- a drawn row, its words, its line -/
def rowA (ns : List Int) (a : Int) : List PyData := .str (shpF (shpI (cellA ns a))).1 :: (List.range (shpF (shpI (cellA ns a))).2.length).map (valA ns (shpF (shpI (cellA ns a))).2 (a + 1))
def wordsA (ns : List Int) (a : Int) : List Str := (shpF (shpI (cellA ns a))).1 :: tailA ns (shpF (shpI (cellA ns a))).2 (a + 1)
theorem row_str (ns : List Int) (a : Int) : (rowA ns a).map strD = wordsA ns a := by
  unfold rowA wordsA tailA
  rw [List.map_cons, List.map_map]; rfl
theorem row_len (ns : List Int) (a : Int) : (rowA ns a).length ≤ 12 := by
  have := (shpF_ok (cellA ns a)).s11
  unfold rowA
  rw [List.length_cons, List.length_map, List.length_range]; omega
theorem words_len (ns : List Int) (a : Int) : (wordsA ns a).length ≤ 12 := by rw [← row_str, List.length_map]; exact row_len ns a
theorem row_wr (ns : List Int) (a : Int) : ∀ x ∈ rowA ns a, Wr x := fun x hx => by
  rcases List.mem_cons.mp hx with z | z
  · exact .inl ⟨_, z, Nat.le_trans (shpF_ok (cellA ns a)).wl (by decide)⟩
  · obtain ⟨k, _, rfl⟩ := List.mem_map.mp z
    exact valA_wr _ _ _ k
theorem words_free (ns : List Int) (a : Int) : ∀ w ∈ wordsA ns a, 32 ∉ tl w ∧ 10 ∉ tl w ∧ w.length ≤ 23 := fun w hw => by
  have h := shpF_ok (cellA ns a)
  rcases List.mem_cons.mp hw with z | z
  · rw [z]; exact ⟨h.w32, h.w10, Nat.le_trans h.wl (by decide)⟩
  · obtain ⟨k, _, rfl⟩ := List.mem_map.mp z
    exact ⟨valA_free _ _ _ k (by decide), valA_free _ _ _ k (by decide), valA_len _ _ _ k⟩
theorem line_good (ns : List Int) (a : Int) : lineW (wordsA ns a) = .tuple (rowA ns a) := by
  have h := shpF_ok (cellA ns a)
  unfold lineW
  rw [show (wordsA ns a).headD (Str.ofString "") = (shpF (shpI (cellA ns a))).1 from rfl, show (wordsA ns a).length = (shpF (shpI (cellA ns a))).2.length + 1 by unfold wordsA; rw [List.length_cons, tailA_len], h.kinds]
  show rowsD ((tl (shpF (shpI (cellA ns a))).2).map kindOf) (wordsA ns a) = _
  unfold rowsD
  rw [show (wordsA ns a).tail = tailA ns (shpF (shpI (cellA ns a))).2 (a + 1) from rfl, row_valsA, if_pos]
  · rfl
  · refine ⟨by unfold wordsA; rw [List.length_cons, tailA_len, List.length_map, ← len_tl], ?_⟩
    cases q : ((List.range (shpF (shpI (cellA ns a))).2.length).map (valA ns (shpF (shpI (cellA ns a))).2 (a + 1))).any isNone with
    | false => rfl
    | true =>
      obtain ⟨d, hd, e⟩ := List.any_eq_true.mp q
      obtain ⟨k, _, rfl⟩ := List.mem_map.mp hd
      rw [valA_some] at e
      cases e
def lineA (ns : List Int) (a : Int) : Str := joinW (wordsA ns a)
theorem line_split (ns : List Int) (a : Int) : Txt.split (lineA ns a) (sgn 32) = wordsA ns a := split_join (by unfold wordsA; simp) fun w hw => (words_free ns a w hw).1
theorem join_mem {c s : Nat} : ∀ {ws : List Str}, c ∈ tl (Str.join (sgn s) ws) → c = s ∨ ∃ w ∈ ws, c ∈ tl w
  | [], h => by cases h
  | [x], h => .inr ⟨x, List.mem_cons_self, h⟩
  | x :: y :: r, h => by
    rw [tl_join1] at h
    rcases List.mem_append.mp h with z | z
    · exact .inr ⟨x, List.mem_cons_self, z⟩
    · rcases List.mem_cons.mp z with z | z
      · exact .inl z
      · rcases join_mem z with z | ⟨w, hw, z⟩
        · exact .inl z
        · exact .inr ⟨w, List.mem_cons_of_mem _ hw, z⟩
theorem line_free (ns : List Int) (a : Int) : 10 ∉ tl (lineA ns a) := fun hm => by
  rcases join_mem hm with z | ⟨w, hw, z⟩
  · cases z
  · exact (words_free ns a w hw).2.1 z
theorem line_len (ns : List Int) (a : Int) : (lineA ns a).length ≤ 300 := by
  have h1 := StrLaws.join_length_le (sgn 32) (wordsA ns a)
  have h2 := sum_len' (ws := wordsA ns a) (k := 23) fun x hx => (words_free ns a x hx).2.2
  have h3 := words_len ns a
  rw [show (sgn 32).length = 1 from rfl] at h1
  show (Str.join (sgn 32) (wordsA ns a)).length ≤ 300
  omega
theorem row_flat (ns : List Int) (a : Int) : flatN 1 (.tuple (rowA ns a)) = true ∧ noB (.tuple (rowA ns a)) = true := by
  have hw : flatN 0 (.str (shpF (shpI (cellA ns a))).1) = true := by
    have : ∀ m, m < 19 → flatN 0 (.str (shpF m).1) = true := by decide +kernel
    exact this _ (shpI_lt _)
  refine ⟨?_, ?_⟩
  · show (rowA ns a).all (flatN 0) = true
    unfold rowA
    rw [List.all_cons, hw, Bool.true_and, List.all_eq_true]
    intro x hx
    obtain ⟨k, _, rfl⟩ := List.mem_map.mp hx
    exact (valA_flat _ _ _ k).1
  · show noB.noBs (rowA ns a) = true
    unfold rowA
    exact noBs_map (List.range (shpF (shpI (cellA ns a))).2.length) (fun k => (valA_flat _ _ _ k).2)
end LH

set_option maxHeartbeats 400000
/-! journals: lines, each with its newline; cuts -/
namespace LH
open PySem L2 TL PySem.Spec PyProof.Rows
def flatL (ls : List Str) : List Nat := (ls.map fun l => tl l ++ [10]).flatten
theorem flatL_cons (l : Str) (ls : List Str) : flatL (l :: ls) = tl l ++ 10 :: flatL ls := by unfold flatL; simp
theorem flatL_app (a b : List Str) : flatL (a ++ b) = flatL a ++ flatL b := by unfold flatL; simp
theorem flatL_len_cons (l : Str) (ls : List Str) : (flatL (l :: ls)).length = l.length + 1 + (flatL ls).length := by
  rw [flatL_cons, List.length_append, List.length_cons, len_tl]; omega
theorem join_nl : ∀ (ls : List Str) (r : Str), tl (Str.join (sgn 10) (ls ++ [r])) = flatL ls ++ tl r
  | [], r => rfl
  | [a], r => by
    show tl (Str.join (sgn 10) (a :: r :: [])) = _
    rw [tl_join1, flatL_cons]; simp [flatL]; rfl
  | a :: b :: ls, r => by
    have ih := join_nl (b :: ls) r
    show tl (Str.join (sgn 10) (a :: b :: (ls ++ [r]))) = _
    rw [tl_join1, flatL_cons, List.append_assoc, List.cons_append, ← ih]; rfl
theorem split_nl {x : Str} {ls : List Str} {r : List Nat} (h : tl x = flatL ls ++ r) (hf : ∀ l ∈ ls, 10 ∉ tl l) (hr : 10 ∉ r) : (Txt.split x (sgn 10)).dropLast = ls := by
  have e : x = Str.join (sgn 10) (ls ++ [⟨r.toArray⟩]) := ext_tl (by rw [join_nl, h])
  rw [e, split_join (by simp) (fun w hw => by
    rcases List.mem_append.mp hw with z | z
    · exact hf w z
    · rw [List.mem_singleton.mp z]; exact hr)]
  simp
theorem join_emp : ∀ (ws : List Str), tl (Str.join (Str.ofString "") ws) = (ws.map tl).flatten
  | [] => rfl
  | [x] => by simp [Str.join]
  | x :: y :: r => by
    have ih := join_emp (y :: r)
    show tl (x ++ Str.ofString "" ++ Str.join (Str.ofString "") (y :: r)) = _
    rw [tl_append, tl_append, ih]
    show tl x ++ [] ++ _ = _
    rw [List.append_nil]; simp
theorem cut_last (x : List Str) (hx : x ≠ []) : LH.cutD (x.map PyData.str) none (some (-1)) = x.dropLast.map .str := by
  unfold LH.cutD
  have h1 : 1 ≤ x.length := List.length_pos_iff.mpr hx
  rw [HT.sIx_none, List.drop_zero, Nat.sub_zero]
  have e : HT.sIx (x.map PyData.str).length (x.map PyData.str).length (some (-1)) = x.length - 1 := by
    rw [List.length_map]
    unfold HT.sIx
    simp
    omega
  rw [e, List.dropLast_eq_take, List.map_take]
/-- how many lines are whole -/
def cntL (ls : List Str) (c : Nat) : Nat := ((List.range (ls.length + 1)).filter fun j => decide ((flatL (ls.take j)).length ≤ c)).length
theorem cntL_nil (c : Nat) : cntL [] c = 1 := by unfold cntL; simp [flatL]
theorem cntL_cons (l : Str) (ls : List Str) (c : Nat) : cntL (l :: ls) c = if l.length + 1 ≤ c then 1 + cntL ls (c - (l.length + 1)) else 1 := by
  unfold cntL
  rw [show (l :: ls).length + 1 = ls.length + 1 + 1 from rfl, List.range_succ_eq_map, List.filter_cons, List.filter_map]
  have h0 : decide ((flatL ((l :: ls).take 0)).length ≤ c) = true := by simp [flatL]
  rw [h0, if_pos rfl, List.length_cons, List.length_map]
  by_cases h : l.length + 1 ≤ c
  · rw [if_pos h, Nat.add_comm]
    congr 2
    refine List.filter_congr fun j _ => ?_
    show decide ((flatL (l :: ls.take j)).length ≤ c) = _
    rw [flatL_len_cons]
    exact decide_eq_decide.mpr (by omega)
  · rw [if_neg h]
    have : (List.range (ls.length + 1)).filter ((fun j => decide ((flatL ((l :: ls).take j)).length ≤ c)) ∘ Nat.succ) = [] := List.filter_eq_nil_iff.mpr fun j _ => by
      show ¬ decide ((flatL (l :: ls.take j)).length ≤ c) = true
      rw [flatL_len_cons, decide_eq_true_eq]
      omega
    rw [this]; rfl
theorem cut_lines : ∀ (ls : List Str) (c : Nat), (∀ l ∈ ls, 10 ∉ tl l) → ∃ r m, cntL ls c = m + 1 ∧ m ≤ ls.length ∧ 10 ∉ r ∧ (flatL ls).take c = flatL (ls.take m) ++ r
  | [], c, _ => ⟨[], 0, cntL_nil c, Nat.le_refl _, by simp, by simp [flatL]⟩
  | l :: ls, c, h => by
    rw [cntL_cons]
    by_cases hc : l.length + 1 ≤ c
    · obtain ⟨r, m, h1, h2, h3, h4⟩ := cut_lines ls (c - (l.length + 1)) fun x hx => h x (List.mem_cons_of_mem _ hx)
      refine ⟨r, m + 1, by rw [if_pos hc, h1, Nat.add_comm], by simpa using h2, h3, ?_⟩
      rw [flatL_cons, List.take_succ_cons, flatL_cons, List.append_assoc, List.cons_append, ← h4]
      have e : c = (tl l).length + (c - (l.length + 1) + 1) := by have := len_tl l; omega
      conv => lhs; rw [e]
      rw [List.take_length_add_append, List.take_succ_cons]
    · refine ⟨(tl l).take c, 0, by rw [if_neg hc], Nat.zero_le _, fun hm => h l List.mem_cons_self (List.mem_of_mem_take hm), ?_⟩
      rw [flatL_cons, List.take_append_of_le_length (by have := len_tl l; omega)]
      rfl
end LH

set_option maxHeartbeats 1000000
/-! an own exception whose __init__ says super().__init__(..), then more -/
namespace LH
open PySem L2 PySem.Spec PyProof.Rows NdefX
structure SupC (P : Program) (K : PySem.W.Frag) (C fI : Addr) (F : NF) : Prop where
  fn : ∃ (oc : Value) (od : Option Addr) (osl : Array (Option Value)) (doc pm ctv : Value), K.lookup fI = some ⟨oc, od, .func (F.fd doc pm ctv), osl⟩
  code : PySem.W.codeIn K (.ref F.c) F.qual = true
  kp : PySem.W.keepIn K (.ref fI) = true
  file : ∃ (oc : Value) (od : Option Addr) (vs : Array Value) (osl : Array (Option Value)) (file : Str) (tf : Tok), K.lookup F.c = some ⟨oc, od, .fields vs, osl⟩ ∧ vs[2]? = some (.str file tf) ∧ ((P.main.file : Str) == file) = true
  top : (P.main.scope.names.lookup ("super" : Str)).isSome = false
  cell : ∃ (cc : Addr) (oc : Value) (od : Option Addr) (osl : Array (Option Value)), F.cl = [(("__class__" : Str), cc)] ∧ K.lookup cc = some ⟨oc, od, .cell (some (.ref C)), osl⟩
  cls : ∃ cd, PySem.W.clsIn K C = some cd
  sub : PySem.W.mroIn K C (.ref C) = some true
  sup : PySem.W.ks_superIn K C C "__init__" = some (some (.builtin "ValueError.__init__"))
  ve : PySem.W.subIn K (.ref C) (.type "ValueError") = some true
  opq : PySem.W.nsIn K cStatics "thirdparty.any" = some none
  oex : OexC K C
section
variable {CX : CXT} {P : Program} {w : World} {K : PySem.W.Frag} {mg : Str → Option Value} {base : Heap} {X : Cx} {pins : List (Addr × Obj)} {σ : Stt} {H : Hp} {s : Shared} {A : Around} {E : Value → Shared → Prop}
/-- the bound ValueError.__init__, called: nothing of it is told -/
theorem bound_ok {a C u : Addr} {us : List Value} {Q : Value → Shared → Prop} (T : OexC X.K C) (I : Inv X pins σ H s) (e : H a = some (exo a C none)) (hu : s.heap.get? u = some (PySem.W.kxs_mw "ValueError.__init__" a)) (hl : us.length ≤ sizeLine) (h : ∀ s', Inv X pins σ H s' → Q .none s') :
    wpAny (model X.prog X.w) A (call (.ref u) us) Q E s := by
  obtain ⟨nm, q, N, bs, bm, sn, sub, ab, col, dd, k0, k1, k2, k3, k5, hC, hbm⟩ := T.cls
  obtain ⟨t1, ho⟩ := exo_at I.hok e
  have hCs := I.kIn _ _ hC
  obtain ⟨hp, g, d, t, os⟩ := s
  refine wpAny_call (codeAny_of_tree ?_)
  show wpAny _ A.in1 (callAny (.ref u) ⟨us, []⟩) _ _ _
  simp only [callAny]
  refine wpAny_bind (wpAny_load hu ?_)
  simp only [PySem.W.kxs_mw, show (Value.type "method-wrapper" == Value.type "method" || Value.type "method-wrapper" == Value.type "builtin_function_or_method" || Value.type "method-wrapper" == Value.type "method-wrapper") = true by decide, if_true]
  refine PySem.W.KFB.if_so (by decide) ?_
  refine wpAny_bind (PySem.W.check_bound_init F.excBase_ValueError.toExcCallFacts hCs ho rfl ?_)
  refine wpAny_bind (wpAny_pure (wpAny_pure ?_))
  refine ⟨plainId_quiet F.excBase_ValueError.init.plain _, codeAny_builtin F.excBase_ValueError.initEntry ?_⟩
  refine PySem.W.exc_init_tree (cls := .ref C) (t0 := t1) (dv := none) (c2 := .none) (c3 := .none) (b4 := .bool false) ho hl fun h' k hx _ => ?_
  have J := I.write (t' := t) (x := a) (e := a) (o := exo a C none) (by rw [e]; exact True.intro) (.inl rfl) k ⟨_, hx⟩ (exo_ok hx)
  have eu : upd H a (exo a C none) = H := by
    funext b
    by_cases hb : b = a
    · rw [hb, upd_same, e]
    · rw [upd_ne hb]
  rw [eu] at J
  exact h _ J
end
theorem fn_super {CX : CXT} {P : Program} {w : World} {K : PySem.W.Frag} {mg : Str → Option Value} {base : Heap} {k : Nat} {C fI : Addr} {F : NF} {Nm ps : List Str} {sp : Sp} {p0 p1 p2 p3 p4 : Pos} {e : Expr} {es : List Expr} {rest : List Stmt} {ar : Arg} {od : Option Addr} {oc : Value} {osl : Array (Option Value)} {doc pm ctv : Value}
    (T : SupC P K C fI F) (lk : K.lookup fI = some ⟨oc, od, .func (F.fd doc pm ctv), osl⟩) (S : NScope Nm ps ["__class__"] F.scope) (hbd : F.body = .Expr (.Call (.Attribute (.Call (.Name "super" p0) [] [] p1) "__init__" p2) (e :: es) [] p3) p4 :: rest)
    (hsup : mg "super" = none) (hks : F.scope.names.lookup ("super" : Str) = some .globalImplicit) (har : (F.params.posonlyargs ++ F.params.args).head? = some ar) (har2 : ps.head? = some ar.arg)
    (len : ∀ vs H Q E, sp vs H Q E → vs.length = ps.length)
    (hbody : ∀ (A : Around) (outer : List Env) (s : Shared) (H : Hp) (vs : List V) (Q : VK) (E : XK), Room k (A.deeper (envF F fI s.heap.objs.size)) → sp vs H Q E →
      ∃ (a : Addr) (vr : List V) (ta : TA) (t : TS), vs = .ref a :: vr ∧ H a = some (exo a C none) ∧ PA (ncx CX P w K mg base Nm F fI A outer s H E) (e :: es) ta ∧ PSs (ncx CX P w K mg base Nm F fI A outer s H E) rest t ∧
        ta (startF Nm vs [none]) H (fun ws H1 => ws.length ≤ 1000 ∧ H1 a = some (exo a C none) ∧ t { nx := fun _ H' => Q .non H', rt := Q } (startF Nm vs [none]) H1))
    (he : ∀ env : Env, starEach (e :: es) env = (false, eval e env) :: starEach es env) (hpl : ∀ env : Env, (backTo p3 (starEach es env)).any (·.1) = false)
    (hin : ∀ env : Env, env.scope.kind = .function → interactive env = false) (hsw : ∀ env : Env, swapsWith (.Call (.Attribute (.Call (.Name "super" p0) [] [] p1) "__init__" p2) (e :: es) [] p3) none p4.line env = pure false)
    (hcall : ∀ env : Env, ∃ pl : Sem Bool, eval (.Call (.Attribute (.Call (.Name "super" p0) [] [] p1) "__init__" p2) (e :: es) [] p3) env = (do
      let ov ← attributeBase (.Call (.Name "super" p0) [] [] p1) "__init__" env (eval (.Call (.Name "super" p0) [] [] p1) env)
      standAt p2.atName
      let (f, first) ← holding [ov] (getMethod ov "__init__" pl)
      callWith p3 f first (backTo p3 (starEach (e :: es) env)) [])) :
    FnOk P w K mg base CX (k + 1) fI (F.fd doc pm ctv) ps sp := by
  refine ⟨len, fun A outer s H args us vs Q E hr e0 hb r hsp => ?_⟩
  have hl := len _ _ _ _ hsp
  have KX : K.In s.heap := e0.mod.kin.keeps fun b o e => (e0.bs b o e).1
  have lim : s.heap.NoLimit := e0.mod.nolimit.keeps fun b o e => (e0.bs b o e).1
  obtain ⟨cc, cl0, cd0, csl, hcl, hcc⟩ := T.cell
  have hCA : CellsAt F.cl ["__class__"] [none] s.heap H := by
    have hIC : s.heap.IsCell cc (some (.ref C)) := ⟨_, KX _ _ hcc, rfl⟩
    have hfree : H cc = none := (e0.bs _ _ (e0.mod.kin _ _ hcc)).2
    have hlk : ∀ y c, F.cl.lookup y = some c → y = ("__class__" : Str) ∧ c = cc := fun y c h => by
      rw [hcl, List.lookup_cons] at h
      by_cases hy : y = ("__class__" : Str)
      · rw [hy] at h ⊢
        simp at h
        exact ⟨rfl, h.symm⟩
      · rw [beq_eq_false_iff_ne.mpr hy] at h
        cases h
    refine ⟨rfl, fun y c h => ?_, fun x y c h1 h2 => ?_, fun i y h => ?_⟩
    · obtain ⟨_, rfl⟩ := hlk y c h
      exact ⟨hfree, _, hIC⟩
    · rw [(hlk x c h1).1, (hlk y c h2).1]
    · have hi : i = 0 := by
        have := (List.getElem?_eq_some_iff.mp h).1
        simp at this
        omega
      subst hi
      cases h
      exact ⟨cc, by rw [hcl]; simp [List.lookup], fun v hv => by cases hv⟩
  obtain ⟨a, vr, ta, t, hvs, hHa, hta, ht, hrun⟩ := hbody A outer s H vs Q E (hr.deeper _) hsp
  obtain ⟨cda, cdd, cvs, ccs, file, tf, hcode, hvs2, hfile⟩ := T.file
  obtain ⟨cdata, hcd⟩ := T.cls
  refine ks_codeAny_call_defAt (fd := F.fd doc pm ctv) (body := F.body) (binds := ps.zip us) hr.depth (KX _ _ lk) rfl lim (PySem.W.codeRec_of KX T.code) rfl hb S.nocell (fun y hy => S.par y.1 (List.of_mem_zip hy).1) (fun h₁ hns kp => ?_) S.co S.gen S.kind
  have I : Inv (ncx CX P w K mg base Nm F fI A outer s H E) [] (startF Nm vs [none]) H { s with heap := h₁, toks := s.toks + (ps.zip us).length } := inv_startN S hr.hd e0 hl r hCA hns kp
  rw [hbd]
  have fin : ∀ {pins : List (Addr × Obj)} {σ' : Stt} {H' : Hp} {v : V} {u : Value} {s' : Shared}, Inv (ncx CX P w K mg base Nm F fI A outer s H E) pins σ' H' s' → RelV v u → Q v H' → CE outer P w H s Q u s' :=
    fun {pins σ' H' v u s'} J rv q => ⟨v, H', J.os, J.bare, J.base, J.hok, rv, q⟩
  refine ks_wpAt_execs_cons (ks_wpAt_Expr_any ?_ (hin _ S.kind) (hsw _))
  obtain ⟨pl, hpe⟩ := hcall (callEnv (F.fd doc pm ctv) s.heap.objs.size fI)
  refine ks_wpAt_MethodCall (pl := pl) ?_ hpe
  obtain ⟨us0, rfl⟩ : ∃ us0, us = .ref a :: us0 := by
    rw [hvs] at r
    cases r with
    | cons r1 r2 => cases r1; exact ⟨_, rfl⟩
  obtain ⟨ps0, hps⟩ : ∃ ps0, ps = ar.arg :: ps0 := by
    cases ps with
    | nil => cases har2
    | cons x ps0 => simp at har2; exact ⟨ps0, by rw [har2]⟩
  have hself : (ps.zip (Value.ref a :: us0)).reverse.lookup ar.arg = some (.ref a) := zip_look (i := 0) (by
      have q := S.nd.sublist (List.take_sublist (ps.length + 1) Nm)
      have hpre := S.pre
      simp only [List.length_cons, List.length_nil, Nat.zero_add] at hpre
      rw [hpre] at q
      exact (List.nodup_append.mp q).1) (by rw [hps]; rfl) rfl
  obtain ⟨t1, hoa⟩ := exo_at I.hok hHa
  have K1 : K.In h₁ := I.kIn
  obtain ⟨oC, hC1, hC2⟩ : ∃ oC, h₁.get? C = some oC ∧ oC.data = .cls cdata := by
    unfold PySem.W.clsIn at hcd
    split at hcd
    · rename_i c d cd' sl ho
      cases hcd
      exact ⟨_, K1 _ _ ho, rfl⟩
    · cases hcd
  have JI : PySem.W.InstAt h₁ a { cls := .ref C, dict := none, data := .fields #[.ref t1, .none, .none, .none, .bool false, .none] } C none := ⟨hoa, rfl, rfl, trivial⟩
  refine ks_wpAt_super_base (env := envF F fI s.heap.objs.size) hks (S.frk _ (by simp)) (by decide) rfl (K1 _ _ lk) rfl har rfl (K1 _ _ hcode) rfl hvs2 hfile T.top ?_
  obtain ⟨mb, hb1, hb2⟩ := I.mod.blt
  refine PySem.W.ks_loadName_global (env := envF F fI s.heap.objs.size) S.kind hks (PySem.Calls.loadGlobal_builtin (env := envF F fI s.heap.objs.size) (I.mod.glob.keeps I.bk) hsup (hb1.keeps I.bk) ((hb2 _ (by decide)).trans PyProof.Rows.Boot.«super») ⟨rfl, ?_⟩)
  refine wpAny_loadName_free (env := envF F fI s.heap.objs.size) S.kind (S.frk _ (by simp)) (by show F.cl.lookup _ = _; rw [hcl]; simp [List.lookup]) ⟨_, K1 _ _ hcc, rfl⟩ ?_
  refine wpAny_loadName_local (env := envF F fI s.heap.objs.size) S.kind (S.par _ (by rw [hps]; simp)) hns hself ?_
  refine ks_wpAny_isType_cls hC1 hC2 ⟨rfl, ?_⟩
  refine ks_wpAny_call_super hC1 hC2 hoa rfl (fun c e => by cases e) (PySem.W.looks_mroIn K1 T.sub) (fun h2 hso2 k2 => ?_)
  have I2 : Inv (ncx CX P w K mg base Nm F fI A outer s H E) [] (startF Nm vs [none]) H { s with heap := h2, toks := s.toks + (ps.zip (Value.ref a :: us0)).length } := I.kept (t' := s.toks + (ps.zip (Value.ref a :: us0)).length) k2
  have K2 : K.In h2 := I2.kIn
  have hsp' := T.sup
  unfold PySem.W.ks_superIn at hsp'
  rw [hcd] at hsp'
  have J2 : PySem.W.InstAt h2 a { cls := .ref C, dict := none, data := .fields #[.ref t1, .none, .none, .none, .bool false, .none] } C none := ⟨k2 _ _ hoa, rfl, rfl, trivial⟩
  refine PySem.W.kxs_getMethod PySem.W.kxs_ValueError hso2 (PySem.W.looks_opaque K2 T.opq) (l₀ := cdata.mro) ((PySem.W.looks_clsIn K2 hcd).andThen .now) rfl K2 hsp' (J2.type.andThen (PySem.W.looks_subIn K2 T.ve)) (PySem.W.ks_ne K2 J2 hcd) (by decide) ?_
  have I3 : Inv (ncx CX P w K mg base Nm F fI A outer s H E) [] (startF Nm vs [none]) H { s with heap := h2.push (PySem.W.kxs_mw "ValueError.__init__" a), toks := s.toks + (ps.zip (Value.ref a :: us0)).length + 1 } := I2.kept (t' := s.toks + (ps.zip (Value.ref a :: us0)).length + 1) fun b o e => Heap.get?_push_of_some _ e
  have hu : (h2.push (PySem.W.kxs_mw "ValueError.__init__" a)).get? h2.objs.size = some (PySem.W.kxs_mw "ValueError.__init__" a) := Heap.get?_push_at rfl rfl
  show wpAny _ _ (callWith p3 (.ref h2.objs.size) [] (backTo p3 (starEach (e :: es) (envF F fI s.heap.objs.size))) []) _ _ _
  have hnb : H h2.objs.size = none := I2.hok.fresh (Nat.le_refl _)
  have I4 : Inv (ncx CX P w K mg base Nm F fI A outer s H E) [(h2.objs.size, PySem.W.kxs_mw "ValueError.__init__" a)] (startF Nm vs [none]) H { s with heap := h2.push (PySem.W.kxs_mw "ValueError.__init__" a), toks := s.toks + (ps.zip (Value.ref a :: us0)).length + 1 } :=
    ⟨I3.ok, I3.os, I3.bare, I3.base, I3.loc, I3.cell, I3.free, I3.freeC, fun q hq => by
      have hq' : q = (h2.objs.size, PySem.W.kxs_mw "ValueError.__init__" a) := by
        have : q ∈ ([] : List (Addr × Obj)) ++ [(h2.objs.size, PySem.W.kxs_mw "ValueError.__init__" a)] := hq
        simpa using this
      subst hq'
      exact ⟨hu, hnb, fun z => Nat.lt_irrefl _ (by have := I2.lt; rw [← z] at this; exact this), I2.nofs (Nat.le_refl _), fun v q => by cases q⟩, I3.hok, I3.len⟩
  have hpr := hta.run p3 [(h2.objs.size, PySem.W.kxs_mw "ValueError.__init__" a)] _ _ H _ I4 hrun
  rw [he (envF F fI s.heap.objs.size)]
  refine PySem.W.kxs_callWith (i := "ValueError.__init__") (x := a) (by show (false || (backTo p3 (starEach es _)).any (·.1)) = false; rw [hpl]; rfl) (PySem.Calls.evalArgs_plain ?_)
  have hpr' : wpAny (model P w) (A.deeper (envF F fI s.heap.objs.size)) (spliced (backTo p3 (starEach (e :: es) (envF F fI s.heap.objs.size)))) _ _ _ := hpr
  rw [he (envF F fI s.heap.objs.size)] at hpr'
  refine wpAny_mono hpr' (fun ws s3 hs3 => ?_) fun _ _ q => q
  obtain ⟨wv, H3, I5, rw3, hz, hHa3, hrest⟩ := hs3
  have hu5 := (I5.pin (h2.objs.size, PySem.W.kxs_mw "ValueError.__init__" a) (by simp)).1
  refine ⟨hu5, ?_⟩
  refine bound_ok (X := ncx CX P w K mg base Nm F fI A outer s H E) T.oex I5 hHa3 hu5 (by show ws.length ≤ sizeLine; rw [← rw3.length, sizeLine_eq]; omega) fun s4 I6 => ?_
  refine wpAt_of_wpAny ?_
  refine wpAny_mono (ht.run _ s4 (startF Nm vs [none]) H3 _ I6 hrest) (fun fl s' hs => ?_) fun e s' hs => hs
  cases fl with
  | ret u =>
    obtain ⟨v, σ', H', J, rv, q⟩ := hs
    exact fin J rv q
  | next =>
    obtain ⟨σ', H', J, q⟩ := hs
    exact fin (v := V.non) (u := Value.none) J rfl q
  | brk =>
    obtain ⟨_, _, _, q⟩ := hs
    exact False.elim q
  | cont =>
    obtain ⟨_, _, _, q⟩ := hs
    exact False.elim q
end LH

set_option maxHeartbeats 4000000
/-! isinstance of a caught error of an own class that has fields -/
namespace LH
open PySem PySem.Spec PySem.Calls PyProof.Rows PySem.W
theorem fo_data {K : Frag} {C : Addr} {od : Option Obj} {name : Str} {a g : Value} (hc : (clsIn K C).isSome = true) (ha : findIn K (.ref C) name = some (some a)) (hg : specialIn K a "__get__" = some (some g)) (ht : takesIn K a = some true) : findObj K C od name = some (.bind g a) := by
  obtain ⟨cd, e⟩ := Option.isSome_iff_exists.mp hc
  unfold findObj; rw [e, Option.bind_some, ha, Option.bind_some]; simp [hg, ht]
section
variable {prog : Program} {w : World} {A : Around} {E : Value → Shared → Prop} {s : Shared} {K : Frag} {x D : Addr} {ox : Obj} {od : Option Obj}
theorem class_of_exc {Q : Option Value → Shared → Prop} (T : L2.ExcC K D) (X : K.In s.heap) (I : InstAt s.heap x ox D od) (h : Q (some (.ref D)) { s with toks := s.toks + 1 }) : wpAny (model prog w) A (getAttr? (.ref x) "__class__") Q E s := by
  have hf : findObj K D od "__class__" = some (.bind (.builtin "getset_descriptor.__get__") (.builtin "object.__class__")) := fo_data (by obtain ⟨cd, hc, _⟩ := any_some T.hd; rw [hc]; rfl) T.ha T.hn T.ht
  obtain ⟨hp, g, d, t, os⟩ := s
  have A0 := I.type (M := model prog w); have A1 := looks_findIn (M := model prog w) X T.hg; have A2 := looks_findIn (M := model prog w) X T.hk; have A3 := looks_find (M := model prog w) X I hf
  have sb : Looks (model prog w) hp (isInstance (.ref x) (.type "BaseException")) true := A0.andThen (looks_subIn X T.hs)
  have n0 : (false && onTheHeap (Value.builtin "BaseException.__getattribute__")) = false := rfl
  have n1 : (onTheHeap (Value.ref D) && Value.builtin "BaseException.__getattribute__" == Value.builtin "object.__getattribute__") = false := by rw [show (Value.builtin "BaseException.__getattribute__" == Value.builtin "object.__getattribute__") = false by decide +kernel]; rfl
  unfold getAttr? getAttrBy? getAttrBy; refine wpAny_bind (wpAny_mkText (wpAny_bind (wpAny_attempt (wpAny_holding (wpAny_bind (A0.at (wpAny_bind (A1.at ?_))))))))
  show wpAny _ _ (if (onTheHeap (Value.ref D) && Value.builtin "BaseException.__getattribute__" == Value.builtin "object.__getattribute__") = true then _ else _) _ _ _; rw [n1, if_neg Bool.false_ne_true]
  unfold getAttrByItsOwn hookBefore; refine wpAny_bind ?_; rw [if_pos (show onTheHeap (Value.ref D) = true from rfl)]; refine A2.at (wpAny_bind (wpAny_attempt (wpAny_holding ?_)))
  unfold callGetattribute; rw [n0, if_neg Bool.false_ne_true]
  unfold boundAndCalled; rw [PySem.F.excAttr_ValueError.ga.bind (.ref x)]; refine wpAny_bind (wpAny_pure ?_)
  show wpAny _ _ (call (.builtin "BaseException.__getattribute__") [.ref x, .str "__class__" t]) _ _ _; refine wpAny_call (codeAny_call_builtin PySem.F.excAttr_ValueError.ga.plain PySem.F.entry_bexc_ga ?_)
  refine @check_slot (model prog w) _ _ ⟨hp, g, d, t + 1, os⟩ "BaseException.__getattribute__" "BaseException" "__getattribute__" (.ref x) [.str "__class__" t] [] _ (by decide +kernel) (by decide +kernel) sb (PySem.F.args_bexc_ga (.ref x) (.str "__class__" t)) ?_
  unfold Builtin.«object.__getattribute__»; refine wpAny_bind (wpAny_of_eq (a := ((Value.ref x : Value), [Value.str "__class__" t])) (by first | rfl | (simp only [slotArgs]; rfl)) ?_)
  refine wpAny_bind (wpAny_pure (wpAny_bind (A0.at (wpAny_bind (A3.at ?_)))))
  show wpAny _ _ (holding [Value.builtin "object.__class__"] (call (.builtin "getset_descriptor.__get__") [.builtin "object.__class__", .ref x, .ref D]) >>= ret) _ _ _; refine wpAny_bind (wpAny_holding (wpAny_call (class_get (s := ⟨hp, g, d, t + 1, os⟩) (ox := ox) (od := od) X I T.hm ?_)))
  refine wpAny_pure ?_; show wpAny _ _ (handedOut (.ref D)) _ _ _; rw [handedOut_of (v := .ref D) rfl]
  first
    | exact wpAny_pure (wpAny_pure h)
    | exact wpAny_pure h
    | exact wpAny_pure (wpAny_bind (wpAny_pure (wpAny_pure h)))
theorem kitx_excD (T : L2.ExcC K D) : KitX K (.ref x) (.ref D) (fun h => ∃ od, InstAt h x ox D od) where
  ty := fun _ _ _ ⟨_, I⟩ => I.type
  it := fun _ _ X _ => by
    obtain ⟨cdD, hcD, _⟩ := any_some T.hd
    unfold clsIn at hcD; split at hcD
    · rename_i c' d' cd' sl' ho
      intro A' Q' E' s' k q
      unfold isType loadHead; exact wpAny_bind (wpAny_loadPart (k _ _ (X _ _ ho)) (wpAny_pure q))
    · cases hcD
  ne := fun h tp dd its n sl X htp => by
    obtain ⟨cdD, hcD, _⟩ := any_some T.hd
    refine Bool.eq_false_iff.mpr fun q => ?_
    obtain rfl : D = tp := Value.ref.inj (beq_iff_eq.mp q)
    unfold clsIn at hcD; split at hcD
    · rename_i c' d' cd' sl' ho
      have z := (X _ _ ho).symm.trans htp; cases z
    · cases hcD
  ca := fun X ⟨_, I⟩ k => class_of_exc T X I k
end
open L2 in
def rIsXd (K : PySem.W.Frag) (D : Addr) (a : Addr) (cls : Value) (d : Option Addr) : List V → Hp → VK → Prop := fun xs H Q => cls = .ref D ∧ (∃ dd fs, d = some dd ∧ H dd = some (.xd fs)) ∧ rIsE K D a xs H Q
open L2 in
/-- isinstance(e, c), e the exception with fields that the suite holds -/
theorem call_isXd {X : Cx} {K : PySem.W.Frag} {a D : Addr} {oe : Obj} {cls : Value} {d : Option Addr} {pn : List (Addr × Obj)} (hK : X.K = K) (T : ExcC K D) (hz : Zc cls d oe) (hf : ∃ vs, oe.data = .fields vs) : CallR (X.suite a ((a, oe) :: pn)) (.builtin "isinstance") (rIsXd K D a cls d) := by
  subst hK
  intro pins s σ H xs us Q I r h
  obtain ⟨rfl, ⟨dd, fs, rfl, hdd⟩, c, cv, b, rfl, hcv, e, q⟩ := h
  cases r with
  | cons rx rr => cases rr with
    | cons rt rr =>
      cases rr; cases rx
      have ec := hcv _ rt
      subst ec
      obtain ⟨hget, _⟩ := I.pin (a, oe) (List.mem_append.mpr (.inl List.mem_cons_self))
      obtain ⟨vs, hv⟩ := hf
      obtain ⟨mA, hns, _⟩ : ObjOk X.prog X.w H s.heap dd (.xd fs) := I.hok dd _ hdd
      obtain ⟨od, ho, _⟩ := lookIn_ns hns
      have J : PySem.W.InstAt s.heap a oe D (some od) := ⟨hget, hz.1, by unfold PySem.W.notCls; rw [hv] <;> rfl, by rw [hz.2]; exact ho⟩
      exact PySem.W.kia_one (kitx_excD T) I.kIn ⟨_, J⟩ e (fun z => nomatch z) fun tk => ⟨.bl b, H, I.kept (t' := tk) fun _ _ z => z, rfl, q⟩
end LH

set_option maxHeartbeats 1000000
namespace LH
open PySem L2 PySem.Spec PyProof.Rows NdefX
/-! ### an own exception class with an __init__ of its own: made, raised -/
structure ExOk (P : Program) (w : World) (K : PySem.W.Frag) (mg : Str → Option Value) (base : Heap) (CX : CXT) (k : Nat) (x : Str) (C : Addr) (ps : List Str) (sp : Sp) : Prop where
  gl : mg x = some (.ref C)
  oex : OexC K C
  ex : ∃ fI fd, PySem.W.findIn K (.ref C) "__init__" = some (some (.ref fI)) ∧ PySem.W.typeIn K (.ref fI) = some (.type "function") ∧ Binds K fd ps [] ∧ FnOk P w K mg base CX k fI fd ps sp
theorem pmk_own {X : Cx} {CX : CXT} {x : Str} {C : Addr} {k : Nat} {ps : List Str} {sp : Sp} {p pos : Pos} {e : Expr} {es : List Expr} {ta : TA} (c : ExOk X.prog X.w X.K X.mg X.base CX k x C ps sp) (hr : Room (k + 1) X.A) (hx : Passes CX X (fun _ _ _ => False)) (hg : Gl X x) (ha : PA X (e :: es) ta)
    (hdb : (x == ("__debug__" : Str)) = false := by decide) (he : starEach (e :: es) X.env = (false, eval e X.env) :: starEach es X.env := by rfl) (hpl : (backTo pos (starEach es X.env)).any (·.1) = false := by rfl) :
    PMk X (.Call (.Name x p) (e :: es) [] pos) (tMkO C sp [] ta) := by
  obtain ⟨fI, fd, h1, h2, h3, h4⟩ := c.ex
  exact pmk_oex c.oex h1 h2 h4 hr h3 .nil hx hg c.gl ha hdb he hpl
/-- what such an __init__ with one field does: self.f = n -/
def spLine (C : Addr) (f : Str) : Sp := fun vs H Q _ => ∃ (a : Addr) (n : Int), vs = [.ref a, .int n] ∧ n.natAbs.log2 < 1920 ∧ H a = some (exo a C none) ∧ ∀ dx, H dx = none → dx ≠ a → Q .non (upd (upd H dx (exd dx [(f, .int n)])) a (exo a C (some dx)))
theorem Good.up {C : Ct} {e : En} {σ : Stt} {F H H2 : Hp} (gd : Good C e σ F H) (h : Ex H H2) : Good C e σ F H2 := gd.grow ⟨Evl.Ex.refl F, h, Evl.Ex.trans gd.fh h, fun b o h n => by rw [h] at n; cases n⟩
section
variable {C : Ct} {e : En} {te : TE}
theorem r_raiseL {A : Addr} {f : Str} {n : Int} {E : XK} (h : EvE C te e (.int n)) (hn : n.natAbs.log2 < 1920) (k : ∀ σ F2 H2 dd, Good C e σ F2 H2 → H2 dd = some (.xd [(f, .int n)]) → E (.ref A) (some dd) H2) :
    Run C e (fun σ H => tMkO A (spLine A f) [] (tCons te tNil) σ H fun cls d H' => E cls d H') := fun σ F H gd => by
  refine h σ F H gd _ fun v F1 H1 w r => ?_
  cases r
  refine ⟨by simp, fun a ha => ⟨a, n, rfl, hn, upd_same, fun dx hdx hne => ⟨rfl, dx, [(f, .int n)], upd_same, ?_, ?_, ?_⟩⟩⟩
  · rw [upd_ne hne, upd_same]
  · rw [upd_ne hne] at hdx; exact hdx
  · have hdx1 : H1 dx = none := by rw [upd_ne hne] at hdx; exact hdx
    refine k σ F1 _ dx ((gd.grow w).up fun b o hb => ?_) upd_same
    have hba : b ≠ a := fun z => by rw [z, ha] at hb; cases hb
    have hbd : b ≠ dx := fun z => by rw [z, hdx1] at hb; cases hb
    rw [upd_ne hbd, del_ne hba, upd_ne hba, upd_ne hbd, upd_ne hba]
    exact hb
end
/-! ### the suite: error.line -/
theorem pe_xfK {X : Cx} {K : PySem.W.Frag} {a C : Addr} {oe : Obj} {cls : Value} {d : Option Addr} {pn : List (Addr × Obj)} {e : Expr} {te : TE} {pos : Pos} {n : Str} (hK : X.K = K) (T : XfC K C) (hno : PySem.W.findIn K (.ref C) n = some none)
    (hz : Zc cls d oe) (hf : ∃ vs, oe.data = .fields vs) (he : PE (X.suite a ((a, oe) :: pn)) e te) (hb : attributeBase e n X.env (eval e X.env) = eval e X.env := by rfl) : PE (X.suite a ((a, oe) :: pn)) (.Attribute e n pos) (tXf a cls d C n te) := by
  subst hK; exact pe_xf T hno hz hf he hb
section
variable {C : Ct} {e : En} {D : Ends} {σ : Stt} {F H : Hp} {i : Nat} {A B : Addr} {W : WX} {dd : Addr} {f : Str} {n : Int}
/-- except X as e: return e.f -/
theorem exc_fld (gd : Good C e σ F H) (hd : H dd = some (.xd [(f, .int n)])) (hi : i < e.s.length) (hx : PySem.W.exmOne C.K (.ref A) (.ref A) = some true) (hR : RetE C e D (.int n)) :
    WE (wAs C.K (.ref A) i (fun a cls d => tRet (tXf a cls d A f (tVar i))) W D) σ (.ref A) (some dd) H := by
  refine ⟨true, hx, fun _ a ha => ?_, fun h => by cases h⟩
  obtain ⟨as, hs, p⟩ := gd.parts
  have hl : i < σ.length := Nat.lt_of_lt_of_le hi p.len
  refine ⟨.ref a, by rw [List.getElem?_set_self hl], rfl, rfl, dd, [(f, .int n)], .int n, rfl, hd, by simp [List.lookup], ?_⟩
  exact hR σ (.int n) F H gd (.int _)
/-- except X as e: return isinstance(e, Y) and e.f == m -/
theorem exc_isFld {m : Int} {b : Bool} (gd : Good C e σ F H) (hd : H dd = some (.xd [(f, .int n)])) (hi : i < e.s.length) (hx : PySem.W.exmOne C.K (.ref A) (.ref A) = some true) (hk : PySem.W.kitOne C.K (.ref A) (.ref B) = some true) (hb : decide (n = m) = b) (hR : RetE C e D (.bool b)) :
    WE (wAs C.K (.ref A) i (fun a cls d => tRet (tAndV (tCB (rIsXd C.K A a cls d) (tCons (tVar i) (tCons (tC (.ref B)) tNil))) (tOp (rEqA C.K) (tXf a cls d A f (tVar i)) (tC (.int m))))) W D) σ (.ref A) (some dd) H := by
  refine ⟨true, hx, fun _ a ha => ?_, fun h => by cases h⟩
  obtain ⟨as, hs, p⟩ := gd.parts
  have hl : i < σ.length := Nat.lt_of_lt_of_le hi p.len
  have hg : (σ.set i (some (.ref a)))[i]? = some (some (.ref a)) := by rw [List.getElem?_set_self hl]
  refine ⟨.ref a, hg, rfl, ⟨dd, _, rfl, hd⟩, .ref B, .ref B, true, rfl, fun u h => h, hk, true, rfl, ?_⟩
  rw [if_pos rfl]
  refine ⟨.ref a, hg, rfl, rfl, dd, [(f, .int n)], .int n, rfl, hd, by simp [List.lookup], ?_⟩
  rw [← hb] at hR
  exact r2_eqI F H (.int n) (.int m) gd.fh (.int n) (.int m) _ fun v F2 H2 w r => hR σ v F2 H2 (gd.grow w) r
end
/-! ### what is asked of the frozen part -/
def fnWS (K : PySem.W.Frag) (f : Addr) : Option (Str × Str × Arguments × FuncBody × Scope × Addr × Addr) := match K.lookup f with
  | some ⟨_, _, .func fd, _⟩ => some (fd.name, fd.qualname, fd.params, fd.body, fd.scope, fd.globals, fd.builtins)
  | _ => none
def fnVS (d : He.DefD) : Option (Str × Str × Arguments × FuncBody × Scope × Addr × Addr) := some (d.name, d.qual, d.params, .stmts d.body, d.scope, mainGlobals, builtinsNs)
def cloS (K : PySem.W.Frag) (f : Addr) : List (Str × Addr) := match K.lookup f with
  | some ⟨_, _, .func fd, _⟩ => fd.closure
  | _ => []
def codS (K : PySem.W.Frag) (f : Addr) : Addr := match K.lookup f with
  | some ⟨_, _, .func fd, _⟩ => (match fd.code with
    | .ref c => c
    | _ => 0)
  | _ => 0
/-- no defaults, no annotations, a code object -/
def barS (K : PySem.W.Frag) (f : Addr) : Bool := match K.lookup f with
  | some ⟨_, _, .func fd, _⟩ => (match fd.defaults, fd.kwdefaults, fd.annotations, fd.code with
    | .none, .none, none, .ref _ => true
    | _, _, _, _ => false)
  | _ => false
def nfS (K : PySem.W.Frag) (f : Addr) (d : He.DefD) : NF := ⟨d.name, d.qual, d.params, d.body, d.scope, cloS K f, codS K f⟩
theorem fnS_ok {K : PySem.W.Frag} {f : Addr} {d : He.DefD} (h : fnWS K f = fnVS d) (b : barS K f = true) : ∃ (oc : Value) (od : Option Addr) (osl : Array (Option Value)) (doc pm ctv : Value), K.lookup f = some ⟨oc, od, .func ((nfS K f d).fd doc pm ctv), osl⟩ := by
  unfold fnWS fnVS at h
  unfold barS at b
  unfold nfS cloS codS
  cases q : K.lookup f with
  | none => rw [q] at h; cases h
  | some o =>
    obtain ⟨oc, od, da, osl⟩ := o
    rw [q] at h b
    cases da with
    | func fd =>
      obtain ⟨name, qualname, params, body, scope, globals, closure, defaults, kwdefaults, doc, pm, an, code, ct, bl⟩ := fd
      dsimp only at h b ⊢
      split at b
      · simp only [Option.some.injEq, Prod.mk.injEq] at h
        obtain ⟨h1, h2, h3, h4, h5, h6, h7⟩ := h
        subst h1 h2 h3 h4 h5 h6 h7
        rename_i c
        exact ⟨oc, od, osl, doc, pm, ct, rfl⟩
      · cases b
    | _ => cases h
def fileS (P : Program) (K : PySem.W.Frag) (c : Addr) : Bool := match K.lookup c with
  | some ⟨_, _, .fields vs, _⟩ => (match (show Option Value from vs[2]?) with
    | some (.str file _) => (P.main.file : Str) == file
    | _ => false)
  | _ => false
def cellS (K : PySem.W.Frag) (C : Addr) (cl : List (Str × Addr)) : Bool := match cl with
  | [(x, cc)] => decide (x = "__class__") && (match K.lookup cc with
    | some ⟨_, _, .cell (some (.ref D)), _⟩ => decide (D = C)
    | _ => false)
  | _ => false
def oexS (K : PySem.W.Frag) (C : Addr) : Bool := (match K.lookup C with
  | some ⟨cl, _, .cls cd, sl⟩ => decide (cl = .type "type") && ((match cd.mro with
    | .ref C' :: bm => decide (C' = C) && PySem.HandSPX.refsVE bm
    | _ => false) && (cd.hasDict && (!cd.hasDel && (match sl.toList with
    | [_, _, _, _, some (.builtin n), _] => decide (n = "ValueError.__new__")
    | _ => false))))
  | _ => false) && (He.eqO (PySem.W.findIn K (.ref C) "__setattr__") (some (some (.builtin "object.__setattr__"))) && (decide (PySem.W.subIn K (.ref C) (.type "BaseException") = some true) && (decide (PySem.W.typeIn K (.ref C) = some (.type "type")) && PySem.W.keepIn K (.ref C))))
theorem oexS_ok {K : PySem.W.Frag} {C : Addr} (h : oexS K C = true) : OexC K C := by
  unfold oexS at h
  simp only [Bool.and_eq_true, decide_eq_true_eq] at h
  obtain ⟨h0, h1, h2, h3, h4⟩ := h
  refine ⟨?_, He.eqO_ok h1, h2, h3, h4⟩
  split at h0
  · rename_i cl dd cd sl q
    simp only [Bool.and_eq_true, decide_eq_true_eq, Bool.not_eq_true'] at h0
    obtain ⟨rfl, h5, h6, h7, h8⟩ := h0
    obtain ⟨nm, bs, mro, N, qn, hd, sn, sb, ab, col, del⟩ := cd
    dsimp only at h5 h6 h7
    subst h6 h7
    split at h5
    · rename_i C' bm
      simp only [Bool.and_eq_true, decide_eq_true_eq] at h5
      obtain ⟨rfl, h5⟩ := h5
      split at h8
      · rename_i k0 k1 k2 k3 n k5 hs
        have hn := of_decide_eq_true h8
        subst hn
        have hs' : sl = #[k0, k1, k2, k3, some (.builtin "ValueError.__new__"), k5] := by rw [← Array.toArray_toList (xs := sl), hs]
        subst hs'
        exact ⟨nm, qn, N, bs, bm, sn, sb, ab, col, dd, k0, k1, k2, k3, k5, q, h5⟩
      · cases h8
    · cases h5
  · cases h0
/-- all of it, for the class named x with an __init__ of its own that asks super() -/
def supS (P : Program) (K : PySem.W.Frag) (x : Str) (d : He.DefD) : Bool :=
  let C := He.ga K x
  let f := He.ma K C "__init__"
  barS K f && (PySem.W.codeIn K (.ref (codS K f)) d.qual && (PySem.W.keepIn K (.ref f) && (fileS P K (codS K f) && (!(P.main.scope.names.lookup ("super" : Str)).isSome && (cellS K C (cloS K f) && ((PySem.W.clsIn K C).isSome && (decide (PySem.W.mroIn K C (.ref C) = some true) &&
  (He.eqO (PySem.W.ks_superIn K C C "__init__") (some (some (.builtin "ValueError.__init__"))) && (decide (PySem.W.subIn K (.ref C) (.type "ValueError") = some true) && (He.eqO (PySem.W.nsIn K cStatics "thirdparty.any") (some none) && (oexS K C &&
  (He.eqO (PySem.W.findIn K (.ref C) "__init__") (some (some (.ref f))) && decide (PySem.W.typeIn K (.ref f) = some (.type "function"))))))))))))))
theorem supS_ok {P : Program} {K : PySem.W.Frag} {x : Str} {d : He.DefD} (h : supS P K x d = true) (hf : fnWS K (He.ma K (He.ga K x) "__init__") = fnVS d) :
    SupC P K (He.ga K x) (He.ma K (He.ga K x) "__init__") (nfS K (He.ma K (He.ga K x) "__init__") d) ∧ PySem.W.findIn K (.ref (He.ga K x)) "__init__" = some (some (.ref (He.ma K (He.ga K x) "__init__"))) ∧ PySem.W.typeIn K (.ref (He.ma K (He.ga K x) "__init__")) = some (.type "function") := by
  unfold supS at h
  simp only [Bool.and_eq_true, decide_eq_true_eq, Bool.not_eq_true'] at h
  obtain ⟨h1, h2, h3, h4, h5, h6, h7, h8, h9, h10, h11, h12, h13, h14⟩ := h
  refine ⟨⟨fnS_ok hf h1, h2, h3, ?_, h5, ?_, Option.isSome_iff_exists.mp h7, h8, He.eqO_ok h9, h10, He.eqO_ok h11, oexS_ok h12⟩, He.eqO_ok h13, h14⟩
  · unfold fileS at h4
    split at h4
    · rename_i oc od vs osl q
      split at h4
      · rename_i file tf q2
        exact ⟨oc, od, vs, osl, file, tf, q, q2, h4⟩
      · cases h4
    · cases h4
  · unfold cellS at h6
    split at h6
    · rename_i y cc q
      simp only [Bool.and_eq_true, decide_eq_true_eq] at h6
      obtain ⟨rfl, h6⟩ := h6
      split at h6
      · rename_i oc od D osl q2
        have := of_decide_eq_true h6
        subst this
        exact ⟨cc, oc, od, osl, q, q2⟩
      · cases h6
    · cases h6
end LH

set_option maxHeartbeats 1000000
namespace LH
open PySem L2 PySem.Spec PyProof.Rows NdefX
theorem line_run {pre suf : Str} {σ : Stt} {H : Hp} {n : Int} {Q : List V → Hp → Prop} (h1 : σ[1]? = some (some (.int n))) (hn : n.natAbs.log2 < 1920) (hp : pre.length ≤ 1000) (hs : suf.length ≤ 1000) (hd : (Str.ofString (toString n)).length ≤ 1000)
    (q : ∀ z : Str, Q [.str z] H) : tCons (tJo [tC (.str pre), tFmt (tVar 1), tC (.str suf)]) tNil σ H Q := by
  have e0 : Str.empty.length = 0 := rfl
  refine ⟨pre, rfl, ?_, .int n, h1, .inr ⟨n, rfl, hn, Str.ofString (toString n), rfl, ?_, suf, rfl, ?_, q _⟩⟩
  · rw [sizeLine_eq]; show (Str.empty ++ pre).length ≤ _; rw [str_len_app]; omega
  · rw [sizeLine_eq]; show (Str.empty ++ pre ++ _).length ≤ _; rw [str_len_app, str_len_app]; omega
  · rw [sizeLine_eq]; show (Str.empty ++ pre ++ _ ++ suf).length ≤ _; rw [str_len_app, str_len_app, str_len_app]; omega
theorem digits_len {n : Int} (h0 : 0 ≤ n) (h1 : n ≤ 1000000000) : (Str.ofString (toString n)).length ≤ 1000 := Nat.le_trans (num_len h0 h1) (by decide)
/-- the promise of an __init__ with one number -/
def spNum (C : Addr) (f : Str) : Sp := fun vs H Q E => spLine C f vs H Q E ∧ ∃ (a : Addr) (n : Int), vs = [.ref a, .int n] ∧ 0 ≤ n ∧ n ≤ 1000000000
theorem ost_run {K : PySem.W.Frag} {C a : Addr} {f : Str} {σ : Stt} {H : Hp} {n : Int} {D : Ends} (h0 : σ[0]? = some (some (.ref a))) (h1 : σ[1]? = some (some (.int n))) (T : OexC K C) (hno : PySem.W.findIn K (.ref C) f = some none) (ha : H a = some (exo a C none))
    (q : ∀ dx, H dx = none → dx ≠ a → D.nx σ (upd (upd H dx (exd dx [(f, .int n)])) a (exo a C (some dx)))) : tOst K f (tVar 0) (tVar 1) D σ H :=
  ⟨.int n, h1, .ref a, h0, a, C, rfl, T, hno, .inl ⟨ha, q⟩⟩
section
variable {C : Ct} {e : En} {te : TE}
theorem r_raiseN {A : Addr} {f : Str} {n : Int} {E : XK} (h : EvE C te e (.int n)) (h0 : 0 ≤ n) (h1 : n ≤ 1000000000) (k : ∀ σ F2 H2 dd, Good C e σ F2 H2 → H2 dd = some (.xd [(f, .int n)]) → E (.ref A) (some dd) H2) :
    Run C e (fun σ H => tMkO A (spNum A f) [] (tCons te tNil) σ H fun cls d H' => E cls d H') := fun σ F H gd => by
  have hn : n.natAbs.log2 < 1920 := num_log h0 h1
  refine h σ F H gd _ fun v F1 H1 w r => ?_
  cases r
  refine ⟨by simp, fun a ha => ⟨⟨a, n, rfl, hn, upd_same, fun dx hdx hne => ⟨rfl, dx, [(f, .int n)], upd_same, ?_, ?_, ?_⟩⟩, a, n, rfl, h0, h1⟩⟩
  · rw [upd_ne hne, upd_same]
  · rw [upd_ne hne] at hdx; exact hdx
  · have hdx1 : H1 dx = none := by rw [upd_ne hne] at hdx; exact hdx
    refine k σ F1 _ dx ((gd.grow w).up fun b o hb => ?_) upd_same
    have hba : b ≠ a := fun z => by rw [z, ha] at hb; cases hb
    have hbd : b ≠ dx := fun z => by rw [z, hdx1] at hb; cases hb
    rw [upd_ne hbd, del_ne hba, upd_ne hba, upd_ne hbd, upd_ne hba]
    exact hb
end
end LH

set_option maxHeartbeats 400000
namespace LH
open PySem L2 PySem.Spec PyProof.Rows
theorem dps_set {K : PySem.W.Frag} {F : Hp} : ∀ {vs : List V} {ds : List PyData}, DpAll K F vs ds → ∀ (n : Nat) {v : V} {d : PyData}, Dp K F v d → DpAll K F (vs.set n v) (ds.set n d)
  | [], [], _, _, _, _, _ => .nil
  | _ :: _, _ :: _, .cons _ r, 0, _, _, h => .cons h r
  | _ :: _, _ :: _, .cons h r, n + 1, _, _, x => .cons h (dps_set r n x)
section
variable {C : Ct} {e : En} {te ti ta : TE} {D : Ends} {ds : List PyData} {d : PyData}
theorem EvN.is {ds' : List PyData} (h : EvN C te e ds) (q : ds = ds') : EvN C te e ds' := q ▸ h
/-- y = [.. for ..], a list of one's own -/
theorem r_newN {i : Nat} (h : EvN C te e ds) (k : Run C ⟨e.s.set i (.o e.o.length), e.o ++ [Ow.lst C.K ds], e.g⟩ D.nx) : Run C e (tAsg te (gName i) D) := fun σ F H gd => h σ F H gd _ fun acc F2 Hm p e1 gm hp r => by
  have ne : ∀ {b : Addr} {o : HO}, sing p (.lst acc) b = some o → b = p ∧ o = .lst acc := fun hb => sing_at hb
  have g1 := gm.newO (o := Ow.lst C.K ds) (a := p) (h0 := sing p (.lst acc)) (H' := upd Hm p (.lst acc)) ⟨acc, rfl, r⟩ (fun b u hb => by rw [(ne hb).1]; exact hp) (Evl.Ex.new hp) (fun b u hb => by obtain ⟨rfl, rfl⟩ := ne hb; exact upd_same)
  have g2 := g1.setO (i := i) (j := e.o.length) (v := .ref p) List.mem_cons_self
  exact k _ F2 _ (g2.le (LeS.refl _) fun q hq => List.mem_cons_of_mem _ hq)
/-- xs[k] = d, xs a list of one's own -/
theorem r_setL {i j k : Nat} {z : Int} (hi : e.s[i]? = some (.o j)) (hj : e.o[j]? = some (Ow.lst C.K ds)) (h : EvE C te e d) (h2 : EvE C ti e (.int z)) (hz : ixN ds.length z = some k) (kk : Run C ⟨e.s, e.o.set j (Ow.lst C.K (ds.set k d)), e.g⟩ D.nx) :
    Run C e (tAsg te (gSub (tVar i) ti rSetL) D) := fun σ F H gd => h σ F H gd _ fun v F1 H1 w1 r1 => by
  have g1 := gd.grow w1
  obtain ⟨a0, xs0, e0, _, _⟩ := own_at hi hj g1
  refine ⟨.ref a0, e0, h2 σ F1 H1 g1 _ fun u F2 H2 w2 r2 => ?_⟩
  cases r2
  have g2 := g1.grow w2
  obtain ⟨as, hs, pa⟩ := g2.parts
  have hi' : i < σ.length := Nat.lt_of_lt_of_le (List.getElem?_eq_some_iff.mp hi).1 pa.len
  obtain ⟨a, ea, eas⟩ := pa.slot i _ _ hi (List.getElem?_eq_getElem hi')
  have hjl : j < hs.length := by rw [pa.lh]; exact (List.getElem?_eq_some_iff.mp hj).1
  have hjh := List.getElem?_eq_getElem hjl
  obtain ⟨xs, hx, rx⟩ := pa.obj j a _ _ eas hjh hj
  have haa : a0 = a := by rw [List.getElem?_eq_getElem hi', ea] at e0; cases e0; rfl
  have hH : H2 a = some (.lst xs) := pa.sub j _ hjh a _ (by rw [hx]; exact sing_same)
  refine ⟨a0, xs, z, k, rfl, rfl, by rw [haa]; exact hH, by rw [dps_len rx]; exact hz, ?_⟩
  rw [haa]
  refine kk σ F2 _ (g2.write (o' := Ow.lst C.K (ds.set k d)) as hs pa _ hjh (by rw [hx, sing_same]; rfl) fun b hb => ?_)
  rw [eas] at hb
  cases hb
  exact ⟨xs.set k v, by rw [hx]; unfold sing; rw [upd_upd], dps_set rx k (dp_mono w2.f _ _ r1)⟩
/-- s.join(xs), xs a list of one's own -/
theorem ee_joinO {a : Str} {ws : List Str} {i j : Nat} (hi : e.s[i]? = some (.o j)) (hj : e.o[j]? = some (Ow.lst C.K (ws.map .str))) (h : EvE C te e (.str a)) (hz : (ws.map (·.length)).sum + ws.length * a.length ≤ 16777216) : EvE C (tM1 (rJoin C.K) te (tVar i)) e (.str (Str.join a ws)) := fun σ F H g Q q =>
  h σ F H g _ fun v F1 H1 w1 d1 => by
    cases d1
    obtain ⟨p, xs, e1, hH, rx⟩ := own_at hi hj (g.grow w1)
    refine ⟨⟨a, rfl⟩, .ref p, e1, ?_⟩
    rw [dps_strs' rx] at hH
    refine ⟨a, p, ws, rfl, rfl, .inl (Evl.sq_of hH), hz, ?_⟩
    rw [show Txt.join a ws = Str.join a ws from StrLaws.glued_eq_join a ws]
    exact q _ F1 H1 w1 (.str _)
end
end LH

set_option maxHeartbeats 400000
/-! lines that are none -/
namespace LH
open PySem L2 TL PySem.Spec PyProof.Rows
def noHeadB (w0 : Str) : Bool := !decide (w0 = Str.ofString "split") && !decide (w0 = Str.ofString "join") && (LL.find? (fun r => r.1 == w0)).isNone
theorem bad_headN {w0 : Str} {wt : List Str} (h : noHeadB w0 = true) : isNone (lineW (w0 :: wt)) = true := by
  unfold noHeadB at h
  simp only [Bool.and_eq_true, Bool.not_eq_true', decide_eq_false_iff_not, Option.isNone_iff_eq_none] at h
  obtain ⟨⟨h1, h2⟩, h3⟩ := h
  unfold lineW kindsN
  rw [show (w0 :: wt).headD (Str.ofString "") = w0 from rfl, if_neg h1, if_neg h2, h3]
  rfl
theorem kinds_ne {w0 : Str} {n : Nat} : kindsN w0 n ≠ some [] := by
  unfold kindsN
  split
  · simp
  · split
    · intro h
      have := congrArg (Option.map List.length) h
      simp at this
    · intro h
      cases q : LL.find? (fun r => r.1 == w0) with
      | none => rw [q] at h; cases h
      | some r =>
        rw [q] at h
        have hr : r.2 = [] := Option.some.inj h
        have : ∀ r ∈ LL, r.2 ≠ [] := by decide +kernel
        exact this r (List.mem_of_find?_eq_some q) hr
theorem bad_one (w0 : Str) : isNone (lineW [w0]) = true := by
  unfold lineW
  cases q : kindsN ([w0].headD (Str.ofString "")) [w0].length with
  | none => rfl
  | some ks =>
    show isNone (rowsD ks [w0]) = true
    unfold rowsD
    rw [if_neg]
    · rfl
    · rintro ⟨h, _⟩
      have : ks = [] := List.length_eq_zero_iff.mp (by simpa using h.symm)
      subst this
      exact kinds_ne q
theorem word_emp (k : Str) : wordD k (Str.ofString "") = .none := by
  unfold wordD
  split
  · rw [if_neg (by decide +kernel)]
  · split
    · rw [if_neg (by decide +kernel)]
    · rw [if_neg (by decide +kernel)]
/-- a word that is of no kind, in any place behind the first -/
theorem bad_wordN {w0 : Str} {wt : List Str} {i : Nat} {x : Str} (hx : wt[i]? = some x) (h : ∀ ks k, kindsN w0 (wt.length + 1) = some ks → ks[i]? = some k → wordD k x = .none) : isNone (lineW (w0 :: wt)) = true := by
  unfold lineW
  rw [show (w0 :: wt).headD (Str.ofString "") = w0 from rfl, show (w0 :: wt).length = wt.length + 1 from rfl]
  cases q : kindsN w0 (wt.length + 1) with
  | none => rfl
  | some ks =>
    show isNone (rowsD ks (w0 :: wt)) = true
    unfold rowsD
    rw [if_neg]
    · rfl
    · rintro ⟨h1, h2⟩
      have hl : ks.length = wt.length := by simpa using h1.symm
      have hi : i < ks.length := by rw [hl]; exact (List.getElem?_eq_some_iff.mp hx).1
      have hr := rowD_at (List.getElem?_eq_getElem hi) hx
      rw [h ks _ q (List.getElem?_eq_getElem hi)] at hr
      have : (rowD ks wt).any isNone = true := List.any_eq_true.mpr ⟨_, List.mem_of_getElem? hr, rfl⟩
      have h2' : (rowD ks wt).any isNone = false := h2
      rw [this] at h2'
      cases h2'
theorem bad_lastN {V : List Str} (h : V ≠ []) : isNone (lineW (V ++ [Str.ofString ""])) = true := by
  cases V with
  | nil => exact absurd rfl h
  | cons w0 wt => exact bad_wordN (w0 := w0) (wt := wt ++ [Str.ofString ""]) (i := wt.length) (x := Str.ofString "") (by rw [List.getElem?_append_right (Nat.le_refl _), Nat.sub_self]; rfl) fun ks k _ _ => word_emp k
/-- a whole line that is none -/
def BadLn (b : Str) : Prop := b.length ≤ 700 ∧ 10 ∉ tl b ∧ isNone (lineW (Txt.split b (sgn 32))) = true
theorem bad_sp {x : Str} (h1 : x.length ≤ 600) (h2 : 10 ∉ tl x) : BadLn (x ++ Str.ofString " ") := by
  refine ⟨by rw [str_len_app, show (Str.ofString " ").length = 1 from rfl]; omega, fun hm => ?_, ?_⟩
  · rw [tl_append] at hm
    rcases List.mem_append.mp hm with z | z
    · exact h2 z
    · exact absurd z (by decide +kernel)
  · rw [show x ++ Str.ofString " " = x ++ sgn 32 ++ Str.ofString "" from ext_tl (by simp only [tl_append, List.append_assoc]; rfl), split_app, show Txt.split (Str.ofString "") (sgn 32) = [Str.ofString ""] from split_join (c := 32) (ws := [Str.ofString ""]) (by simp) (by decide +kernel)]
    exact bad_lastN (split_ne x 32)
section
variable (ns : List Int) (a : Int)
abbrev headA : Str := (shpF (shpI (cellA ns a))).1
theorem wordsA_eq : wordsA ns a = headA ns a :: tailA ns (shpF (shpI (cellA ns a))).2 (a + 1) := rfl
theorem line_head (x : Str) : x ++ lineA ns a = joinW ((x ++ headA ns a) :: tailA ns (shpF (shpI (cellA ns a))).2 (a + 1)) := by
  unfold lineA
  rw [wordsA_eq, join_head]
theorem words_ascii : ∀ w ∈ wordsA ns a, ∀ c ∈ tl w, c < 128 := fun w hw c hc => by
  have ho : ∀ z : Int, ∀ c ∈ tl (officeOf z), c < 128 := fun z c hc => by
    have h := officeOf_ok z
    unfold isOffL at h
    simp only [Bool.and_eq_true, List.all_eq_true] at h
    exact small_lt (h.2.2 c hc)
  have hn : ∀ n : Int, 1 ≤ n → ∀ c ∈ tl (Str.ofString (toString n)), c < 128 := fun n h0 c hc => by
    rw [num_tl (by omega)] at hc
    have := numL_digits _ c hc
    omega
  rcases List.mem_cons.mp hw with z | z
  · rw [z] at hc
    have : ∀ m, m < 19 → ∀ c ∈ tl (shpF m).1, c < 128 := by decide +kernel
    exact this _ (shpI_lt _) c hc
  · obtain ⟨k, _, rfl⟩ := List.mem_map.mp z
    unfold valA at hc
    split at hc
    · exact hn _ (numberOf_in _).1 c hc
    · split at hc
      · exact ho _ c hc
      · have hc' : c ∈ tl (thingS (officeOf (cellA ns (a + 1 + (k : Int)) / 5)) (numberOf (cellA ns (a + 1 + (k : Int)) / 3))) := hc
        unfold thingS at hc'
        rw [tl_append, tl_append] at hc'
        rcases List.mem_append.mp hc' with z | z
        · rcases List.mem_append.mp z with z | z
          · exact ho _ c z
          · have : c = 45 := by simpa using (show c ∈ [45] from z)
            omega
        · exact hn _ (numberOf_in _).1 c z
theorem line_ascii : ∀ c ∈ tl (lineA ns a), c < 128 := fun c hc => by
  rcases join_mem hc with z | ⟨w, hw, z⟩
  · omega
  · exact words_ascii ns a w hw c z
abbrev upW (w : Str) : Str := ⟨((tl w).map up1).toArray⟩
theorem upW_tl (w : Str) : tl (upW w) = (tl w).map up1 := by simp [tl]
theorem join_map {g : Str → Str} {f : Nat → Nat} (hg : ∀ w, tl (g w) = (tl w).map f) (h32 : f 32 = 32) : ∀ ws : List Str, tl (joinW (ws.map g)) = (tl (joinW ws)).map f
  | [] => rfl
  | [x] => hg x
  | x :: y :: r => by
    have ih := join_map hg h32 (y :: r)
    show tl (Str.join (sgn 32) (g x :: g y :: r.map g)) = (tl (Str.join (sgn 32) (x :: y :: r))).map f
    rw [tl_join1, tl_join1, List.map_append, List.map_cons, h32, hg]
    exact congrArg (fun z => (tl x).map f ++ 32 :: z) ih
theorem upper_line : Txt.upper (lineA ns a) = joinW ((wordsA ns a).map upW) := by
  rw [PyProof.Rows.upper_ascii (x := lineA ns a) fun c hc => line_ascii ns a c hc]
  refine ext_tl ?_
  rw [join_map upW_tl (by decide)]
  simp [tl]
  rfl
theorem up_free {c : Nat} {w : Str} (hc : c < 48) (h : c ∉ tl w) (ha : ∀ c ∈ tl w, c < 128) : c ∉ tl (upW w) := fun hm => by
  rw [upW_tl] at hm
  obtain ⟨k, hk, e⟩ := List.mem_map.mp hm
  have : ∀ k, k < 128 → ∀ c, c < 48 → up1 k = c → k = c := by decide +kernel
  exact h (this k (ha k hk) c hc e ▸ hk)
/-- the drawn spoilt line -/
def badA (c : Int) : Str := [Str.ofString "", lineA ns a ++ Str.ofString " ", Str.ofString "x" ++ lineA ns a, headA ns a, Txt.upper (lineA ns a), Str.ofString " " ++ lineA ns a].getD (c % 6).toNat (Str.ofString "")
theorem split_words {ws : List Str} (h : ws ≠ []) (hf : ∀ w ∈ ws, 32 ∉ tl w) : Txt.split (joinW ws) (sgn 32) = ws := split_join h hf
theorem tailA_free : ∀ w ∈ tailA ns (shpF (shpI (cellA ns a))).2 (a + 1), 32 ∉ tl w ∧ 10 ∉ tl w := fun w hw => by
  have := words_free ns a w (List.mem_cons_of_mem _ hw)
  exact ⟨this.1, this.2.1⟩
theorem lit_free {x : Str} (h : (!(tl x).contains 32 && !(tl x).contains 10) = true) : 32 ∉ tl x ∧ 10 ∉ tl x := by
  simp only [Bool.and_eq_true, Bool.not_eq_true'] at h
  exact ⟨fun hm => by rw [List.contains_iff_mem.mpr hm] at h; exact absurd h.1 (by decide), fun hm => by rw [List.contains_iff_mem.mpr hm] at h; exact absurd h.2 (by decide)⟩
theorem pre_bad {x : Str} (hx : (!(tl x).contains 32 && !(tl x).contains 10 && decide (x.length ≤ 10)) = true) (hn : ∀ m, m < 19 → noHeadB (x ++ (shpF m).1) = true) : BadLn (x ++ lineA ns a) := by
  have hx2 := Bool.and_eq_true_iff.mp hx
  have hxl := of_decide_eq_true hx2.2
  have hxf := lit_free hx2.1
  have hl := line_len ns a
  have hs := shpF_ok (cellA ns a)
  refine ⟨by rw [str_len_app]; omega, fun hm => ?_, ?_⟩
  · rw [tl_append] at hm
    rcases List.mem_append.mp hm with z | z
    · exact hxf.2 z
    · exact line_free ns a z
  · rw [line_head, split_words (by simp) (fun w hw => by
      rcases List.mem_cons.mp hw with z | z
      · rw [z, tl_append]
        intro hm
        rcases List.mem_append.mp hm with q | q
        · exact hxf.1 q
        · exact hs.w32 q
      · exact (tailA_free ns a w z).1)]
    exact bad_headN (hn _ (shpI_lt _))
theorem badA_bad (c : Int) : BadLn (badA ns a c) := by
  have hl := line_len ns a
  have hs := shpF_ok (cellA ns a)
  unfold badA
  rcases (by omega : c % 6 = 0 ∨ c % 6 = 1 ∨ c % 6 = 2 ∨ c % 6 = 3 ∨ c % 6 = 4 ∨ c % 6 = 5) with e | e | e | e | e | e <;> rw [e]
  · show BadLn (Str.ofString "")
    refine ⟨by decide, by decide, ?_⟩
    rw [show Txt.split (Str.ofString "") (sgn 32) = [Str.ofString ""] from split_join (c := 32) (ws := [Str.ofString ""]) (by simp) (by decide +kernel)]
    exact bad_one _
  · exact bad_sp (by omega) (line_free ns a)
  · exact pre_bad ns a (by decide +kernel) (by decide +kernel)
  · show BadLn (headA ns a)
    refine ⟨Nat.le_trans hs.wl (by decide), hs.w10, ?_⟩
    rw [show Txt.split (headA ns a) (sgn 32) = [headA ns a] from split_join (c := 32) (ws := [headA ns a]) (by simp) (fun w hw => by rw [List.mem_singleton.mp hw]; exact hs.w32)]
    exact bad_one _
  · show BadLn (Txt.upper (lineA ns a))
    have hfr : ∀ w ∈ (wordsA ns a).map upW, 32 ∉ tl w ∧ 10 ∉ tl w := fun w hw => by
      obtain ⟨v, hv, rfl⟩ := List.mem_map.mp hw
      have h := words_free ns a v hv
      exact ⟨up_free (by decide) h.1 (words_ascii ns a v hv), up_free (by decide) h.2.1 (words_ascii ns a v hv)⟩
    have hlen : (Txt.upper (lineA ns a)).length = (lineA ns a).length := by
      rw [upper_line, len_tl, join_map upW_tl (by decide), List.length_map, ← len_tl]; rfl
    refine ⟨by omega, ?_, ?_⟩
    · rw [upper_line]
      intro hm
      rcases join_mem hm with z | ⟨w, hw, z⟩
      · cases z
      · exact (hfr w hw).2 z
    · rw [upper_line, split_words (by rw [wordsA_eq]; simp) (fun w hw => (hfr w hw).1), wordsA_eq, List.map_cons]
      have : ∀ m, m < 19 → noHeadB (upW (shpF m).1) = true := by decide +kernel
      exact bad_headN (this _ (shpI_lt _))
  · show BadLn (Str.ofString " " ++ lineA ns a)
    refine ⟨by rw [str_len_app, show (Str.ofString " ").length = 1 from rfl]; omega, fun hm => ?_, ?_⟩
    · rw [tl_append] at hm
      rcases List.mem_append.mp hm with z | z
      · exact absurd z (by decide +kernel)
      · exact line_free ns a z
    · rw [show Str.ofString " " ++ lineA ns a = Str.ofString "" ++ sgn 32 ++ lineA ns a from ext_tl (by simp only [tl_append, List.append_assoc]; rfl), split_app, show Txt.split (Str.ofString "") (sgn 32) = [Str.ofString ""] from split_join (c := 32) (ws := [Str.ofString ""]) (by simp) (by decide +kernel)]
      exact bad_headN (by decide +kernel)
theorem badA_len (c : Int) : (badA ns a c).length ≤ 600 := by
  have hl := line_len ns a
  have hs := (shpF_ok (cellA ns a)).wl
  have hlen : (Txt.upper (lineA ns a)).length = (lineA ns a).length := by
    rw [upper_line, len_tl, join_map upW_tl (by decide), List.length_map, ← len_tl]; rfl
  unfold badA
  rcases (by omega : c % 6 = 0 ∨ c % 6 = 1 ∨ c % 6 = 2 ∨ c % 6 = 3 ∨ c % 6 = 4 ∨ c % 6 = 5) with e | e | e | e | e | e <;> rw [e]
  · exact Nat.zero_le _
  · show (lineA ns a ++ Str.ofString " ").length ≤ 600
    rw [str_len_app, show (Str.ofString " ").length = 1 from rfl]; omega
  · show (Str.ofString "x" ++ lineA ns a).length ≤ 600
    rw [str_len_app, show (Str.ofString "x").length = 1 from rfl]; omega
  · exact Nat.le_trans hs (by decide)
  · show (Txt.upper (lineA ns a)).length ≤ 600
    omega
  · show (Str.ofString " " ++ lineA ns a).length ≤ 600
    rw [str_len_app, show (Str.ofString " ").length = 1 from rfl]; omega
end
end LH

set_option maxHeartbeats 400000
/-! a line spoilt in many ways -/
namespace LH
open PySem L2 TL PySem.Spec PyProof.Rows
abbrev badLine (l : Str) : Bool := isNone (lineW (Txt.split l (sgn 32)))
def BadS (s : Str) : Prop := s.length ≤ 800 ∧ badLine s = true
theorem num_nl' {l : List Nat} (h : 10 ∈ l) : isNumL l = false := by
  unfold isNumL
  have : l.all isDig = false := List.all_eq_false.mpr ⟨10, h, by decide⟩
  rw [this]; simp
theorem par_sound : ∀ {l acc a b : List Nat}, par [45] acc l = some (a, b) → acc ++ l = a ++ 45 :: b
  | [], acc, a, b, h => by simp [par] at h
  | c :: r, acc, a, b, h => by
    by_cases hc : c = 45
    · subst hc
      rw [par_hit (by simp [pre])] at h
      cases h
      rfl
    · rw [par_miss (by simp [pre, hc])] at h
      have := par_sound h
      rw [← this]; simp
theorem word_nl {k x : Str} : wordD k (x ++ Str.ofString "\n") = .none := by
  have hm : 10 ∈ tl (x ++ Str.ofString "\n") := by rw [tl_append]; exact List.mem_append_right _ (by decide +kernel)
  unfold wordD
  split
  · rw [if_neg (by rw [num_nl' hm]; decide)]
  · split
    · rw [if_neg]
      intro h
      unfold isThingL at h
      rw [tl_append, show tl (Str.ofString "\n") = [10] from rfl] at h
      cases q : par [45] [] (tl x ++ [10]) with
      | none => rw [q] at h; cases h
      | some ab =>
        obtain ⟨a, b⟩ := ab
        rw [q] at h
        have e := par_sound q
        have hb : 10 ∈ b := by
          have e' : tl x ++ [10] = a ++ 45 :: b := e
          have hl := congrArg List.getLast? e'
          rw [List.getLast?_append] at hl
          cases b with
          | nil =>
            rw [List.getLast?_append] at hl
            simp at hl
          | cons y b =>
            rw [List.getLast?_append, List.getLast?_cons_cons] at hl
            have hl2 : (y :: b).getLast? = some 10 := by
              cases z : (y :: b).getLast? with
              | none => simp at z
              | some v => rw [z] at hl; simp at hl; rw [hl]
            exact List.mem_of_getLast? hl2
        simp [num_nl' hb] at h
    · rw [if_neg]
      intro h
      unfold isOffL at h
      simp only [Bool.and_eq_true, List.all_eq_true] at h
      exact absurd (h.2.2 10 hm) (by decide)
def badW10 (c : Nat) (w : Str) : List Str :=
  if c = 110 then ["0", "1000000001", "-1", Str.ofString "0" ++ w, Str.ofString "+" ++ w, "", "x", "1.0", w ++ Str.ofString " "]
  else if c = 111 then ["", "abcdefghijklm", "Ab", "a1", "a-1", w ++ Str.ofString "-", "a_b", "7"]
  else ["", "ash", "-1", "ash-", "ash-0", "ash-01", "ash-1000000001", "Ash-1", "ash-1-2", "abcdefghijklm-1", "ash_1", "7"]
theorem kind_n : kindOf 110 = Str.ofString "number" := by decide +kernel
theorem kind_o : kindOf 111 = Str.ofString "office" := by decide +kernel
theorem badW10_ok {c : Nat} {w : Str} (h32 : 32 ∉ tl w) (hl : w.length ≤ 23) : ∀ v ∈ badW10 c w, v.length ≤ 30 ∧ ((32 ∉ tl v ∧ wordD (kindOf c) v = .none) ∨ v = w ++ Str.ofString " ") := by
  have lit : ∀ {k v : Str}, (!(tl v).contains 32 && decide (v.length ≤ 30) && isNone (wordD k v)) = true → v.length ≤ 30 ∧ ((32 ∉ tl v ∧ wordD k v = .none) ∨ v = w ++ Str.ofString " ") := fun {k v} h => by
    simp only [Bool.and_eq_true, Bool.not_eq_true', decide_eq_true_eq] at h
    exact ⟨h.1.2, .inl ⟨fun hm => by rw [List.contains_iff_mem.mpr hm] at h; exact absurd h.1.1 (by decide), wordN h.2⟩⟩
  have pre : ∀ {x : Str}, x.length = 1 → 32 ∉ tl x → (x ++ w).length ≤ 30 ∧ 32 ∉ tl (x ++ w) := fun {x} h1 h2 => ⟨by rw [str_len_app]; omega, fun hm => by
    rw [tl_append] at hm
    rcases List.mem_append.mp hm with z | z
    · exact h2 z
    · exact h32 z⟩
  intro v hv
  unfold badW10 at hv
  split at hv
  · rename_i e
    subst e
    rw [kind_n]
    simp only [List.mem_cons, List.not_mem_nil, or_false] at hv
    rcases hv with z | z | z | z | z | z | z | z | z <;> subst z
    · exact lit (by decide +kernel)
    · exact lit (by decide +kernel)
    · exact lit (by decide +kernel)
    · have p := pre (x := Str.ofString "0") rfl (by decide)
      refine ⟨p.1, .inl ⟨p.2, ?_⟩⟩
      unfold wordD
      rw [if_pos rfl, if_neg]
      rw [tl_append, show tl (Str.ofString "0") = [48] from rfl]
      unfold isNumL
      simp
    · have p := pre (x := Str.ofString "+") rfl (by decide)
      refine ⟨p.1, .inl ⟨p.2, ?_⟩⟩
      unfold wordD
      rw [if_pos rfl, if_neg]
      rw [tl_append, show tl (Str.ofString "+") = [43] from rfl]
      unfold isNumL
      simp [isDig]
    · exact lit (by decide +kernel)
    · exact lit (by decide +kernel)
    · exact lit (by decide +kernel)
    · exact ⟨by rw [str_len_app, show (Str.ofString " ").length = 1 from rfl]; omega, .inr rfl⟩
  · split at hv
    · rename_i e
      subst e
      rw [kind_o]
      simp only [List.mem_cons, List.not_mem_nil, or_false] at hv
      rcases hv with z | z | z | z | z | z | z | z <;> subst z
      · exact lit (by decide +kernel)
      · exact lit (by decide +kernel)
      · exact lit (by decide +kernel)
      · exact lit (by decide +kernel)
      · exact lit (by decide +kernel)
      · refine ⟨by rw [str_len_app, show (Str.ofString "-").length = 1 from rfl]; omega, .inl ⟨fun hm => ?_, ?_⟩⟩
        · rw [tl_append] at hm
          rcases List.mem_append.mp hm with z | z
          · exact h32 z
          · exact absurd z (by decide +kernel)
        · unfold wordD
          rw [if_neg (by decide +kernel), if_neg (by decide +kernel), if_neg]
          rw [tl_append, show tl (Str.ofString "-") = [45] from rfl]
          unfold isOffL
          simp [isSmall]
      · exact lit (by decide +kernel)
      · exact lit (by decide +kernel)
    · rename_i e1 e2
      have ek : kindOf c = Str.ofString "thing" := by unfold kindOf; rw [if_neg e1, if_neg e2]
      rw [ek]
      have : ∀ v ∈ (["", "ash", "-1", "ash-", "ash-0", "ash-01", "ash-1000000001", "Ash-1", "ash-1-2", "abcdefghijklm-1", "ash_1", "7"] : List Str), (!(tl v).contains 32 && decide (v.length ≤ 30) && isNone (wordD (Str.ofString "thing") v)) = true := by decide +kernel
      exact lit (this v hv)
theorem badW10_cnt (c : Nat) (w : Str) : (badW10 c w).length ≤ 12 := by
  unfold badW10
  split
  · exact Nat.le_of_ble_eq_true rfl
  · split <;> exact Nat.le_of_ble_eq_true rfl
theorem badW10_len {c : Nat} {w : Str} (hl : w.length ≤ 40) : ∀ v ∈ badW10 c w, v.length ≤ 141 ∧ (badW10 c w).length ≤ 12 := fun v hv => by
  refine ⟨?_, badW10_cnt c w⟩
  have h1 : ∀ x : Str, x.length = 1 → (x ++ w).length ≤ 141 ∧ (w ++ x).length ≤ 141 := fun x hx => by rw [str_len_app, str_len_app]; omega
  unfold badW10 at hv
  split at hv
  · simp only [List.mem_cons, List.not_mem_nil, or_false] at hv
    rcases hv with z | z | z | z | z | z | z | z | z <;> subst z <;> first | exact Nat.le_of_ble_eq_true rfl | exact (h1 _ rfl).1 | exact (h1 _ rfl).2
  · split at hv
    · simp only [List.mem_cons, List.not_mem_nil, or_false] at hv
      rcases hv with z | z | z | z | z | z | z | z <;> subst z <;> first | exact Nat.le_of_ble_eq_true rfl | exact (h1 _ rfl).1 | exact (h1 _ rfl).2
    · have : ∀ v ∈ (["", "ash", "-1", "ash-", "ash-0", "ash-01", "ash-1000000001", "Ash-1", "ash-1-2", "abcdefghijklm-1", "ash_1", "7"] : List Str), v.length ≤ 141 := by decide +kernel
      exact this v hv
end LH

set_option maxHeartbeats 400000
namespace LH
open PySem L2 TL PySem.Spec PyProof.Rows
def asgB (w0 : Str) (t n : Nat) (x : Str) : Bool := match kindsN w0 n with
  | some ks => (match ks[t]? with
    | some k => isNone (wordD k x)
    | none => true)
  | none => true
theorem asg_bad {w0 : Str} {t n : Nat} {x : Str} (h : asgB w0 t n x = true) : ∀ ks k, kindsN w0 n = some ks → ks[t]? = some k → wordD k x = .none := fun ks k h1 h2 => by
  unfold asgB at h
  rw [h1] at h
  dsimp only at h
  rw [h2] at h
  exact wordN h
theorem shpF_bads : ∀ m, m < 19 → (asgB (shpF m).1 (shpF m).2.length ((shpF m).2.length + 3) "1" && asgB (shpF m).1 (shpF m).2.length ((shpF m).2.length + 2) "1" && noHeadB ((shpF m).1 ++ Str.ofString "s") && !(tl ((shpF m).1 ++ Str.ofString "s")).contains 32) = true := by decide +kernel
def lenB (w0 : Str) (n : Nat) : Bool := match kindsN w0 n with
  | some ks => !decide (ks.length + 1 = n)
  | none => true
theorem lenB_bad {w0 : Str} {wt : List Str} (h : lenB w0 (wt.length + 1) = true) : isNone (lineW (w0 :: wt)) = true := by
  unfold lenB at h
  unfold lineW
  rw [show (w0 :: wt).headD (Str.ofString "") = w0 from rfl, show (w0 :: wt).length = wt.length + 1 from rfl]
  cases q : kindsN w0 (wt.length + 1) with
  | none => rfl
  | some ks =>
    rw [q] at h
    show isNone (rowsD ks (w0 :: wt)) = true
    unfold rowsD
    rw [if_neg]
    · rfl
    · rintro ⟨h1, _⟩
      dsimp only at h
      rw [decide_eq_true (by simpa using h1.symm)] at h
      cases h
theorem shpF_minus : ∀ m, m < 19 → (decide ((shpF m).1 = Str.ofString "join" ∧ 4 ≤ (shpF m).2.length) || lenB (shpF m).1 (shpF m).2.length) = true := by decide +kernel
theorem shpF_join : ∀ m, m < 19 → (shpF m).1 = Str.ofString "join" → 4 ≤ (shpF m).2.length → kindsN (shpF m).1 (shpF m).2.length = some ((tl (shpF m).2).map kindOf).dropLast := by decide +kernel
theorem zip_takeN {α β : Type} : ∀ (n : Nat) (xs : List α) (ys : List β), (xs.take n).zip (ys.take n) = (xs.zip ys).take n
  | 0, _, _ => by simp
  | n + 1, [], _ => by simp
  | n + 1, _ :: _, [] => by simp
  | n + 1, x :: xs, y :: ys => by simp [zip_takeN n xs ys]
section
variable (ns : List Int) (a : Int)
abbrev shA : Str := (shpF (shpI (cellA ns a))).2
abbrev twA : List Str := tailA ns (shA ns a) (a + 1)
theorem shA_ok : ShpOk (headA ns a) (shA ns a) := shpF_ok (cellA ns a)
theorem twA_len : (twA ns a).length = (shA ns a).length := tailA_len _ _ _
theorem wA_len : (wordsA ns a).length = (shA ns a).length + 1 := by rw [wordsA_eq, List.length_cons, tailA_len]
theorem badS_words {w0 : Str} {wt : List Str} (hf : ∀ w ∈ w0 :: wt, 32 ∉ tl w ∧ w.length ≤ 40) (hl : wt.length ≤ 14) (h : isNone (lineW (w0 :: wt)) = true) : BadS (joinW (w0 :: wt)) := by
  refine ⟨?_, ?_⟩
  · have h1 := StrLaws.join_length_le (sgn 32) (w0 :: wt)
    have h2 := sum_len' (ws := w0 :: wt) (k := 40) fun x hx => (hf x hx).2
    rw [show (sgn 32).length = 1 from rfl] at h1
    simp only [List.length_cons] at h1 h2
    show (Str.join (sgn 32) (w0 :: wt)).length ≤ 800
    omega
  · show isNone (lineW (Txt.split (joinW (w0 :: wt)) (sgn 32))) = true
    rw [split_words (by simp) (fun w hw => (hf w hw).1)]
    exact h
theorem wA_free : ∀ w ∈ wordsA ns a, 32 ∉ tl w ∧ w.length ≤ 40 := fun w hw => by
  have h := words_free ns a w hw
  exact ⟨h.1, by omega⟩
theorem twA_free : ∀ w ∈ twA ns a, 32 ∉ tl w ∧ w.length ≤ 40 := fun w hw => wA_free ns a w (List.mem_cons_of_mem _ hw)
theorem line_app (xs : List Str) (h : xs ≠ []) : lineA ns a ++ sgn 32 ++ joinW xs = joinW (headA ns a :: (twA ns a ++ xs)) := by
  show joinW (wordsA ns a) ++ sgn 32 ++ joinW xs = joinW (wordsA ns a ++ xs)
  exact (join_app 32 (ps := wordsA ns a) (qs := xs) (by rw [wordsA_eq]; simp) h).symm
/-- what stands behind the words -/
theorem bad_more {xs : List Str} {x : Str} (hx : xs ≠ []) (hl : xs.length ≤ 2) (hf : ∀ w ∈ xs, 32 ∉ tl w ∧ w.length ≤ 40) (h0 : xs[0]? = some x) (h : asgB (headA ns a) (shA ns a).length ((shA ns a).length + xs.length + 1) x = true) : BadS (lineA ns a ++ sgn 32 ++ joinW xs) := by
  rw [line_app ns a xs hx]
  have hs := shA_ok ns a
  have h11 := hs.s11
  refine badS_words (fun w hw => ?_) (by rw [List.length_append, twA_len]; omega) (bad_wordN (i := (shA ns a).length) (x := x) ?_ ?_)
  · rcases List.mem_cons.mp hw with z | z
    · rw [z]; exact wA_free ns a _ List.mem_cons_self
    · rcases List.mem_append.mp z with z | z
      · exact twA_free ns a w z
      · exact hf w z
  · rw [List.getElem?_append_right (by rw [twA_len]; omega), twA_len, Nat.sub_self]; exact h0
  · rw [List.length_append, twA_len]
    exact asg_bad h
/-- a word of another kind in one place -/
theorem bad_put {p : Nat} {v : Str} (hp : p < (shA ns a).length) (hv : 32 ∉ tl v ∧ v.length ≤ 40) (h : wordD (kindOf ((tl (shA ns a)).getD p 0)) v = .none) : BadS (joinW (headA ns a :: ((twA ns a).take p ++ [v] ++ (twA ns a).drop (p + 1)))) := by
  have hs := shA_ok ns a
  have h11 := hs.s11
  have hlt : ((twA ns a).take p).length = p := by rw [List.length_take, twA_len]; omega
  have hln : ((twA ns a).take p ++ [v] ++ (twA ns a).drop (p + 1)).length = (shA ns a).length := by
    rw [List.length_append, List.length_append, hlt, List.length_drop, twA_len, List.length_singleton]; omega
  refine badS_words (fun w hw => ?_) (by rw [hln]; omega) (bad_wordN (i := p) (x := v) ?_ fun ks k h1 h2 => ?_)
  · rcases List.mem_cons.mp hw with z | z
    · rw [z]; exact wA_free ns a _ List.mem_cons_self
    · rcases List.mem_append.mp z with z | z
      · rcases List.mem_append.mp z with z | z
        · exact twA_free ns a w (List.mem_of_mem_take z)
        · rw [List.mem_singleton.mp z]; exact hv
      · exact twA_free ns a w (List.mem_of_mem_drop z)
  · rw [List.append_assoc, List.getElem?_append_right (by omega), hlt, Nat.sub_self]; rfl
  · rw [hln, hs.kinds] at h1
    cases h1
    rw [List.getElem?_map] at h2
    obtain ⟨c, hc, rfl⟩ := Option.map_eq_some_iff.mp h2
    have : (tl (shA ns a)).getD p 0 = c := by rw [List.getD_eq_getElem?_getD, hc]; rfl
    rw [← this]; exact h
def minA : Str := joinW ((wordsA ns a).take ((wordsA ns a).length - 1))
theorem minA_eq : minA ns a = joinW (headA ns a :: (twA ns a).take ((shA ns a).length - 1)) := by
  have h1 := (shA_ok ns a).s1
  unfold minA
  rw [wA_len, wordsA_eq, Nat.add_sub_cancel]
  obtain ⟨k, hk⟩ : ∃ k, (shA ns a).length = k + 1 := ⟨(shA ns a).length - 1, by omega⟩
  rw [hk]; rfl
theorem min_words : ∀ w ∈ headA ns a :: (twA ns a).take ((shA ns a).length - 1), 32 ∉ tl w ∧ w.length ≤ 40 := fun w hw => by
  rcases List.mem_cons.mp hw with z | z
  · rw [z]; exact wA_free ns a _ List.mem_cons_self
  · exact twA_free ns a w (List.mem_of_mem_take z)
theorem min_split : Txt.split (minA ns a) (sgn 32) = headA ns a :: (twA ns a).take ((shA ns a).length - 1) := by
  rw [minA_eq, split_words (by simp) (fun w hw => (min_words ns a w hw).1)]
theorem min_len : (minA ns a).length ≤ 600 := by
  rw [minA_eq]
  have h1 := StrLaws.join_length_le (sgn 32) (headA ns a :: (twA ns a).take ((shA ns a).length - 1))
  have h2 := sum_len' (ws := headA ns a :: (twA ns a).take ((shA ns a).length - 1)) (k := 40) fun x hx => (min_words ns a x hx).2
  have h3 := (shA_ok ns a).s11
  rw [show (sgn 32).length = 1 from rfl] at h1
  simp only [List.length_cons, List.length_take, twA_len] at h1 h2
  show (Str.join (sgn 32) (headA ns a :: (twA ns a).take ((shA ns a).length - 1))).length ≤ 600
  omega
theorem min_bad (h : ¬ (headA ns a = Str.ofString "join" ∧ 4 ≤ (shA ns a).length)) : BadS (minA ns a) := by
  refine ⟨by have := min_len ns a; omega, ?_⟩
  show isNone (lineW (Txt.split (minA ns a) (sgn 32))) = true
  rw [min_split]
  have h1 := (shA_ok ns a).s1
  refine lenB_bad ?_
  have hm := shpF_minus (shpI (cellA ns a)) (shpI_lt _)
  rw [decide_eq_false h, Bool.false_or] at hm
  rw [List.length_take, twA_len, show min ((shA ns a).length - 1) (shA ns a).length + 1 = (shA ns a).length by omega]
  exact hm
theorem min_good (h : headA ns a = Str.ofString "join") (h4 : 4 ≤ (shA ns a).length) : lineW (Txt.split (minA ns a) (sgn 32)) = .tuple ((rowA ns a).take ((rowA ns a).length - 1)) := by
  rw [min_split]
  have hs := shA_ok ns a
  have hk := shpF_join (shpI (cellA ns a)) (shpI_lt _) h h4
  have hlen : (headA ns a :: (twA ns a).take ((shA ns a).length - 1)).length = (shA ns a).length := by rw [List.length_cons, List.length_take, twA_len]; omega
  unfold lineW
  rw [show (headA ns a :: (twA ns a).take ((shA ns a).length - 1)).headD (Str.ofString "") = headA ns a from rfl, hlen, hk]
  show rowsD ((tl (shA ns a)).map kindOf).dropLast (headA ns a :: (twA ns a).take ((shA ns a).length - 1)) = _
  have hdl : ((tl (shA ns a)).map kindOf).dropLast = ((tl (shA ns a)).map kindOf).take ((shA ns a).length - 1) := by rw [List.dropLast_eq_take, List.length_map, len_tl]
  have hrow : rowD (((tl (shA ns a)).map kindOf).take ((shA ns a).length - 1)) ((twA ns a).take ((shA ns a).length - 1)) = ((List.range (shA ns a).length).map (valA ns (shA ns a) (a + 1))).take ((shA ns a).length - 1) := by
    rw [← row_valsA]
    unfold rowD
    rw [zip_takeN, List.map_take]
  have hr0 : (rowA ns a).take ((rowA ns a).length - 1) = .str (headA ns a) :: ((List.range (shA ns a).length).map (valA ns (shA ns a) (a + 1))).take ((shA ns a).length - 1) := by
    obtain ⟨k, hk⟩ : ∃ k, (shA ns a).length = k + 1 := ⟨(shA ns a).length - 1, by omega⟩
    unfold rowA
    rw [List.length_cons, List.length_map, List.length_range, Nat.add_sub_cancel, hk]; rfl
  rw [hdl, hr0]
  unfold rowsD
  rw [show (headA ns a :: (twA ns a).take ((shA ns a).length - 1)).tail = (twA ns a).take ((shA ns a).length - 1) from rfl, hrow, if_pos]
  · rfl
  · refine ⟨by rw [hlen, List.length_take, List.length_map, ← len_tl]; omega, ?_⟩
    cases q : (((List.range (shA ns a).length).map (valA ns (shA ns a) (a + 1))).take ((shA ns a).length - 1)).any isNone with
    | false => rfl
    | true =>
      obtain ⟨d, hd, e⟩ := List.any_eq_true.mp q
      obtain ⟨k, _, rfl⟩ := List.mem_map.mp (List.mem_of_mem_take hd)
      rw [valA_some] at e
      cases e
/-- the spoilt lines, but for those with one word replaced -/
def baseA : List Str := [lineA ns a ++ Str.ofString " ", Str.ofString " " ++ lineA ns a, lineA ns a ++ Str.ofString " 1 ash", lineA ns a ++ Str.ofString " 1", rep1 (lineA ns a) (Str.ofString " ") (Str.ofString "  "), Str.ofString "x" ++ lineA ns a, headA ns a, lineA ns a ++ Str.ofString "\n", joinW ((headA ns a ++ Str.ofString "s") :: twA ns a), minA ns a]
def putA (p : Nat) (v : Str) : Str := joinW ((wordsA ns a).take (p + 1) ++ [v] ++ (wordsA ns a).drop (p + 2))
theorem putA_eq (p : Nat) (v : Str) : putA ns a p v = joinW (headA ns a :: ((twA ns a).take p ++ [v] ++ (twA ns a).drop (p + 1))) := by
  unfold putA
  rw [wordsA_eq]; rfl
theorem of_badLn {x : Str} (h : BadLn x) : BadS x := ⟨by have := h.1; omega, h.2.2⟩
theorem rep_bad : BadS (rep1 (lineA ns a) (Str.ofString " ") (Str.ofString "  ")) := by
  have hs := shA_ok ns a
  have hmem : 32 ∈ tl (lineA ns a) := by
    have hl := twA_len ns a
    have h1 := hs.s1
    show 32 ∈ tl (joinW (wordsA ns a))
    rw [wordsA_eq]
    cases q : twA ns a with
    | nil => rw [q] at hl; simp at hl; omega
    | cons x r =>
      show 32 ∈ tl (joinW (headA ns a :: twA ns a))
      rw [q, tl_join1]; simp
  obtain ⟨x, y, e1, e2⟩ := rep1_at (z := Str.ofString "  ") hmem
  have e2' : rep1 (lineA ns a) (Str.ofString " ") (Str.ofString "  ") = x ++ Str.ofString "  " ++ y := e2
  have hlen := line_len ns a
  have hl1 : (lineA ns a).length = x.length + 1 + y.length := by rw [e1, str_len_app, str_len_app, show (sgn 32).length = 1 from rfl]
  rw [e2']
  refine ⟨by rw [str_len_app, str_len_app, show (Str.ofString "  ").length = 2 from rfl]; omega, ?_⟩
  show isNone (lineW (Txt.split (x ++ Str.ofString "  " ++ y) (sgn 32))) = true
  rw [show x ++ Str.ofString "  " ++ y = x ++ sgn 32 ++ (Str.ofString "" ++ sgn 32 ++ y) from ext_tl (by simp only [tl_append, List.append_assoc]; rfl), split_app, split_app, show Txt.split (Str.ofString "") (sgn 32) = [Str.ofString ""] from split_join (c := 32) (ws := [Str.ofString ""]) (by simp) (by decide +kernel)]
  have hx := split_ne x 32
  cases q : Txt.split x (sgn 32) with
  | nil => exact absurd q hx
  | cons w0 wt => exact bad_wordN (w0 := w0) (wt := wt ++ ([Str.ofString ""] ++ Txt.split y (sgn 32))) (i := wt.length) (x := Str.ofString "") (by rw [List.getElem?_append_right (Nat.le_refl _), Nat.sub_self]; rfl) fun ks k _ _ => word_emp k
theorem nl_bad : BadS (lineA ns a ++ Str.ofString "\n") := by
  have hs := shA_ok ns a
  have h1 := hs.s1
  have hl := twA_len ns a
  obtain ⟨t, x, ht⟩ : ∃ t x, twA ns a = t ++ [x] := ⟨_, _, (List.dropLast_concat_getLast (l := twA ns a) (fun e => by rw [e] at hl; simp at hl; omega)).symm⟩
  have htl : t.length + 1 = (shA ns a).length := by rw [← hl, ht, List.length_append]; rfl
  have hfr := twA_free ns a
  have e : lineA ns a ++ Str.ofString "\n" = joinW (headA ns a :: (t ++ [x ++ Str.ofString "\n"])) := by
    show joinW (wordsA ns a) ++ _ = _
    rw [wordsA_eq]
    show joinW (headA ns a :: twA ns a) ++ _ = _
    rw [ht]
    exact join_last (Str.ofString "\n") (headA ns a :: t) x
  rw [e]
  have h11 := hs.s11
  have hxf := hfr x (by rw [ht]; simp)
  have hx23 : x.length ≤ 23 := (words_free ns a x (by rw [wordsA_eq]; exact List.mem_cons_of_mem _ (by show x ∈ twA ns a; rw [ht]; simp))).2.2
  refine badS_words (fun w hw => ?_) (by rw [List.length_append, List.length_singleton]; omega) (bad_wordN (i := t.length) (x := x ++ Str.ofString "\n") (by rw [List.getElem?_append_right (Nat.le_refl _), Nat.sub_self]; rfl) fun ks k _ _ => word_nl)
  rcases List.mem_cons.mp hw with z | z
  · rw [z]; exact wA_free ns a _ List.mem_cons_self
  · rcases List.mem_append.mp z with z | z
    · exact hfr w (by rw [ht]; exact List.mem_append_left _ z)
    · rw [List.mem_singleton.mp z]
      refine ⟨fun hm => ?_, by rw [str_len_app, show (Str.ofString "\n").length = 1 from rfl]; omega⟩
      rw [tl_append] at hm
      rcases List.mem_append.mp hm with q | q
      · exact hxf.1 q
      · exact absurd q (by decide +kernel)
theorem base_ok : ∀ z ∈ baseA ns a, BadS z ∨ z = minA ns a := fun z hz => by
  have hs := shA_ok ns a
  have hl := line_len ns a
  have hb := shpF_bads (shpI (cellA ns a)) (shpI_lt _)
  simp only [Bool.and_eq_true, Bool.not_eq_true'] at hb
  obtain ⟨⟨⟨b1, b2⟩, b3⟩, b4⟩ := hb
  unfold baseA at hz
  simp only [List.mem_cons, List.not_mem_nil, or_false] at hz
  rcases hz with e | e | e | e | e | e | e | e | e | e
  · rw [e]; exact .inl (of_badLn (bad_sp (by omega) (line_free ns a)))
  · rw [e]; exact .inl (of_badLn (badA_bad ns a 5))
  · rw [e, show lineA ns a ++ Str.ofString " 1 ash" = lineA ns a ++ sgn 32 ++ joinW ["1", "ash"] from ext_tl (by simp only [tl_append, List.append_assoc]; rfl)]
    exact .inl (bad_more ns a (x := "1") (by simp) (by simp) (by decide +kernel) rfl b1)
  · rw [e, show lineA ns a ++ Str.ofString " 1" = lineA ns a ++ sgn 32 ++ joinW ["1"] from ext_tl (by simp only [tl_append, List.append_assoc]; rfl)]
    exact .inl (bad_more ns a (x := "1") (by simp) (by simp) (by decide +kernel) rfl b2)
  · rw [e]; exact .inl (rep_bad ns a)
  · rw [e]; exact .inl (of_badLn (badA_bad ns a 2))
  · rw [e]; exact .inl (of_badLn (badA_bad ns a 3))
  · rw [e]; exact .inl (nl_bad ns a)
  · rw [e]
    refine .inl (badS_words (fun w hw => ?_) (by rw [twA_len]; have := hs.s11; omega) (bad_headN b3))
    rcases List.mem_cons.mp hw with q | q
    · rw [q]
      refine ⟨fun hm => ?_, by rw [str_len_app, show (Str.ofString "s").length = 1 from rfl]; have := hs.wl; omega⟩
      rw [List.contains_iff_mem.mpr hm] at b4; cases b4
    · exact twA_free ns a w q
  · exact .inr e
theorem put_ok {p : Nat} (hp : p < (shA ns a).length) {w : Str} (hw : (wordsA ns a)[p + 1]? = some w) : ∀ v ∈ badW10 ((tl (shA ns a)).getD p 0) w, BadS (putA ns a p v) := fun v hv => by
  have hs := shA_ok ns a
  have hf := words_free ns a w (List.mem_of_getElem? hw)
  obtain ⟨h1, h2⟩ := badW10_ok hf.1 hf.2.2 v hv
  rcases h2 with ⟨h2, h3⟩ | h2
  · rw [putA_eq]
    exact bad_put ns a hp ⟨h2, by omega⟩ h3
  · -- the word and an empty one behind it
    have hlt : ((twA ns a).take p).length = p := by rw [List.length_take, twA_len]; omega
    have h11 := hs.s11
    have e : putA ns a p v = joinW (headA ns a :: ((twA ns a).take p ++ [w, Str.ofString ""] ++ (twA ns a).drop (p + 1))) := by
      rw [putA_eq, h2]
      have hd : ∀ (R : List Str) (L : List Str), L ≠ [] → joinW (L ++ [w ++ Str.ofString " "] ++ R) = joinW (L ++ [w, Str.ofString ""] ++ R) := fun R L hL => by
        have hw2 : joinW ([w ++ Str.ofString " "] ++ R) = joinW ([w, Str.ofString ""] ++ R) := by
          cases R with
          | nil => exact ext_tl (by show tl (w ++ Str.ofString " ") = tl (Str.join (sgn 32) [w, Str.ofString ""]); rw [tl_join1, tl_append]; rfl)
          | cons y R =>
            refine ext_tl ?_
            show tl (Str.join (sgn 32) ((w ++ Str.ofString " ") :: y :: R)) = tl (Str.join (sgn 32) (w :: Str.ofString "" :: y :: R))
            rw [tl_join1, tl_join1, tl_join1, tl_append, List.append_assoc]; rfl
        show Str.join (sgn 32) _ = Str.join (sgn 32) _
        rw [List.append_assoc, List.append_assoc, join_app 32 hL (by simp), join_app 32 hL (by simp)]
        exact congrArg (fun z => Str.join (sgn 32) L ++ sgn 32 ++ z) hw2
      exact hd ((twA ns a).drop (p + 1)) (headA ns a :: (twA ns a).take p) (by simp)
    rw [e]
    have hln : ((twA ns a).take p ++ [w, Str.ofString ""] ++ (twA ns a).drop (p + 1)).length = (shA ns a).length + 1 := by
      rw [List.length_append, List.length_append, hlt, List.length_drop, twA_len]
      show p + 2 + _ = _
      omega
    refine badS_words (fun u hu => ?_) (by rw [hln]; omega) (bad_wordN (i := p + 1) (x := Str.ofString "") ?_ fun ks k _ _ => word_emp k)
    · rcases List.mem_cons.mp hu with z | z
      · rw [z]; exact wA_free ns a _ List.mem_cons_self
      · rcases List.mem_append.mp z with z | z
        · rcases List.mem_append.mp z with z | z
          · exact twA_free ns a u (List.mem_of_mem_take z)
          · rcases List.mem_cons.mp z with z | z
            · rw [z]; exact ⟨hf.1, by omega⟩
            · rw [List.mem_singleton.mp z]; exact ⟨by decide, by decide⟩
        · exact twA_free ns a u (List.mem_of_mem_drop z)
    · rw [List.append_assoc, List.getElem?_append_right (by omega), hlt, show p + 1 - p = 1 by omega]; rfl
end
end LH

set_option maxHeartbeats 400000
namespace LH
open PySem L2 PySem.Spec PyProof.Rows
/-! ### calls of a def that may raise, at data at which it does not -/
theorem good_args {K : PySem.W.Frag} {F H : Hp} (s : Ex F H) : ∀ {vs : List V} {ds : List PyData}, DpAll K F vs ds → Good ⟨K, H, F⟩ ⟨[], [], vs.zip (ds.map .d)⟩ [] F H := fun {vs ds} r =>
  ⟨Evl.Ex.refl F, Evl.Ex.refl H, s, (fun b o h n => by rw [show F b = none from n] at h; cases h), [], [], Nat.zero_le _, (fun i x v h => by simp at h), rfl, rfl, (fun i a h o h1 => by simp at h1), (fun i h h1 => by simp at h1), (fun i h h1 => by simp at h1), (fun i h h1 => by simp at h1), (fun i j h k _ h1 => by simp at h1), fun q hq => by
    obtain ⟨v, sl⟩ := q
    have : ∀ {vs : List V} {ds : List PyData}, DpAll K F vs ds → (v, sl) ∈ vs.zip (ds.map Sl.d) → SlotOk K F [] (some v) sl := by
      intro vs
      induction vs with
      | nil => intro ds _ h; cases h
      | cons u us ih =>
        intro ds r h
        cases r with
        | cons r1 r2 =>
          rcases List.mem_cons.mp h with z | z
          · cases z; exact ⟨_, rfl, r1⟩
          · exact ih r2 z
    exact this r hq⟩
theorem ee_callS0 {C : Ct} {e : En} {f : SpR} {tr : TA} {ds : List PyData} {d : PyData} {E : Stt → XK} (h : EvA C tr e ds) (hf : f (ds.map .d) [] (.ret d) []) : EvE C (tCallS (spO C.K f) E tr) e d := fun σ F H g Q q =>
  h σ F H g _ fun vs F1 H1 w1 r => ⟨F1, H1, ds.map .d, [], .ret d, [], by rw [dps_len r, List.length_map], good_args w1.sub r, hf, fun v F2 H2 ex g2 r2 => q v F2 H2 (w1.trans ⟨ex, g2.rh, g2.fh, g2.fnew⟩) r2⟩
/-! ### a slice of a tuple -/
theorem sl_tupK {X : Cx} {K : PySem.W.Frag} (hK : X.K = K) : SlR X (rSlA K) := by subst hK; exact sl_tupA
theorem ee_slT {C : Ct} {e : En} {te : TE} {tl th : TO} {lo hi : Option Int} {ds : List PyData} (h : EvE C te e (.tuple ds)) (h1 : EvO C tl e lo) (h2 : EvO C th e hi) : EvE C (tSl (rSlA C.K) te tl th) e (.tuple (LH.cutD ds lo hi)) := fun σ F H g Q q =>
  h σ F H g _ fun v F1 H1 w1 d1 => h1 σ F1 H1 (g.grow w1) _ fun F2 H2 w2 => h2 σ F2 H2 ((g.grow w1).grow w2) _ fun F3 H3 w3 => by
    obtain ⟨l, vs, rfl, hl, r⟩ := dp_tuple d1
    have w := (w2.trans w3)
    have el := dps_len r
    have hc : DpAll C.K F3 (cutV vs lo hi) (LH.cutD ds lo hi) := by
      unfold cutV LH.cutD
      rw [el]
      exact dps_mono w.f _ _ (dps_take _ (dps_drop _ r))
    refine ⟨l, vs, rfl, Evl.ex_t w3.sub (Evl.ex_t w.f hl), fun hh => ?_, fun _ p hp => q _ _ _ ((w1.trans w).trans (Grow.alloc w3.sub hp)) (.tup (Evl.st_of upd_same) (dps_mono (Evl.Ex.new (ex_none w3.sub hp)) _ _ hc))⟩
    have e1 : LH.cutD ds lo hi = ds := by
      unfold LH.cutD
      rw [el] at hh
      rw [hh.1, hh.2, List.drop_zero, Nat.sub_zero, List.take_length]
    rw [e1] at q
    exact q _ F3 H3 (w1.trans w) (.tup (Evl.ex_t w.f hl) (dps_mono w.f _ _ r))
end LH

set_option maxHeartbeats 400000
namespace K10
open PySem L2 TL LH PySem.Spec PyProof.Rows
local macro_rules | `(tactic| walk_at "side") => `(tactic| first | assumption | omega | (simp only [str_len_app]; omega) | exact Nat.le_of_ble_eq_true rfl | (decide +kernel))
local macro_rules | `(tactic| walk_at "beg") => `(tactic| try dsimp only [L2.cxOf, L2.Cx.wish])
local macro_rules | `(tactic| walk_at "r2") => `(tactic| first
  | with_reducible exact r2_addI | with_reducible exact r2_cmpI | with_reducible exact r2_sub | with_reducible exact r2_eqI | with_reducible exact r2_neI | with_reducible exact r2_eqS | with_reducible exact r2_neS | with_reducible exact r2_cmpS | with_reducible exact r2_eqB | with_reducible exact r2_neB
  | ((with_reducible refine' r2_I ?hc (fun _ => .int _)); (case hc => first | exact ⟨by decide, by decide⟩ | (show (0 : Int) < _; decide) | exact .inl ⟨by decide, by decide⟩ | exact .inr ⟨by decide, by decide⟩ | exact .inl ⟨by omega, by omega⟩ | exact .inr ⟨by omega, by omega⟩ | walk_at "side"))
  | ((with_reducible refine' r2_addS ?hc); (case hc => walk_at "side"))
  | ((with_reducible refine' r2_ixL ?hc); (case hc => walk_at "side"))
  | ((with_reducible refine' r2_ixT ?hc); (case hc => walk_at "side"))
  | ((with_reducible refine' r2_ixS ?hc ?hd); (case hc => walk_at "side"); (case hd => walk_at "side"))
  | ((with_reducible refine' r2_addL ?hc); (case hc => walk_at "side"))
  | ((with_reducible refine' r2_addT ?hc); (case hc => walk_at "side"))
  | ((with_reducible refine' r2_mulT ?hc ?hd ?he ?hf); (case hc => first | (exact List.cons_ne_nil _ _) | assumption); (case hd => walk_at "side"); (case he => walk_at "side"); (case hf => walk_at "side"))
  | ((with_reducible refine' r2_mulS ?hc ?hd ?he ?hf); (case hc => walk_at "side"); (case hd => walk_at "side"); (case he => walk_at "side"); (case hf => walk_at "side"))
  | ((with_reducible refine' r2_eqD ?hc ?hd); (case hc => first | assumption | exact shaped_nil); (case hd => first | assumption | exact shaped_nil))
  | ((with_reducible refine' r2_neD ?hc ?hd); (case hc => first | assumption | exact shaped_nil); (case hd => first | assumption | exact shaped_nil)))
local macro_rules | `(tactic| walk_at "le") => `(tactic| first
  | exact LeS.nil
  | (refine' LeS.same ?hc; (case hc => walk_at "le"))
  | (refine' LeS.un ?hc; (case hc => walk_at "le")))
local macro_rules | `(tactic| walk_at "nx") => `(tactic| (refine' r_nxle ?hc rfl (fun _ h => h); (case hc => walk_at "le")))
local macro_rules | `(tactic| walk_at "rc") => `(tactic| first
  | with_reducible exact rc_lenL | with_reducible exact rc_lenT | with_reducible exact rc_listL | with_reducible exact rc_listT | with_reducible exact rc_tupL | with_reducible exact rc_tupT | with_reducible exact rc_max2 | with_reducible exact rc_intI | with_reducible exact rc_strS | with_reducible exact rc_abs
  | ((with_reducible refine' rc_lenS ?hc); (case hc => walk_at "side"))
  | ((with_reducible refine' rc_strI ?hc); (case hc => walk_at "side"))
  | ((with_reducible refine' rc_intS ?hc ?hd); (case hc => walk_at "side"); (case hd => walk_at "side")))
local macro_rules | `(tactic| walk_at "ea") => `(tactic| first
  | with_reducible exact ea_nil
  | ((with_reducible refine' ea_cons ?h1 ?h2); (case h1 => walk_at "ev"); (case h2 => walk_at "ea")))
local macro_rules | `(tactic| walk_at "eo") => `(tactic| first
  | with_reducible exact eo_no
  | ((with_reducible refine' eo_some ?h1); (case h1 => walk_at "ev")))
local macro_rules | `(tactic| walk_at "ej") => `(tactic| first
  | with_reducible exact EvJ.nil
  | ((with_reducible refine' EvJ.cons ?h1 ?h2); (case h1 => walk_at "ev"); (case h2 => walk_at "ej")))
local macro_rules | `(tactic| walk_at "ev") => `(tactic| first
  | with_reducible exact ee_int | with_reducible exact ee_str | with_reducible exact ee_bl | with_reducible exact ee_non | with_reducible exact ee_var rfl
  | ((with_reducible refine' ee_op ?h1 ?h2 ?h3); (case h1 => walk_at "ev"); (case h2 => walk_at "ev"); (case h3 => walk_at "r2"))
  | ((with_reducible refine' ee_neg ?h1); (case h1 => walk_at "ev"))
  | ((with_reducible refine' ee_chain ?h1 ?h2 ?h3 ?h4 ?h5); (case h1 => walk_at "ev"); (case h2 => walk_at "ev"); (case h3 => walk_at "ev"); (case h4 => walk_at "r2"); (case h5 => walk_at "r2"))
  | ((with_reducible refine' ee_cb ?h1 ?h2); (case h1 => walk_at "ea"); (case h2 => walk_at "rc"))
  | ((with_reducible refine' ee_m0b ?h1); (case h1 => walk_at "ev"))
  | ((with_reducible refine' ee_m1b ?h1 ?h2); (case h1 => walk_at "ev"); (case h2 => walk_at "ev"))
  | ((with_reducible refine' ee_isN ?h1); (case h1 => walk_at "ev"))
  | ((with_reducible refine' ee_notV ?h1); (case h1 => walk_at "ev"))
  | ((with_reducible refine' ee_andV ?h1 ?h2); (case h1 => walk_at "ev"); (case h2 => (intro _; walk_at "ev")))
  | ((with_reducible refine' ee_orV ?h1 ?h2); (case h1 => walk_at "ev"); (case h2 => (intro _; walk_at "ev")))
  | ((with_reducible refine' ee_call ?h1 ?h2); (case h1 => walk_at "ea"); (case h2 => walk_at "call"))
  | ((with_reducible refine' ee_lst ?h1 ?h2); (case h1 => walk_at "ea"); (case h2 => walk_at "side"))
  | ((with_reducible refine' ee_tup ?h1 ?h2); (case h1 => walk_at "ea"); (case h2 => walk_at "side"))
  | ((with_reducible refine' ee_part ?h1 ?h2 ?h3 ?h4); (case h1 => walk_at "ev"); (case h2 => walk_at "ev"); (case h3 => walk_at "side"); (case h4 => walk_at "side"))
  | ((with_reducible refine' ee_slS ?h1 ?h2 ?h3 ?h4); (case h1 => walk_at "ev"); (case h2 => walk_at "eo"); (case h3 => walk_at "eo"); (case h4 => walk_at "side"))
  | ((with_reducible refine' ee_slL ?h1 ?h2 ?h3); (case h1 => walk_at "ev"); (case h2 => walk_at "eo"); (case h3 => walk_at "eo"))
  | ((with_reducible refine' ee_upper ?h1 ?h2); (case h1 => walk_at "ev"); (case h2 => walk_at "side"))
  | ((with_reducible refine' ee_fmtI ?h1 ?h2); (case h1 => walk_at "ev"); (case h2 => walk_at "side"))
  | ((with_reducible refine' ee_fmtS ?h1 ?h2); (case h1 => walk_at "ev"); (case h2 => walk_at "side"))
  | ((with_reducible refine' ee_jo ?h1 ?h2); (case h1 => walk_at "ej"); (case h2 => walk_at "side"))
  | ((with_reducible refine' ee_isi ?h1 ht_c ?h3); (case h1 => walk_at "ev"); (case h3 => first | exact kit_bool | exact kit_list | exact kit_tuple | exact kit_str | exact kit_int | exact kit_intB | exact kit_boolI | exact kit_strB)))
local macro_rules | `(tactic| walk_at "eb") => `(tactic| first
  | ((with_reducible refine' eb_test ?h1); (case h1 => walk_at "ev"))
  | ((with_reducible refine' eb_B ?h1); (case h1 => walk_at "ev"))
  | ((with_reducible refine' eb_and ?h1 ?h2); (case h1 => walk_at "eb"); (case h2 => (intro _; walk_at "eb")))
  | ((with_reducible refine' eb_or ?h1 ?h2); (case h1 => walk_at "eb"); (case h2 => (intro _; walk_at "eb")))
  | ((with_reducible refine' eb_not ?h1); (case h1 => walk_at "eb"))
  | with_reducible exact eb_yes)

local macro_rules | `(tactic| walk_at "call") => `(tactic| first
  | exact ⟨_, by omega, rfl, rfl⟩
  | exact ⟨_, _, _, by omega, by omega, rfl, rfl⟩
  | exact ⟨_, by omega, by assumption, rfl, rfl⟩
  | exact ⟨_, _, by assumption, by omega, by omega, rfl, rfl⟩
  | exact ⟨_, rfl, rfl⟩
  | exact ⟨_, _, by omega, rfl, rfl⟩
  | exact ⟨_, _, by omega, by assumption, rfl, rfl⟩
  | exact ⟨_, _, by omega, by omega, by omega, rfl, rfl⟩
  | exact ⟨_, _, by omega, by assumption, by omega, by omega, rfl, rfl⟩)
def top (i : Nat) : Stmt := PySem.Challenge.pw_letterheld_k10_lines_of_journals.main.body.getD i (.Pass ⟨0, 0, 0, 0⟩)
abbrev s_is_office : Stmt := top 7
abbrev N_is_office : List Str := ["text"]
theorem sc_is_office : FnScope N_is_office ["text"] (defScope s_is_office) := ⟨rfl, rfl, rfl, by decide +kernel, rfl, by decide +kernel, by decide +kernel⟩
def d_is_office : He.DefD := ⟨("is_office", none), "is_office", "is_office", defArgs s_is_office, defBody s_is_office, defScope s_is_office, [], []⟩
abbrev s_is_number : Stmt := top 8
abbrev N_is_number : List Str := ["text"]
theorem sc_is_number : FnScope N_is_number ["text"] (defScope s_is_number) := ⟨rfl, rfl, rfl, by decide +kernel, rfl, by decide +kernel, by decide +kernel⟩
def d_is_number : He.DefD := ⟨("is_number", none), "is_number", "is_number", defArgs s_is_number, defBody s_is_number, defScope s_is_number, [], []⟩
abbrev s_is_thing : Stmt := top 9
abbrev N_is_thing : List Str := ["text", "office", "_", "number"]
theorem sc_is_thing : FnScope N_is_thing ["text"] (defScope s_is_thing) := ⟨rfl, rfl, rfl, by decide +kernel, rfl, by decide +kernel, by decide +kernel⟩
def d_is_thing : He.DefD := ⟨("is_thing", none), "is_thing", "is_thing", defArgs s_is_thing, defBody s_is_thing, defScope s_is_thing, [], []⟩
abbrev s_read_word : Stmt := top 10
abbrev N_read_word : List Str := ["kind", "word"]
theorem sc_read_word : FnScope N_read_word ["kind", "word"] (defScope s_read_word) := ⟨rfl, rfl, rfl, by decide +kernel, rfl, by decide +kernel, by decide +kernel⟩
def d_read_word : He.DefD := ⟨("read_word", none), "read_word", "read_word", defArgs s_read_word, defBody s_read_word, defScope s_read_word, [], []⟩
abbrev s_read_words : Stmt := top 11
abbrev N_read_words : List Str := ["kinds", "words", "row", "kind", "word", "worth"]
theorem sc_read_words : FnScope N_read_words ["kinds", "words"] (defScope s_read_words) := ⟨rfl, rfl, rfl, by decide +kernel, rfl, by decide +kernel, by decide +kernel⟩
def d_read_words : He.DefD := ⟨("read_words", none), "read_words", "read_words", defArgs s_read_words, defBody s_read_words, defScope s_read_words, [], []⟩
abbrev s_line_kinds : Stmt := top 12
abbrev N_line_kinds : List Str := ["words"]
theorem sc_line_kinds : FnScope N_line_kinds ["words"] (defScope s_line_kinds) := ⟨rfl, rfl, rfl, by decide +kernel, rfl, by decide +kernel, by decide +kernel⟩
def d_line_kinds : He.DefD := ⟨("line_kinds", none), "line_kinds", "line_kinds", defArgs s_line_kinds, defBody s_line_kinds, defScope s_line_kinds, [], []⟩
abbrev s_read_line : Stmt := top 13
abbrev N_read_line : List Str := ["line", "words"]
theorem sc_read_line : FnScope N_read_line ["line"] (defScope s_read_line) := ⟨rfl, rfl, rfl, by decide +kernel, rfl, by decide +kernel, by decide +kernel⟩
def d_read_line : He.DefD := ⟨("read_line", none), "read_line", "read_line", defArgs s_read_line, defBody s_read_line, defScope s_read_line, [], []⟩
abbrev s_write_words : Stmt := top 14
abbrev N_write_words : List Str := ["row", "word"]
theorem sc_write_words : FnScope N_write_words ["row"] (defScope s_write_words) := ⟨rfl, rfl, rfl, by decide +kernel, rfl, by decide +kernel, by decide +kernel⟩
def d_write_words : He.DefD := ⟨("write_words", none), "write_words", "write_words", defArgs s_write_words, defBody s_write_words, defScope s_write_words, [], []⟩
abbrev s_format_line : Stmt := top 15
abbrev N_format_line : List Str := ["row"]
theorem sc_format_line : FnScope N_format_line ["row"] (defScope s_format_line) := ⟨rfl, rfl, rfl, by decide +kernel, rfl, by decide +kernel, by decide +kernel⟩
def d_format_line : He.DefD := ⟨("format_line", none), "format_line", "format_line", defArgs s_format_line, defBody s_format_line, defScope s_format_line, [], []⟩
abbrev s_parse_line : Stmt := top 16
abbrev N_parse_line : List Str := ["line", "row"]
theorem sc_parse_line : FnScope N_parse_line ["line"] (defScope s_parse_line) := ⟨rfl, rfl, rfl, by decide +kernel, rfl, by decide +kernel, by decide +kernel⟩
def d_parse_line : He.DefD := ⟨("parse_line", none), "parse_line", "parse_line", defArgs s_parse_line, defBody s_parse_line, defScope s_parse_line, [], []⟩
abbrev s_law_cell : Stmt := top 18
abbrev N_law_cell : List Str := ["script", "k"]
theorem sc_law_cell : FnScope N_law_cell ["script", "k"] (defScope s_law_cell) := ⟨rfl, rfl, rfl, by decide +kernel, rfl, by decide +kernel, by decide +kernel⟩
def d_law_cell : He.DefD := ⟨("_law_cell", none), "_law_cell", "_law_cell", defArgs s_law_cell, defBody s_law_cell, defScope s_law_cell, [], []⟩
abbrev s_law_office : Stmt := top 19
abbrev N_law_office : List Str := ["cell", "name", "rest", "k"]
theorem sc_law_office : FnScope N_law_office ["cell"] (defScope s_law_office) := ⟨rfl, rfl, rfl, by decide +kernel, rfl, by decide +kernel, by decide +kernel⟩
def d_law_office : He.DefD := ⟨("_law_office", none), "_law_office", "_law_office", defArgs s_law_office, defBody s_law_office, defScope s_law_office, [], []⟩
abbrev s_law_number : Stmt := top 20
abbrev N_law_number : List Str := ["cell"]
theorem sc_law_number : FnScope N_law_number ["cell"] (defScope s_law_number) := ⟨rfl, rfl, rfl, by decide +kernel, rfl, by decide +kernel, by decide +kernel⟩
def d_law_number : He.DefD := ⟨("_law_number", none), "_law_number", "_law_number", defArgs s_law_number, defBody s_law_number, defScope s_law_number, [], []⟩
abbrev s_law_thing : Stmt := top 21
abbrev N_law_thing : List Str := ["cell"]
theorem sc_law_thing : FnScope N_law_thing ["cell"] (defScope s_law_thing) := ⟨rfl, rfl, rfl, by decide +kernel, rfl, by decide +kernel, by decide +kernel⟩
def d_law_thing : He.DefD := ⟨("_law_thing", none), "_law_thing", "_law_thing", defArgs s_law_thing, defBody s_law_thing, defScope s_law_thing, [], []⟩
abbrev s_law_values : Stmt := top 22
abbrev N_law_values : List Str := ["shape", "script", "at", "values", "k", "cell"]
theorem sc_law_values : FnScope N_law_values ["shape", "script", "at"] (defScope s_law_values) := ⟨rfl, rfl, rfl, by decide +kernel, rfl, by decide +kernel, by decide +kernel⟩
def d_law_values : He.DefD := ⟨("_law_values", none), "_law_values", "_law_values", defArgs s_law_values, defBody s_law_values, defScope s_law_values, [], []⟩
abbrev s_law_shape : Stmt := top 23
abbrev N_law_shape : List Str := ["cell", "shapes"]
theorem sc_law_shape : FnScope N_law_shape ["cell"] (defScope s_law_shape) := ⟨rfl, rfl, rfl, by decide +kernel, rfl, by decide +kernel, by decide +kernel⟩
def d_law_shape : He.DefD := ⟨("_law_shape", none), "_law_shape", "_law_shape", defArgs s_law_shape, defBody s_law_shape, defScope s_law_shape, [], []⟩
abbrev s_law_row : Stmt := top 24
abbrev N_law_row : List Str := ["script", "at", "word", "shape"]
theorem sc_law_row : FnScope N_law_row ["script", "at"] (defScope s_law_row) := ⟨rfl, rfl, rfl, by decide +kernel, rfl, by decide +kernel, by decide +kernel⟩
def d_law_row : He.DefD := ⟨("_law_row", none), "_law_row", "_law_row", defArgs s_law_row, defBody s_law_row, defScope s_law_row, [], []⟩
abbrev s_law_is_same : Stmt := top 25
abbrev N_law_is_same : List Str := ["actual", "row", "k"]
theorem sc_law_is_same : FnScope N_law_is_same ["actual", "row"] (defScope s_law_is_same) := ⟨rfl, rfl, rfl, by decide +kernel, rfl, by decide +kernel, by decide +kernel⟩
def d_law_is_same : He.DefD := ⟨("_law_is_same", none), "_law_is_same", "_law_is_same", defArgs s_law_is_same, defBody s_law_is_same, defScope s_law_is_same, [], []⟩
abbrev s_law_raises : Stmt := top 26
abbrev N_law_raises : List Str := ["line", "error"]
theorem sc_law_raises : FnScope N_law_raises ["line"] (defScope s_law_raises) := ⟨rfl, rfl, rfl, by decide +kernel, rfl, by decide +kernel, by decide +kernel⟩
def d_law_raises : He.DefD := ⟨("_law_raises", none), "_law_raises", "_law_raises", defArgs s_law_raises, defBody s_law_raises, defScope s_law_raises, [], []⟩
abbrev s_law_bad_words : Stmt := top 27
abbrev N_law_bad_words : List Str := ["kind", "word"]
theorem sc_law_bad_words : FnScope N_law_bad_words ["kind", "word"] (defScope s_law_bad_words) := ⟨rfl, rfl, rfl, by decide +kernel, rfl, by decide +kernel, by decide +kernel⟩
def d_law_bad_words : He.DefD := ⟨("_law_bad_words", none), "_law_bad_words", "_law_bad_words", defArgs s_law_bad_words, defBody s_law_bad_words, defScope s_law_bad_words, [], []⟩
abbrev s_law_spoilt : Stmt := top 28
abbrev N_law_spoilt : List Str := ["words", "shape", "cell", "text", "lines", "at", "bad"]
theorem sc_law_spoilt : FnScope N_law_spoilt ["words", "shape", "cell"] (defScope s_law_spoilt) := ⟨rfl, rfl, rfl, by decide +kernel, rfl, by decide +kernel, by decide +kernel⟩
def d_law_spoilt : He.DefD := ⟨("_law_spoilt", none), "_law_spoilt", "_law_spoilt", defArgs s_law_spoilt, defBody s_law_spoilt, defScope s_law_spoilt, [], []⟩
abbrev s_law : Stmt := top 29
abbrev N_law : List Str := ["script", "row", "word", "shape", "words", "line", "bad", "value"]
theorem sc_law : FnScope N_law ["script"] (defScope s_law) := ⟨rfl, rfl, rfl, by decide +kernel, rfl, by decide +kernel, by decide +kernel⟩
def d_law : He.DefD := ⟨("law", none), "law", "law", defArgs s_law, defBody s_law, defScope s_law, [], []⟩
abbrev s_InvalidLine_init : Stmt := inClass (top 2) 0
def d_InvalidLine_init : He.DefD := ⟨("InvalidLine", some "__init__"), "__init__", "InvalidLine.__init__", defArgs s_InvalidLine_init, defBody s_InvalidLine_init, defScope s_InvalidLine_init, [], []⟩
def fn : List He.DefD := [d_is_office, d_is_number, d_is_thing, d_read_word, d_read_words, d_line_kinds, d_read_line, d_write_words, d_format_line, d_parse_line, d_law_cell, d_law_office, d_law_number, d_law_thing, d_law_values, d_law_shape, d_law_row, d_law_is_same, d_law_raises, d_law_bad_words, d_law_spoilt, d_law]
def fa : List He.Fa := [.glo "is_office", .glo "is_number", .glo "is_thing", .glo "read_word", .glo "read_words", .glo "line_kinds", .glo "read_line", .glo "write_words", .glo "format_line", .glo "parse_line", .glo "_law_cell", .glo "_law_office", .glo "_law_number", .glo "_law_thing", .glo "_law_values", .glo "_law_shape", .glo "_law_row", .glo "_law_is_same", .glo "_law_raises", .glo "_law_bad_words", .glo "_law_spoilt", .glo "law", .glo "InvalidLine", .free "super", .free "len", .int "LONGEST_NAME" 12, .free "isinstance", .free "str", .free "int", .int "GREATEST" 1000000000, .free "tuple", .free "zip", .glo "LINES", .free "max", .free "range", .free "abs", .free "bool", .glo "HeldError", .exm "InvalidLine" "InvalidLine" true]

def tbs : List He.Tab := [(fun K => He.ga K "LINES", ["register", "give", "got", "use", "recall", "notice", "receipt", "noted", "pay", "paid"])]
def exB (K : PySem.W.Frag) : Bool := tabB K (He.ga K "LINES") LL && ((xfB K (He.ga K "InvalidLine") && He.eqO (PySem.W.findIn K (.ref (He.ga K "InvalidLine")) "line") (some none)) && (excCB K "InvalidLine" && kitB2 K "InvalidLine" "HeldError" true))
def exS (P : Program) (K : PySem.W.Frag) : Bool := supS P K "InvalidLine" d_InvalidLine_init
def exF (K : PySem.W.Frag) : Prop := fnWS K (He.ma K (He.ga K "InvalidLine") "__init__") = fnVS d_InvalidLine_init
def Exs (P : Program) (w : World) (K : PySem.W.Frag) : Prop := (exB K = true ∧ ∃ es n, KDict K w (He.ga K "LINES") es n) ∧ exS P K = true ∧ exF K
theorem exs_of {P : Program} {w : World} {K : PySem.W.Frag} (c : He.SaysT fa fn tbs w K) (e : exB K = true) (s : exS P K = true) (f : exF K) : Exs P w K := ⟨⟨e, c.tab 0⟩, s, f⟩
theorem ex_tab {P : Program} {w : World} {K : PySem.W.Frag} (h : Exs P w K) : tabB K (He.ga K "LINES") LL = true := (Bool.and_eq_true_iff.mp h.1.1).1
theorem ex_kd {P : Program} {w : World} {K : PySem.W.Frag} (h : Exs P w K) : ∃ es n, KDict K w (He.ga K "LINES") es n := h.1.2
theorem ex_sup {P : Program} {w : World} {K : PySem.W.Frag} (h : Exs P w K) : supS P K "InvalidLine" d_InvalidLine_init = true := h.2.1
theorem ex_fns {P : Program} {w : World} {K : PySem.W.Frag} (h : Exs P w K) : fnWS K (He.ma K (He.ga K "InvalidLine") "__init__") = fnVS d_InvalidLine_init := h.2.2
theorem ex_x_InvalidLine {P : Program} {w : World} {K : PySem.W.Frag} (h : Exs P w K) : XfC K (He.ga K "InvalidLine") := xfB_ok (Bool.and_eq_true_iff.mp (Bool.and_eq_true_iff.mp (Bool.and_eq_true_iff.mp h.1.1).2).1).1
theorem ex_f_InvalidLine_line {P : Program} {w : World} {K : PySem.W.Frag} (h : Exs P w K) : PySem.W.findIn K (.ref (He.ga K "InvalidLine")) "line" = some none := He.eqO_ok (Bool.and_eq_true_iff.mp (Bool.and_eq_true_iff.mp (Bool.and_eq_true_iff.mp h.1.1).2).1).2
theorem ex_c_InvalidLine {P : Program} {w : World} {K : PySem.W.Frag} (h : Exs P w K) : ExcC K (He.ga K "InvalidLine") := excCB_ok (Bool.and_eq_true_iff.mp (Bool.and_eq_true_iff.mp (Bool.and_eq_true_iff.mp h.1.1).2).2).1
theorem ex_k1 {P : Program} {w : World} {K : PySem.W.Frag} (h : Exs P w K) : PySem.W.kitOne K (.ref (He.ga K "InvalidLine")) (.ref (He.ga K "HeldError")) = some true := kitB2_ok (Bool.and_eq_true_iff.mp (Bool.and_eq_true_iff.mp (Bool.and_eq_true_iff.mp h.1.1).2).2).2
section
variable {P : Program} {w : World} {K : PySem.W.Frag} {mg : Str → Option Value} {base : Heap}
theorem ok_InvalidLine_init (T : Top fa fn K mg) (ex : Exs P w K) : ExOk P w K mg base CX0 1 "InvalidLine" (He.ga K "InvalidLine") ["self", "line"] (spNum (He.ga K "InvalidLine") "line") := by
  obtain ⟨S, h1, h2⟩ := supS_ok (ex_sup ex) (ex_fns ex)
  obtain ⟨oc, od, osl, doc, pm, ctv, lk⟩ := S.fn
  refine ⟨T.glo 22, S.oex, _, _, h1, h2, .all fun us hl => match us, hl with | [_, _], _ => rfl, fn_super (k := 0) (Nm := ["self", "line", "__class__"]) S lk (show NdefX.NScope _ _ _ (defScope s_InvalidLine_init) from NdefX.nscope_by (by decide +kernel)) rfl (T.free 23) rfl rfl rfl (fun vs H Q E h => by obtain ⟨_, a, n, rfl, _⟩ := h; rfl) ?_ (fun _ => rfl) (fun _ => rfl) (fun env hk => by unfold interactive; rw [hk]; rfl) (fun _ => rfl) (fun _ => ⟨_, rfl⟩)⟩
  rintro A outer s H vs Q E hr ⟨⟨a, n, rfl, hn, ha, q⟩, a', n', hz, h0, h1'⟩
  cases hz
  refine ⟨a, [.int n], _, _, rfl, ha, pa_cons (pe_jo (PJ.cons pe_str (PJ.cons (pe_fmt (pv 1)) (PJ.cons pe_str PJ.nil)))) pa_nil, pss_one (ps_ost (pv 0) (pv 1) rfl), ?_⟩
  exact line_run (pre := "line ") (suf := " is not a line of a journal") rfl hn (Nat.le_of_ble_eq_true rfl) (Nat.le_of_ble_eq_true rfl) (digits_len h0 h1') fun z => ⟨by simp, ha, ost_run rfl rfl S.oex (ex_f_InvalidLine_line ex) ha q⟩
def f_is_office (ds : List PyData) (d : PyData) : Prop := ∃ s : Str, s.length ≤ 100000 ∧ ds = [.str s] ∧ d = .bool (isOffL (tl s))
theorem ok_is_office (T : Top fa fn K mg) : CalOk P w K mg base CX0 1 "is_office" ["text"] (spF K f_is_office) := by
  obtain ⟨fd, F⟩ := T.c.def_ 0 (d := d_is_office) rfl
  refine cal_of F (T.glo 0) (ok_data F sc_is_office ?_ (fun cdv A outer s H E hr => ⟨_, (PSs.nox (pss_cons (ps_if (PW.pt (pw_or (pt_not (pt_val (pe_callB (call_isiK (K := K) rfl) (by rfl) (T.free 26) (by decide +kernel) (pa_cons (pv 0) (pa_cons (pe_bltn (v := .ty "str") rfl (T.free 27) (by decide +kernel) rfl) pa_nil))))) (pw_or1 (pt_cmpR op_gtA (pe_callB (call_lenK (K := K) rfl) (by rfl) (T.free 24) (by decide +kernel) (pa_cons (pv 0) pa_nil)) (pe_globI (T.int 25) rfl) (nomark _))))) (pss_one (ps_ret pe_bl)) pss_nil) (pss_one (ps_ret (pe_and (pe_m0 PySem.F.slot_str_isascii PySem.F.type_str_isascii ml_isascii (pv 0)) (pe_and (pe_m0 PySem.F.slot_str_isalpha PySem.F.type_str_isalpha ml_isalpha (pv 0)) (pe_one (pe_m0 PySem.F.slot_str_islower PySem.F.type_str_islower ml_islower (pv 0))))))))), ?_⟩)) (fun _ _ _ _ _ _ us hl => match us, hl with | [_], _ => rfl)
  · rintro ds d ⟨s, h, rfl, rfl⟩; rfl
  · rintro ds d ⟨s, h, rfl, rfl⟩ R F D hD hN; walk_at "beg"
    refine r_seq (r_if (b := decide ((12 : Int) < (s.length : Int))) (EvB.is (by walk_at "eb") (by simp)) (fun hb => ?_) (fun hb => ?_))
    · exact r_ret (EvE.is ee_bl (by rw [off_long hb])) (hD _)
    · refine r_next ?_
      dsimp only
      exact r_ret (EvE.is (by walk_at "ev") (congrArg PyData.bool (off_short hb))) (hD _)
def f_is_number (ds : List PyData) (d : PyData) : Prop := ∃ s : Str, s.length ≤ 100000 ∧ ds = [.str s] ∧ d = .bool (isNumL (tl s))
theorem ok_is_number (T : Top fa fn K mg) : CalOk P w K mg base CX0 1 "is_number" ["text"] (spF K f_is_number) := by
  obtain ⟨fd, F⟩ := T.c.def_ 1 (d := d_is_number) rfl
  refine cal_of F (T.glo 1) (ok_data F sc_is_number ?_ (fun cdv A outer s H E hr => ⟨_, (PSs.nox (pss_cons (ps_if (PW.pt (pw_or (pt_cmpR op_gtA (pe_callB (call_lenK (K := K) rfl) (by rfl) (T.free 24) (by decide +kernel) (pa_cons (pv 0) pa_nil)) (pe_callB (call_lenK (K := K) rfl) (by rfl) (T.free 24) (by decide +kernel) (pa_cons (pe_callTy call_strA (by rfl) (T.free 27) (by decide +kernel) (pa_cons (pe_globI (T.int 29) rfl) pa_nil)) pa_nil)) (nomark _)) (pw_or1 (pt_val (pe_m1 PySem.F.slot_str_startswith PySem.F.type_str_startswith ml_startswith (pv 0) pe_str))))) (pss_one (ps_ret pe_bl)) pss_nil) (pss_one (ps_ret (pe_and (pe_m0 PySem.F.slot_str_isascii PySem.F.type_str_isascii ml_isascii (pv 0)) (pe_and (pe_m0 PySem.F.slot_str_isdecimal PySem.F.type_str_isdecimal ml_isdecimal (pv 0)) (pe_one (pe_cmpR op_leA (pe_callTy call_intA (by rfl) (T.free 28) (by decide +kernel) (pa_cons (pv 0) pa_nil)) (pe_globI (T.int 29) rfl) (nomark _))))))))), ?_⟩)) (fun _ _ _ _ _ _ us hl => match us, hl with | [_], _ => rfl)
  · rintro ds d ⟨s, h, rfl, rfl⟩; rfl
  · rintro ds d ⟨s, h, rfl, rfl⟩ R F D hD hN; walk_at "beg"
    have hL : (Str.ofString (toString (1000000000 : Int))).length = 10 := by decide +kernel
    have hs : (Str.ofString (toString (1000000000 : Int))).length ≤ 1000000 := by omega
    have e0 : numP s = isNumL (tl s) := number_iff s
    rw [← e0] at hD
    refine r_seq (r_if (b := decide ((10 : Int) < (s.length : Int)) || Txt.startswith s (Str.ofString "0")) (EvB.is (by walk_at "eb") (by rw [hL]; rfl)) (fun hb => ?_) fun hb => ?_)
    · refine r_ret (EvE.is ee_bl ?_) (hD _)
      unfold numP; rw [if_pos hb]
    · refine r_next ?_
      dsimp only
      have hl : s.length ≤ 10 := by
        rw [Bool.or_eq_false_iff] at hb
        have := of_decide_eq_false hb.1
        omega
      refine r_ret (d := .bool (Txt.isascii s && (Txt.isdecimal s && decide ((NumText.digitsVal (tl s) : Int) ≤ 1000000000)))) (ee_andV (by walk_at "ev") fun h1 => ee_andV (by walk_at "ev") fun h2 => ee_op (ee_cb (ea_cons (ee_var rfl) ea_nil) (rc_intS (int_of h1 h2 (by omega)) (by omega))) ee_int r2_cmpI) ?_
      have e1 : numP s = (Txt.isascii s && (Txt.isdecimal s && decide ((NumText.digitsVal (tl s) : Int) ≤ 1000000000))) := by
        unfold numP; rw [if_neg (by rw [hb]; decide)]
      rw [← e1]
      exact hD _
def f_is_thing (ds : List PyData) (d : PyData) : Prop := ∃ s : Str, s.length ≤ 100000 ∧ ds = [.str s] ∧ d = .bool (isThingL (tl s))
theorem ok_is_thing (T : Top fa fn K mg) (c_is_number : CalOk P w K mg base CX0 1 "is_number" ["text"] (spF K f_is_number)) (c_is_office : CalOk P w K mg base CX0 1 "is_office" ["text"] (spF K f_is_office)) : CalOk P w K mg base CX0 2 "is_thing" ["text"] (spF K f_is_thing) := by
  obtain ⟨fd, F⟩ := T.c.def_ 2 (d := d_is_thing) rfl
  refine cal_of F (T.glo 2) (ok_data F sc_is_thing ?_ (fun cdv A outer s H E hr => ⟨_, (PSs.nox (pss_cons (ps_asg (pe_m1 PySem.F.slot_str_partition PySem.F.type_str_partition ml_partition (pv 0) pe_str) (pg_tupK (K := K) rfl (by rfl) (pgs_cons (pg_name (i := 1) sc_is_thing.nd rfl (by first | exact Or.inl rfl | exact Or.inr rfl)) (pgs_cons (pg_name (i := 2) sc_is_thing.nd rfl (by first | exact Or.inl rfl | exact Or.inr rfl)) (pgs_cons (pg_name (i := 3) sc_is_thing.nd rfl (by first | exact Or.inl rfl | exact Or.inr rfl)) pgs_nil))))) (pss_one (ps_ret (pe_and (pe_callC c_is_office (hr.mono (by decide)) pass0 rfl (pa_cons (pv 1) pa_nil)) (pe_one (pe_callC c_is_number (hr.mono (by decide)) pass0 rfl (pa_cons (pv 3) pa_nil)))))))), ?_⟩)) (fun _ _ _ _ _ _ us hl => match us, hl with | [_], _ => rfl)
  · rintro ds d ⟨s, h, rfl, rfl⟩; rfl
  · rintro ds d ⟨s, h, rfl, rfl⟩ R F D hD hN; walk_at "beg"
    have hp := PyProof.Rows.fact_partition s (Str.ofString "-")
    rw [← thing_iff] at hD
    refine r_seq (r_asgG (by walk_at "ev") (tg_tup (tg_cons tg_name (tg_cons tg_name (tg_cons tg_name tg_nil))) rfl) ?_)
    dsimp only
    refine r_ret (ee_andV (by walk_at "ev") fun h1 => by walk_at "ev") ?_
    rw [← number_iff] at *
    exact hD _
def f_read_word (ds : List PyData) (d : PyData) : Prop := ∃ k x : Str, x.length ≤ 100000 ∧ k ≠ Str.ofString "place" ∧ ds = [.str k, .str x] ∧ d = wordD k x
theorem ok_read_word (T : Top fa fn K mg) (c_is_office : CalOk P w K mg base CX0 1 "is_office" ["text"] (spF K f_is_office)) (c_is_thing : CalOk P w K mg base CX0 2 "is_thing" ["text"] (spF K f_is_thing)) (c_is_number : CalOk P w K mg base CX0 1 "is_number" ["text"] (spF K f_is_number)) : CalOk P w K mg base CX0 3 "read_word" ["kind", "word"] (spF K f_read_word) := by
  obtain ⟨fd, F⟩ := T.c.def_ 3 (d := d_read_word) rfl
  refine cal_of F (T.glo 3) (ok_data F sc_read_word ?_ (fun cdv A outer s H E hr => ⟨_, (PSs.nox (pss_cons (ps_if (PW.pt (pw_and (pt_cmpR (op_eqK (K := K) rfl hr.units) (pv 0) pe_str (nomark _)) (pw_and1 (pt_cmpR (op_eqK (K := K) rfl hr.units) (pv 1) pe_str (nomark _))))) (pss_one (ps_ret pe_int)) pss_nil) (pss_cons (ps_if (PW.pt (pw_or (pt_cmpR (op_eqK (K := K) rfl hr.units) (pv 0) pe_str (nomark _)) (pw_or1 (pt_cmpR (op_eqK (K := K) rfl hr.units) (pv 0) pe_str (nomark _))))) (pss_one (ps_ret (pe_ifExp (pt_val (pe_callC c_is_number (hr.mono (by decide)) pass0 rfl (pa_cons (pv 1) pa_nil))) (pe_callTy call_intA (by rfl) (T.free 28) (by decide +kernel) (pa_cons (pv 1) pa_nil)) pe_non))) pss_nil) (pss_cons (ps_if (pt_cmpR (op_eqK (K := K) rfl hr.units) (pv 0) pe_str (nomark _)) (pss_one (ps_ret (pe_ifExp (pt_val (pe_callC c_is_thing (hr.mono (by decide)) pass0 rfl (pa_cons (pv 1) pa_nil))) (pv 1) pe_non))) pss_nil) (pss_one (ps_ret (pe_ifExp (pt_val (pe_callC c_is_office (hr.mono (by decide)) pass0 rfl (pa_cons (pv 1) pa_nil))) (pv 1) pe_non))))))), ?_⟩)) (fun _ _ _ _ _ _ us hl => match us, hl with | [_, _], _ => rfl)
  · rintro ds d ⟨k, x, h, hpl, rfl, rfl⟩; rfl
  · rintro ds d ⟨k, x, h, hpl, rfl, rfl⟩ R F D hD hN; walk_at "beg"
    refine r_seq (r_if (b := false) (EvB.is (by walk_at "eb") (by rw [decide_eq_false hpl]; rfl)) (fun h => nomatch h) (fun _ => ?_))
    refine r_next ?_
    dsimp only
    refine r_seq (r_if (b := decide (k = Str.ofString "number")) (EvB.is (by walk_at "eb") (by rw [decide_eq_false hpl, Bool.or_false])) (fun hb => ?_) (fun hb => ?_))
    · have hk := of_decide_eq_true hb
      have e0 : wordD k x = if isNumL (tl x) = true then .int (NumText.digitsVal (tl x)) else .none := by unfold wordD; rw [if_pos hk]
      rw [e0] at hD
      refine r_ret (ee_if (b := isNumL (tl x)) (by walk_at "eb") (fun h1 => ?_) (fun h1 => ?_)) (hD _)
      · rw [if_pos h1]
        have hn := (number_iff x).trans h1
        unfold numP at hn
        split at hn
        · cases hn
        · rename_i hq
          simp only [Bool.and_eq_true] at hn
          have hl : x.length ≤ 10 := by
            simp only [Bool.or_eq_true, decide_eq_true_eq, not_or] at hq
            omega
          exact ee_cb (ea_cons (ee_var rfl) ea_nil) (rc_intS (int_of hn.1 hn.2.1 (by omega)) (by omega))
      · rw [if_neg (by rw [h1]; decide)]
        exact ee_non
    · have hk := of_decide_eq_false hb
      refine r_next ?_
      dsimp only
      refine r_seq (r_if (b := decide (k = Str.ofString "thing")) (by walk_at "eb") (fun hb => ?_) (fun hb => ?_))
      · have hk2 := of_decide_eq_true hb
        have e0 : wordD k x = if isThingL (tl x) = true then .str x else .none := by unfold wordD; rw [if_neg hk, if_pos hk2]
        rw [e0] at hD
        refine r_ret (ee_if (b := isThingL (tl x)) (by walk_at "eb") (fun h1 => ?_) (fun h1 => ?_)) (hD _)
        · rw [if_pos h1]; exact ee_var rfl
        · rw [if_neg (by rw [h1]; decide)]; exact ee_non
      · have hk2 := of_decide_eq_false hb
        refine r_next ?_
        dsimp only
        have e0 : wordD k x = if isOffL (tl x) = true then .str x else .none := by unfold wordD; rw [if_neg hk, if_neg hk2]
        rw [e0] at hD
        refine r_ret (ee_if (b := isOffL (tl x)) (by walk_at "eb") (fun h1 => ?_) (fun h1 => ?_)) (hD _)
        · rw [if_pos h1]; exact ee_var rfl
        · rw [if_neg (by rw [h1]; decide)]; exact ee_non
def f_read_words (ds : List PyData) (d : PyData) : Prop := ∃ kd ks ws, ks.length ≤ 1000 ∧ Str.ofString "place" ∉ ks ∧ ws.length ≤ 100000 ∧ (∀ x ∈ ws, x.length ≤ 100000) ∧ ds = [kd, .list (ws.map .str)] ∧ ((kd = .none ∧ d = .none) ∨ (kd = .tuple (ks.map .str) ∧ d = rowsD ks ws))
theorem ok_read_words (T : Top fa fn K mg) (c_read_word : CalOk P w K mg base CX0 3 "read_word" ["kind", "word"] (spF K f_read_word)) : CalOk P w K mg base CX0 4 "read_words" ["kinds", "words"] (spF K f_read_words) := by
  obtain ⟨fd, F⟩ := T.c.def_ 4 (d := d_read_words) rfl
  refine cal_of F (T.glo 4) (ok_data F sc_read_words ?_ (fun cdv A outer s H E hr => ⟨_, (PSs.nox (pss_cons (ps_if (PW.pt (pw_or (pt_cmp (pc_isN (pv 0)) rfl) (pw_or1 (pt_cmpR (op_neK (K := K) rfl hr.units) (pe_callB (call_lenK (K := K) rfl) (by rfl) (T.free 24) (by decide +kernel) (pa_cons (pv 1) pa_nil)) (pe_op (op_addK (K := K) rfl) (pe_callB (call_lenK (K := K) rfl) (by rfl) (T.free 24) (by decide +kernel) (pa_cons (pv 0) pa_nil)) pe_int) (nomark _))))) (pss_one (ps_ret pe_non)) pss_nil) (pss_cons (ps_set (i := 2) sc_read_words.nd rfl (by first | exact Or.inl rfl | exact Or.inr rfl) (pe_lst (pa_cons (pe_ix (ix_seqK (K := K) rfl) (pv 1) pe_int (fun _ _ => rfl)) pa_nil))) (pss_cons (ps_for PassesOwn.never rfl (pi_zipM (K := K) rfl (by rfl) (T.free 31) (pa_cons (pv 0) (pa_cons (pe_slice (sl_anyK (K := K) rfl) (pv 1) (po_some pe_int) po_none) pa_nil))) (pg_tupK (K := K) rfl (by rfl) (pgs_cons (pg_name (i := 3) sc_read_words.nd rfl (by first | exact Or.inl rfl | exact Or.inr rfl)) (pgs_cons (pg_name (i := 4) sc_read_words.nd rfl (by first | exact Or.inl rfl | exact Or.inr rfl)) pgs_nil))) (pss_cons (ps_set (i := 5) sc_read_words.nd rfl (by first | exact Or.inl rfl | exact Or.inr rfl) (pe_callC c_read_word (hr.mono (by decide)) pass0 rfl (pa_cons (pv 3) (pa_cons (pv 4) pa_nil)))) (pss_cons (ps_if (pt_cmp (pc_isN (pv 5)) rfl) (pss_one (ps_ret pe_non)) pss_nil) (pss_one (ps_expr (pe_bmK (K := K) rfl PySem.F.plainAttrs_list PySem.F.slot_list_append PySem.F.type_list_append mt_append (pv 2) (pa_cons (pv 5) pa_nil))))))) (pss_one (ps_ret (pe_callTy (call_tupK (K := K) rfl) (by rfl) (T.free 30) (by decide +kernel) (pa_cons (pv 2) pa_nil)))))))), ?_⟩)) (fun _ _ _ _ _ _ us hl => match us, hl with | [_, _], _ => rfl)
  · rintro ds d ⟨kd, ks, ws, _, _, _, _, rfl, _⟩; rfl
  · rintro ds d ⟨kd, ks, ws, hks, hpl, hws, hw, rfl, ⟨rfl, rfl⟩ | ⟨rfl, rfl⟩⟩ R F D hD hN <;> walk_at "beg"
    · refine r_seq (r_if (b := true) ?hz (fun _ => ?_) (fun h => nomatch h))
      case hz => exact eb_or (a := true) (c := true) (EvB.is (eb_B (ee_isN (ee_var rfl))) rfl) (fun h => nomatch h)
      exact r_ret ee_non (hD _)
    · by_cases hl : ws.length = ks.length + 1
      · obtain ⟨w0, wt, rfl⟩ : ∃ w0 wt, ws = w0 :: wt := by
          cases ws with
          | nil => simp at hl
          | cons a b => exact ⟨a, b, rfl⟩
        have hlt : ks.length = wt.length := by simpa using hl.symm
        refine r_seq (r_if (b := false) ?hz (fun h => nomatch h) (fun _ => ?_))
        case hz => exact EvB.is (by walk_at "eb") (by simp [hlt, isNone])
        refine r_next ?_
        dsimp only
        have hx0 : atI ((w0 :: wt).map PyData.str) 0 = some (.str w0) := atI_nat' (by decide) rfl
        refine r_seq (r_newL (ds := [.str w0]) (by walk_at "ea") (by simp) ?_)
        dsimp only
        refine r_seq ?_
        generalize hj : (rowD ks wt).findIdx isNone = j
        have hall : rowsD ks (w0 :: wt) = if (rowD ks wt).any isNone = false then .tuple (.str w0 :: rowD ks wt) else .none := by
          unfold rowsD
          by_cases q : (rowD ks wt).any isNone = false
          · rw [if_pos q, if_pos ⟨hl, q⟩]; rfl
          · rw [if_neg q, if_neg fun z => q z.2]
        refine r_forZ (xs := ks.map .str) (ys := wt.map .str) ?hx (by simp [hlt]) (fun i => [.d (.tuple (ks.map .str)), .d (.list ((w0 :: wt).map .str)), .o (if i ≤ j then 0 else 9), .un, .un, .un]) (fun i => [Ow.lst K (.str w0 :: (rowD ks wt).take i)]) ?h0 ?hO (fun u v i x y hx hy => ?hb) ?hd
        case hx => exact ea_cons (by walk_at "ev") (ea_cons (EvE.is (by walk_at "ev") (by rw [cut1])) ea_nil)
        case h0 => exact LeS.refl _
        case hO => rfl
        case hb =>
          obtain ⟨k, hk, rfl⟩ : ∃ k, ks[i]? = some k ∧ PyData.str k = x := by
            rw [List.getElem?_map] at hx
            exact Option.map_eq_some_iff.mp hx
          obtain ⟨z, hz, rfl⟩ : ∃ z, wt[i]? = some z ∧ PyData.str z = y := by
            rw [List.getElem?_map] at hy
            exact Option.map_eq_some_iff.mp hy
          have hr := rowD_at hk hz
          have hzl : z.length ≤ 100000 := hw z (List.mem_cons_of_mem _ (List.mem_of_getElem? hz))
          have hkp : k ≠ Str.ofString "place" := fun e => hpl (e ▸ List.mem_of_getElem? hk)
          refine ⟨_, _, tg_tup (tg_cons tg_name (tg_cons tg_name tg_nil)) rfl, ?_⟩
          dsimp only
          by_cases hij : i ≤ j
          · rw [if_pos hij]
            refine r_seq (r_asg (by walk_at "ev") ?_)
            dsimp only
            by_cases he : isNone (wordD k z) = true
            · refine r_seq (r_if (b := true) (EvB.is (eb_B (ee_isN (ee_var rfl))) he) (fun _ => ?_) (fun h => nomatch h))
              have hany : (rowD ks wt).any isNone = true := List.any_eq_true.mpr ⟨_, List.mem_of_getElem? hr, he⟩
              rw [hall, if_neg (by rw [hany]; decide)] at hD
              exact r_ret ee_non (hD _)
            · have he' : isNone (wordD k z) = false := by simpa using he
              have hij2 : i + 1 ≤ j := by
                rcases Nat.lt_or_ge i j with q | q
                · exact q
                · have e : i = j := by omega
                  have hlt3 : i < (rowD ks wt).length := (List.getElem?_eq_some_iff.mp hr).1
                  have hp := List.findIdx_getElem (xs := rowD ks wt) (p := isNone) (w := by rw [hj, ← e]; exact hlt3)
                  have hq := (List.getElem?_eq_some_iff.mp hr).2
                  simp only [hj, ← e, hq] at hp
                  exact absurd hp he
              refine r_seq (r_if (b := false) (EvB.is (eb_B (ee_isN (ee_var rfl))) he') (fun h => nomatch h) (fun _ => ?_))
              refine r_next ?_
              dsimp only
              refine r_app (i := 2) (j := 0) (ds := .str w0 :: (rowD ks wt).take i) (d := wordD k z) rfl rfl (by walk_at "ev") (by have := rowD_len hlt; rw [List.length_cons, List.length_take]; omega) ?_
              rw [if_pos hij2, show (rowD ks wt).take (i + 1) = (rowD ks wt).take i ++ [wordD k z] by rw [List.take_add_one, hr]; rfl]
              walk_at "nx"
          · rw [if_neg hij]
            exact run_bad (i := 2) (n := 9) rfl (Nat.le_of_ble_eq_true rfl)
        case hd =>
          by_cases hij : (ks.map PyData.str).length ≤ j
          · have hij' : (rowD ks wt).length ≤ j := by rw [rowD_len hlt]; simpa using hij
            have hany : (rowD ks wt).any isNone = false := by
              cases q : (rowD ks wt).any isNone with
              | false => rfl
              | true =>
                have := List.findIdx_lt_length.mpr (List.any_eq_true.mp q)
                omega
            rw [hall, if_pos hany] at hD
            have et : (rowD ks wt).take (ks.map PyData.str).length = rowD ks wt := List.take_of_length_le (by rw [rowD_len hlt]; simp)
            dsimp only
            rw [if_pos hij, et]
            exact r_ret (ee_tupO rfl rfl) (hD _)
          · dsimp only
            rw [if_neg hij]
            exact run_bad (i := 2) (n := 9) rfl (Nat.le_of_ble_eq_true rfl)
      · have e0 : rowsD ks ws = .none := by unfold rowsD; rw [if_neg fun z => hl z.1]
        refine r_seq (r_if (b := true) ?hz (fun _ => ?_) (fun h => nomatch h))
        case hz => exact EvB.is (by walk_at "eb") (by simp [isNone]; omega)
        rw [e0] at hD
        exact r_ret ee_non (hD _)
def f_line_kinds (ds : List PyData) (d : PyData) : Prop := ∃ w0 wt, (w0 :: wt).length ≤ 900 ∧ ds = [.list ((w0 :: wt : List Str).map .str)] ∧ d = kindsD w0 (w0 :: wt : List Str).length
theorem ok_line_kinds (T : Top fa fn K mg) (ex : Exs P w K) : CalOk P w K mg base CX0 1 "line_kinds" ["words"] (spF K f_line_kinds) := by
  obtain ⟨fd, F⟩ := T.c.def_ 5 (d := d_line_kinds) rfl
  refine cal_of F (T.glo 5) (ok_data F sc_line_kinds ?_ (fun cdv A outer s H E hr => ⟨_, (PSs.nox (pss_cons (ps_if (pt_cmpR (op_eqK (K := K) rfl hr.units) (pe_ix (ix_seqK (K := K) rfl) (pv 0) pe_int (fun _ _ => rfl)) pe_str (nomark _)) (pss_one (ps_ret (pe_op (op_addTK (K := K) rfl) (pe_tup (pa_cons pe_str pa_nil)) (pe_op (op_mulTK (K := K) rfl) (pe_tup (pa_cons pe_str (pa_cons pe_str pa_nil))) (pe_callB (call_max2A (by rfl)) (by rfl) (T.free 33) (by decide +kernel) (pa_cons pe_int (pa_cons (pe_op op_fdiv (pe_op op_sub (pe_callB (call_lenK (K := K) rfl) (by rfl) (T.free 24) (by decide +kernel) (pa_cons (pv 0) pa_nil)) pe_int) pe_int) pa_nil))))))) pss_nil) (pss_cons (ps_if (pt_cmpR (op_eqK (K := K) rfl hr.units) (pe_ix (ix_seqK (K := K) rfl) (pv 0) pe_int (fun _ _ => rfl)) pe_str (nomark _)) (pss_one (ps_ret (pe_op (op_mulTK (K := K) rfl) (pe_tup (pa_cons pe_str pa_nil)) (pe_callB (call_max2A (by rfl)) (by rfl) (T.free 33) (by decide +kernel) (pa_cons pe_int (pa_cons (pe_op op_sub (pe_callB (call_lenK (K := K) rfl) (by rfl) (T.free 24) (by decide +kernel) (pa_cons (pv 0) pa_nil)) pe_int) pa_nil)))))) pss_nil) (pss_one (ps_ret (pe_kget (K := K) rfl (ex_kd ex) (pe_globR (T.glo 32) rfl) (pe_ix (ix_seqK (K := K) rfl) (pv 0) pe_int (fun _ _ => rfl)) ⟨rfl, rfl, rfl, rfl⟩)))))), ?_⟩)) (fun _ _ _ _ _ _ us hl => match us, hl with | [_], _ => rfl)
  · rintro ds d ⟨w0, wt, h, rfl, rfl⟩; rfl
  · rintro ds d ⟨w0, wt, h, rfl, rfl⟩ R F D hD hN; walk_at "beg"
    have hx0 : atI ((w0 :: wt).map PyData.str) 0 = some (.str w0) := atI_nat' (by decide) rfl
    have hl : ((w0 :: wt).map PyData.str).length = (w0 :: wt).length := by rw [List.length_map]
    generalize hn : (w0 :: wt).length = n at *
    have hn1 : 1 ≤ n := by rw [← hn, List.length_cons]; omega
    generalize hws : (w0 :: wt).map PyData.str = ws at *
    refine r_seq (r_if (b := decide (w0 = Str.ofString "split")) (by walk_at "eb") (fun hb => ?_) (fun hb => ?_))
    · have hk := of_decide_eq_true hb
      have e0 : kindsD w0 n = .tuple ((Str.ofString "thing" :: (List.replicate (max 2 ((n - 2) / 2)) [Str.ofString "thing", Str.ofString "number"]).flatten).map .str) := by
        unfold kindsD kindsN; rw [if_pos hk]
      rw [e0] at hD
      have hmx : max (2 : Int) (((ws.length : Int) - 2) / 2) = ((max 2 ((n - 2) / 2) : Nat) : Int) := by omega
      have hm2 : (2 : Int) ≤ max (2 : Int) (((ws.length : Int) - 2) / 2) := by omega
      have hm3 : max (2 : Int) (((ws.length : Int) - 2) / 2) ≤ 1000 := by omega
      have hfl : (List.replicate (max (2 : Int) (((ws.length : Int) - 2) / 2)).toNat [PyData.str (Str.ofString "thing"), PyData.str (Str.ofString "number")]).flatten = ((List.replicate (max 2 ((n - 2) / 2)) [Str.ofString "thing", Str.ofString "number"]).flatten).map .str := by
        rw [hmx, Int.toNat_natCast, List.map_flatten, List.map_replicate]; rfl
      have hfn : ((List.replicate (max (2 : Int) (((ws.length : Int) - 2) / 2)).toNat [PyData.str (Str.ofString "thing"), PyData.str (Str.ofString "number")]).flatten).length ≤ 10000 := by
        rw [PyProof.Rows.lm_len_rep_flat]
        show _ * 2 ≤ 10000
        omega
      exact r_ret (EvE.is (ee_op (by walk_at "ev") (ee_op (by walk_at "ev") (by walk_at "ev") (r2_mulT (by simp) hm2 hm3 (by decide))) (r2_addT (by show 1 + _ ≤ _; omega))) (by rw [hfl]; rfl)) (hD _)
    · have hk := of_decide_eq_false hb
      refine r_next ?_
      dsimp only
      refine r_seq (r_if (b := decide (w0 = Str.ofString "join")) (by walk_at "eb") (fun hb => ?_) (fun hb => ?_))
      · have hk2 := of_decide_eq_true hb
        have e0 : kindsD w0 n = .tuple ((List.replicate (max 3 (n - 1)) (Str.ofString "thing")).map .str) := by
          unfold kindsD kindsN; rw [if_neg hk, if_pos hk2]
        rw [e0] at hD
        have hmx : max (3 : Int) ((ws.length : Int) - 1) = ((max 3 (n - 1) : Nat) : Int) := by omega
        have hm2 : (2 : Int) ≤ max (3 : Int) ((ws.length : Int) - 1) := by omega
        have hm3 : max (3 : Int) ((ws.length : Int) - 1) ≤ 1000 := by omega
        refine r_ret (EvE.is (ee_op (by walk_at "ev") (by walk_at "ev") (r2_mulT (by simp) hm2 hm3 (by decide))) ?_) (hD _)
        rw [hmx, Int.toNat_natCast, List.map_replicate]
        have : ∀ m (x : PyData), (List.replicate m [x]).flatten = List.replicate m x := fun m x => by
          induction m with
          | zero => rfl
          | succ m ih => rw [List.replicate_succ, List.flatten_cons, ih, List.replicate_succ]; rfl
        rw [this]
      · have hk2 := of_decide_eq_false hb
        refine r_next ?_
        dsimp only
        have e0 : kindsD w0 n = tabAt LL w0 := by
          unfold kindsD kindsN tabAt; rw [if_neg hk, if_neg hk2]
          cases LL.find? (fun r => r.1 == w0) <;> rfl
        rw [e0] at hD
        exact r_ret (ee_kget (by walk_at "ev") (ex_tab ex)) (hD _)
def f_read_line (ds : List PyData) (d : PyData) : Prop := ∃ s : Str, s.length ≤ 800 ∧ ds = [.str s] ∧ d = lineW (Txt.split s (sgn 32))
theorem ok_read_line (T : Top fa fn K mg) (c_read_words : CalOk P w K mg base CX0 4 "read_words" ["kinds", "words"] (spF K f_read_words)) (c_line_kinds : CalOk P w K mg base CX0 1 "line_kinds" ["words"] (spF K f_line_kinds)) : CalOk P w K mg base CX0 5 "read_line" ["line"] (spF K f_read_line) := by
  obtain ⟨fd, F⟩ := T.c.def_ 6 (d := d_read_line) rfl
  refine cal_of F (T.glo 6) (ok_data F sc_read_line ?_ (fun cdv A outer s H E hr => ⟨_, (PSs.nox (pss_cons (ps_set (i := 1) sc_read_line.nd rfl (by first | exact Or.inl rfl | exact Or.inr rfl) (pe_m1 PySem.F.slot_str_split PySem.F.type_str_split ml_split (pv 0) pe_str)) (pss_one (ps_ret (pe_callC c_read_words (hr.mono (by decide)) pass0 rfl (pa_cons (pe_callC c_line_kinds (hr.mono (by decide)) pass0 rfl (pa_cons (pv 1) pa_nil)) (pa_cons (pv 1) pa_nil))))))), ?_⟩)) (fun _ _ _ _ _ _ us hl => match us, hl with | [_], _ => rfl)
  · rintro ds d ⟨s, h, rfl, rfl⟩; rfl
  · rintro ds d ⟨s, h, rfl, rfl⟩ R F D hD hN; walk_at "beg"
    have hws : (Txt.split s (sgn 32)).length ≤ 900 := Nat.le_trans (split_le s (sgn 32)) (by omega)
    have hwl : ∀ x ∈ Txt.split s (sgn 32), x.length ≤ 100000 := fun x hx => Nat.le_trans (part_short hx) (by omega)
    have hne := split_ne s 32
    refine r_seq (r_asg (d := .list ((Txt.split s (sgn 32)).map .str)) (EvE.is (ee_split (a := s) (c := Str.ofString " ") (ee_var rfl) ee_str rfl (by omega)) (by rfl)) ?_)
    dsimp only
    generalize Txt.split s (sgn 32) = ws at *
    obtain ⟨w0, wt, rfl⟩ : ∃ w0 wt, ws = w0 :: wt := by
      cases ws with
      | nil => exact absurd rfl hne
      | cons a b => exact ⟨a, b, rfl⟩
    refine r_ret (ee_call (ea_cons (ee_call (ea_cons (ee_var rfl) ea_nil) ⟨w0, wt, hws, rfl, rfl⟩) (ea_cons (ee_var rfl) ea_nil)) ?_) (hD _)
    unfold lineW kindsD
    rw [show (w0 :: wt).headD (Str.ofString "") = w0 from rfl]
    cases q : kindsN w0 (w0 :: wt).length with
    | none => exact ⟨.none, [], w0 :: wt, by decide, by decide, by omega, hwl, rfl, .inl ⟨rfl, rfl⟩⟩
    | some ks => exact ⟨_, ks, w0 :: wt, kinds_len hws q, kinds_no q, by omega, hwl, rfl, .inr ⟨rfl, rfl⟩⟩
def f_write_words (ds : List PyData) (d : PyData) : Prop := ∃ vs : List PyData, vs.length ≤ 1000 ∧ (∀ x ∈ vs, Wr x) ∧ ds = [.tuple vs] ∧ d = .str (joinW (vs.map strD))
theorem ok_write_words (T : Top fa fn K mg) : CalOk P w K mg base CX0 1 "write_words" ["row"] (spF K f_write_words) := by
  obtain ⟨fd, F⟩ := T.c.def_ 7 (d := d_write_words) rfl
  refine cal_of F (T.glo 7) (ok_data F sc_write_words ?_ (fun cdv A outer s H E hr => ⟨_, (PSs.nox (pss_one (ps_ret (pe_m1 PySem.F.slot_str_join PySem.F.type_str_join (ml_join (K := K) rfl) pe_str (pe_lc (own := [("word", 1)]) rfl sc_write_words.nd (pi_tupK (K := K) rfl (pv 0)) (blkOk_by (own := [("word", 1)]) (N := N_write_words) (sc := defScope s_write_words) (by decide +kernel)) (fun _ _ _ _ _ => (pg_name (i := 1) sc_write_words.nd rfl (Or.inl rfl))) (fun _ _ _ _ _ => pts_nil) (fun _ _ _ _ _ => (pe_callTy call_strA (by rfl) (T.free 27) (by decide +kernel) (pa_cons (pv 1) pa_nil)))))))), ?_⟩)) (fun _ _ _ _ _ _ us hl => match us, hl with | [_], _ => rfl)
  · rintro ds d ⟨vs, h, hw, rfl, rfl⟩; rfl
  · rintro ds d ⟨vs, h, hw, rfl, rfl⟩ R F D hD hN; walk_at "beg"
    have hz : ((vs.map strD).map (·.length)).sum + (vs.map strD).length * (Str.ofString " ").length ≤ 16777216 := by
      have := sum_len (ws := vs.map strD) (fun x hx => by obtain ⟨d, hd, rfl⟩ := List.mem_map.mp hx; exact (hw d hd).len)
      rw [List.length_map] at this ⊢
      rw [show (Str.ofString " ").length = 1 from rfl]
      omega
    refine r_ret (ee_join (a := Str.ofString " ") (ws := vs.map strD) ee_str (EvE.is (ee_lcT' (ds := vs) (k := fun d => .str (strD d)) (ee_var rfl) (by omega) (fun x hx => ⟨_, tg_name, eb_yes, ?_⟩)) (by rw [List.map_map]; rfl)) hz) (hD _)
    rcases hw x hx with ⟨s, rfl, hs⟩ | ⟨i, rfl, h0, h1⟩
    · exact ee_cb (ea_cons (ee_var rfl) ea_nil) rc_strS
    · exact ee_cb (ea_cons (ee_var rfl) ea_nil) (rc_strI (num_log h0 h1))
def f_format_line (ds : List PyData) (d : PyData) : Prop := ∃ vs : List PyData, vs.length ≤ 1000 ∧ (∀ x ∈ vs, Wr x) ∧ ds = [.tuple vs] ∧ d = .str (joinW (vs.map strD))
theorem ok_format_line (T : Top fa fn K mg) (c_write_words : CalOk P w K mg base CX0 1 "write_words" ["row"] (spF K f_write_words)) : CalOk P w K mg base CX0 2 "format_line" ["row"] (spF K f_format_line) := by
  obtain ⟨fd, F⟩ := T.c.def_ 8 (d := d_format_line) rfl
  refine cal_of F (T.glo 8) (ok_data F sc_format_line ?_ (fun cdv A outer s H E hr => ⟨_, (PSs.nox (pss_one (ps_ret (pe_callC c_write_words (hr.mono (by decide)) pass0 rfl (pa_cons (pv 0) pa_nil))))), ?_⟩)) (fun _ _ _ _ _ _ us hl => match us, hl with | [_], _ => rfl)
  · rintro ds d ⟨vs, h, hw, rfl, rfl⟩; rfl
  · rintro ds d ⟨vs, h, hw, rfl, rfl⟩ R F D hD hN; walk_at "beg"
    exact r_ret (ee_call (ea_cons (ee_var rfl) ea_nil) ⟨vs, h, hw, rfl, rfl⟩) (hD _)
def f_parse_line (K : PySem.W.Frag) : SpR := fun sl os r os' => ∃ s : Str, s.length ≤ 800 ∧ sl = [.d (.str s)] ∧ os = [] ∧ os' = [] ∧ ((badLine s = true ∧ r = .errF (He.ga K "InvalidLine") [("line", .int 1)]) ∨ (badLine s = false ∧ r = .ret (lineW (Txt.split s (sgn 32)))))
theorem ok_parse_line (T : Top fa fn K mg) (x_InvalidLine : ExOk P w K mg base CX0 1 "InvalidLine" (He.ga K "InvalidLine") ["self", "line"] (spNum (He.ga K "InvalidLine") "line")) (c_read_line : CalOk P w K mg base CX0 5 "read_line" ["line"] (spF K f_read_line)) : CalOk P w K mg base (L2.CX P w) 6 "parse_line" ["line"] (spO K (f_parse_line K)) := by
  obtain ⟨fd, F⟩ := T.c.def_ 9 (d := d_parse_line) rfl
  refine cal_of F (T.glo 9) (ok_obj F sc_parse_line ?_ (fun cdv A outer s H E hr => ⟨_, (pss_cons (ps_set (i := 1) sc_parse_line.nd rfl (by first | exact Or.inl rfl | exact Or.inr rfl) (pe_callC c_read_line (hr.mono (by decide)) pass0 rfl (pa_cons (pv 0) pa_nil))) (pss_cons (ps_if (pt_cmp (pc_isN (pv 1)) rfl) (pss_one (ps_raise rfl (takes_of rfl rfl rfl rfl) (pmk_own x_InvalidLine (hr.mono (by decide)) pass0 rfl (pa_cons pe_int pa_nil)))) pss_nil) (pss_one (ps_ret (pv 1))))), ?_⟩)) (fun _ _ _ _ _ _ us hl => match us, hl with | [_], _ => rfl)
  · rintro sl os r os' ⟨s, h, rfl, rfl, rfl, _⟩; exact ⟨rfl, rfl⟩
  · rintro sl os r os' ⟨s, h, rfl, rfl, rfl, hr2⟩ vs R F D hv hD
    refine r_seq (r_asg (d := lineW (Txt.split s (sgn 32))) (ee_call (ea_cons (ee_var rfl) ea_nil) ⟨s, h, rfl, rfl⟩) ?_)
    dsimp only
    rcases hr2 with ⟨hn, rfl⟩ | ⟨hn, rfl⟩
    · refine r_seq (r_if (b := true) (EvB.is (eb_B (ee_isN (ee_var rfl))) hn) (fun _ => ?_) (fun h => nomatch h))
      exact r_raiseN ee_int (by decide) (by decide) (fun σ F2 H2 dd gd hd => hD _ rfl (fun _ h => h) σ F2 H2 dd gd hd)
    · refine r_seq (r_if (b := false) (EvB.is (eb_B (ee_isN (ee_var rfl))) hn) (fun h => nomatch h) (fun _ => ?_))
      refine r_next ?_
      dsimp only
      exact r_ret (ee_var rfl) (hD _ rfl (fun _ h => h)).1
def f_law_cell (ds : List PyData) (d : PyData) : Prop := ∃ (ns : List Int) (k : Int), ns.length ≤ 63 ∧ 0 ≤ k ∧ k ≤ 1000 ∧ ds = [.list (ns.map .int), .int k] ∧ d = .int (cellA ns k)
theorem ok_law_cell (T : Top fa fn K mg) : CalOk P w K mg base CX0 1 "_law_cell" ["script", "k"] (spF K f_law_cell) := by
  obtain ⟨fd, F⟩ := T.c.def_ 10 (d := d_law_cell) rfl
  refine cal_of F (T.glo 10) (ok_data F sc_law_cell ?_ (fun cdv A outer s H E hr => ⟨_, (PSs.nox (pss_cons (ps_if (pt_cmpR op_ltA (pv 1) (pe_callB (call_lenK (K := K) rfl) (by rfl) (T.free 24) (by decide +kernel) (pa_cons (pv 0) pa_nil)) (nomark _)) (pss_one (ps_ret (pe_callTy call_intA (by rfl) (T.free 28) (by decide +kernel) (pa_cons (pe_ix (ix_seqK (K := K) rfl) (pv 0) (pv 1) (fun _ _ => rfl)) pa_nil)))) pss_nil) (pss_one (ps_ret (pe_op op_mul pe_int (pv 1)))))), ?_⟩)) (fun _ _ _ _ _ _ us hl => match us, hl with | [_, _], _ => rfl)
  · rintro ds d ⟨ns, k, h, h0, h1, rfl, rfl⟩; rfl
  · rintro ds d ⟨ns, k, h, h0, h1, rfl, rfl⟩ R F D hD hN; walk_at "beg"
    refine r_seq (r_if (b := decide (k < ((ns.map PyData.int).length : Int))) (by walk_at "eb") (fun hb => ?_) fun hb => ?_)
    · have hb' := of_decide_eq_true hb
      rw [List.length_map] at hb'
      have hx : atI (ns.map PyData.int) k = some (.int (cellA ns k)) := atI_nat' h0 (by
        rw [List.getElem?_map, List.getElem?_eq_getElem (by omega)]
        unfold cellA
        rw [if_pos hb', List.getD_eq_getElem?_getD, List.getElem?_eq_getElem (by omega)]
        rfl)
      exact r_ret (by walk_at "ev") (hD _)
    · have hb' := of_decide_eq_false hb
      rw [List.length_map] at hb'
      refine r_next ?_
      dsimp only
      refine r_ret (EvE.is (by walk_at "ev") ?_) (hD _)
      unfold cellA
      rw [if_neg hb']
def f_law_office (ds : List PyData) (d : PyData) : Prop := ∃ c : Int, ds = [.int c] ∧ d = .str (officeOf c)
theorem ok_law_office (T : Top fa fn K mg) : CalOk P w K mg base CX0 1 "_law_office" ["cell"] (spF K f_law_office) := by
  obtain ⟨fd, F⟩ := T.c.def_ 11 (d := d_law_office) rfl
  refine cal_of F (T.glo 11) (ok_data F sc_law_office ?_ (fun cdv A outer s H E hr => ⟨_, (PSs.nox (pss_cons (ps_set (i := 1) sc_law_office.nd rfl (by first | exact Or.inl rfl | exact Or.inr rfl) pe_str) (pss_cons (ps_set (i := 2) sc_law_office.nd rfl (by first | exact Or.inl rfl | exact Or.inr rfl) (pe_callB call_absA (by rfl) (T.free 35) (by decide +kernel) (pa_cons (pv 0) pa_nil))) (pss_cons (ps_for PassesOwn.never rfl (pi_range1 (by rfl) (T.free 34) (pa_cons (pe_op (op_addK (K := K) rfl) pe_int (pe_op op_mod (pv 2) pe_int)) pa_nil)) (pg_name (i := 3) sc_law_office.nd rfl (by first | exact Or.inl rfl | exact Or.inr rfl)) (pss_cons (ps_set (i := 1) sc_law_office.nd rfl (by first | exact Or.inl rfl | exact Or.inr rfl) (pe_op (op_addK (K := K) rfl) (pv 1) (pe_ix (ix_seqK (K := K) rfl) pe_str (pe_op op_mod (pe_op op_fdiv (pv 2) pe_int) pe_int) (fun _ _ => rfl)))) (pss_one (ps_set (i := 2) sc_law_office.nd rfl (by first | exact Or.inl rfl | exact Or.inr rfl) (pe_op (op_addK (K := K) rfl) (pe_op op_fdiv (pv 2) pe_int) (pe_op op_mul pe_int (pv 3))))))) (pss_one (ps_ret (pv 1))))))), ?_⟩)) (fun _ _ _ _ _ _ us hl => match us, hl with | [_], _ => rfl)
  · rintro ds d ⟨c, rfl, rfl⟩; rfl
  · rintro ds d ⟨c, rfl, rfl⟩ R F D hD hN; walk_at "beg"
    refine r_seq (r_asg (by walk_at "ev") ?_)
    dsimp only
    refine r_seq (r_asg (by walk_at "ev") ?_)
    dsimp only
    refine r_seq (r_forR1 (n := 1 + (c.natAbs : Int) % 12) (by walk_at "ea") (by omega) (by omega) (fun i => [.d (.int c), .d (.str (offSt c i).1), .d (.int (offSt c i).2), .un]) (fun _ => []) ?h0 rfl (fun i hi => ⟨_, _, tg_name, ?hb⟩) ?hd)
    case h0 => exact LeS.refl _
    case hb =>
      dsimp only
      have hl := offSt_len c i
      have hx : atI (tl (Str.ofString "abcdefghijklmnopqrstuvwxyz")) ((offSt c i).2 / 12 % 26) = some (97 + ((offSt c i).2 / 12 % 26).toNat) := abc_at (by omega) (by omega)
      have h1 : (⟨#[97 + ((offSt c i).2 / 12 % 26).toNat]⟩ : Str).length = 1 := rfl
      refine r_seq (r_asg (by walk_at "ev") ?_)
      dsimp only
      refine r_asg (by walk_at "ev") ?_
      dsimp only
      walk_at "nx"
    case hd =>
      dsimp only
      exact r_ret (by walk_at "ev") (hD _)
def f_law_number (ds : List PyData) (d : PyData) : Prop := ∃ c : Int, ds = [.int c] ∧ d = .int (numberOf c)
theorem ok_law_number (T : Top fa fn K mg) : CalOk P w K mg base CX0 1 "_law_number" ["cell"] (spF K f_law_number) := by
  obtain ⟨fd, F⟩ := T.c.def_ 12 (d := d_law_number) rfl
  refine cal_of F (T.glo 12) (ok_data F sc_law_number ?_ (fun cdv A outer s H E hr => ⟨_, (PSs.nox (pss_one (ps_ret (pe_ix (ix_seqK (K := K) rfl) (pe_lst (pa_cons (pe_op (op_addK (K := K) rfl) pe_int (pe_op op_mod (pe_op op_fdiv (pv 0) pe_int) pe_int)) (pa_cons (pe_op (op_addK (K := K) rfl) pe_int (pe_op op_mod (pe_op op_fdiv (pv 0) pe_int) pe_int)) (pa_cons (pe_op op_sub pe_int (pe_op op_mod (pe_op op_fdiv (pv 0) pe_int) pe_int)) (pa_cons (pe_op (op_addK (K := K) rfl) pe_int (pe_op op_mod (pe_op op_fdiv (pv 0) pe_int) pe_int)) pa_nil))))) (pe_op op_mod (pv 0) pe_int) (fun _ _ => rfl))))), ?_⟩)) (fun _ _ _ _ _ _ us hl => match us, hl with | [_], _ => rfl)
  · rintro ds d ⟨c, rfl, rfl⟩; rfl
  · rintro ds d ⟨c, rfl, rfl⟩ R F D hD hN; walk_at "beg"
    have hx : atI [PyData.int (1 + c / 4 % 9), .int (1 + c / 4 % 1000000000), .int (1000000000 - c / 4 % 3), .int (1 + c / 4 % 200)] (c % 4) = some (.int (numberOf c)) := atI_nat' (by omega) (by
      unfold numberOf
      rcases (by omega : c % 4 = 0 ∨ c % 4 = 1 ∨ c % 4 = 2 ∨ c % 4 = 3) with e | e | e | e <;> rw [e] <;> rfl)
    exact r_ret (by walk_at "ev") (hD _)
def f_law_thing (ds : List PyData) (d : PyData) : Prop := ∃ c : Int, ds = [.int c] ∧ d = .str (thingS (officeOf (c / 5)) (numberOf (c / 3)))
theorem ok_law_thing (T : Top fa fn K mg) (c_law_office : CalOk P w K mg base CX0 1 "_law_office" ["cell"] (spF K f_law_office)) (c_law_number : CalOk P w K mg base CX0 1 "_law_number" ["cell"] (spF K f_law_number)) : CalOk P w K mg base CX0 2 "_law_thing" ["cell"] (spF K f_law_thing) := by
  obtain ⟨fd, F⟩ := T.c.def_ 13 (d := d_law_thing) rfl
  refine cal_of F (T.glo 13) (ok_data F sc_law_thing ?_ (fun cdv A outer s H E hr => ⟨_, (PSs.nox (pss_one (ps_ret (pe_op (op_addK (K := K) rfl) (pe_op (op_addK (K := K) rfl) (pe_callC c_law_office (hr.mono (by decide)) pass0 rfl (pa_cons (pe_op op_fdiv (pv 0) pe_int) pa_nil)) pe_str) (pe_callTy call_strA (by rfl) (T.free 27) (by decide +kernel) (pa_cons (pe_callC c_law_number (hr.mono (by decide)) pass0 rfl (pa_cons (pe_op op_fdiv (pv 0) pe_int) pa_nil)) pa_nil)))))), ?_⟩)) (fun _ _ _ _ _ _ us hl => match us, hl with | [_], _ => rfl)
  · rintro ds d ⟨c, rfl, rfl⟩; rfl
  · rintro ds d ⟨c, rfl, rfl⟩ R F D hD hN; walk_at "beg"
    have h1 := officeOf_len (c / 5)
    have hn := numberOf_in (c / 3)
    have h2 := num_len (n := numberOf (c / 3)) (by omega) hn.2
    have h3 := num_log (n := numberOf (c / 3)) (by omega) hn.2
    have h4 : (Str.ofString "-").length = 1 := rfl
    exact r_ret (EvE.is (by walk_at "ev") (by rfl)) (hD _)
def f_law_values (ds : List PyData) (d : PyData) : Prop := ∃ (ns : List Int) (sh : Str) (a : Int), ns.length ≤ 63 ∧ sh.length ≤ 100 ∧ 0 ≤ a ∧ a ≤ 500 ∧ ds = [.str sh, .list (ns.map .int), .int a] ∧ d = .list ((List.range sh.length).map (valA ns sh a))
theorem ok_law_values (T : Top fa fn K mg) (c_law_number : CalOk P w K mg base CX0 1 "_law_number" ["cell"] (spF K f_law_number)) (c_law_office : CalOk P w K mg base CX0 1 "_law_office" ["cell"] (spF K f_law_office)) (c_law_thing : CalOk P w K mg base CX0 2 "_law_thing" ["cell"] (spF K f_law_thing)) (c_law_cell : CalOk P w K mg base CX0 1 "_law_cell" ["script", "k"] (spF K f_law_cell)) : CalOk P w K mg base CX0 3 "_law_values" ["shape", "script", "at"] (spF K f_law_values) := by
  obtain ⟨fd, F⟩ := T.c.def_ 14 (d := d_law_values) rfl
  refine cal_of F (T.glo 14) (ok_data F sc_law_values ?_ (fun cdv A outer s H E hr => ⟨_, (PSs.nox (pss_cons (ps_set (i := 3) sc_law_values.nd rfl (by first | exact Or.inl rfl | exact Or.inr rfl) (pe_lst pa_nil)) (pss_cons (ps_for PassesOwn.never rfl (pi_range1 (by rfl) (T.free 34) (pa_cons (pe_callB (call_lenK (K := K) rfl) (by rfl) (T.free 24) (by decide +kernel) (pa_cons (pv 0) pa_nil)) pa_nil)) (pg_name (i := 4) sc_law_values.nd rfl (by first | exact Or.inl rfl | exact Or.inr rfl)) (pss_cons (ps_set (i := 5) sc_law_values.nd rfl (by first | exact Or.inl rfl | exact Or.inr rfl) (pe_callC c_law_cell (hr.mono (by decide)) pass0 rfl (pa_cons (pv 1) (pa_cons (pe_op (op_addK (K := K) rfl) (pv 2) (pv 4)) pa_nil)))) (pss_one (ps_if (pt_cmpR (op_eqK (K := K) rfl hr.units) (pe_ix (ix_seqK (K := K) rfl) (pv 0) (pv 4) (fun _ _ => rfl)) pe_str (nomark _)) (pss_one (ps_expr (pe_bmK (K := K) rfl PySem.F.plainAttrs_list PySem.F.slot_list_append PySem.F.type_list_append mt_append (pv 3) (pa_cons (pe_callC c_law_number (hr.mono (by decide)) pass0 rfl (pa_cons (pv 5) pa_nil)) pa_nil)))) (pss_one (ps_if (pt_cmpR (op_eqK (K := K) rfl hr.units) (pe_ix (ix_seqK (K := K) rfl) (pv 0) (pv 4) (fun _ _ => rfl)) pe_str (nomark _)) (pss_one (ps_expr (pe_bmK (K := K) rfl PySem.F.plainAttrs_list PySem.F.slot_list_append PySem.F.type_list_append mt_append (pv 3) (pa_cons (pe_callC c_law_office (hr.mono (by decide)) pass0 rfl (pa_cons (pv 5) pa_nil)) pa_nil)))) (pss_one (ps_expr (pe_bmK (K := K) rfl PySem.F.plainAttrs_list PySem.F.slot_list_append PySem.F.type_list_append mt_append (pv 3) (pa_cons (pe_callC c_law_thing (hr.mono (by decide)) pass0 rfl (pa_cons (pv 5) pa_nil)) pa_nil)))))))))) (pss_one (ps_ret (pv 3)))))), ?_⟩)) (fun _ _ _ _ _ _ us hl => match us, hl with | [_, _, _], _ => rfl)
  · rintro ds d ⟨ns, sh, a, _, _, _, _, rfl, rfl⟩; rfl
  · rintro ds d ⟨ns, sh, a, hns, hsh, ha0, ha1, rfl, rfl⟩ R F D hD hN; walk_at "beg"
    refine r_seq (r_newL (ds := []) (by walk_at "ea") (by simp) ?_)
    dsimp only
    refine r_seq ?_
    refine r_forR1 (n := (sh.length : Int)) (by walk_at "ea") (by omega) (by omega) (fun i => [.d (.str sh), .d (.list (ns.map .int)), .d (.int a), .o 0, .un, .un]) (fun i => [Ow.lst K ((List.range i).map (valA ns sh a))]) ?h0 ?hO (fun i hi => ⟨_, _, tg_name, ?hb⟩) ?hd
    case h0 => exact LeS.refl _
    case hO => rfl
    case hb =>
      have hi' : i < sh.length := by omega
      have hx : atI (tl sh) (i : Int) = some ((tl sh).getD i 0) := atI_nat' (by omega) (by
        rw [Int.toNat_natCast, List.getD_eq_getElem?_getD, List.getElem?_eq_getElem (by rw [← len_tl]; exact hi')]; rfl)
      have hnx : (List.range (i + 1)).map (valA ns sh a) = (List.range i).map (valA ns sh a) ++ [valA ns sh a i] := by
        rw [List.range_succ, List.map_append]; rfl
      have hln : ((List.range i).map (valA ns sh a)).length < 100000 := by
        rw [List.length_map, List.length_range]; omega
      refine r_seq (r_asg (by walk_at "ev") ?_)
      dsimp only
      rw [hnx]
      refine r_if (b := decide ((tl sh).getD i 0 = 110)) (EvB.is (by walk_at "eb") (sgn_is _ 110 (Str.ofString "n") rfl)) (fun hb => ?_) (fun hb => ?_)
      · have hb' := of_decide_eq_true hb
        refine r_app (i := 3) (j := 0) (ds := _) (d := valA ns sh a i) rfl rfl (EvE.is (by walk_at "ev") (by unfold valA; rw [if_pos hb'])) hln ?_
        walk_at "nx"
      · have hb' := of_decide_eq_false hb
        refine r_if (b := decide ((tl sh).getD i 0 = 111)) (EvB.is (by walk_at "eb") (sgn_is _ 111 (Str.ofString "o") rfl)) (fun hb => ?_) (fun hb => ?_)
        · have hb2 := of_decide_eq_true hb
          refine r_app (i := 3) (j := 0) (ds := _) (d := valA ns sh a i) rfl rfl (EvE.is (by walk_at "ev") (by unfold valA; rw [if_neg hb', if_pos hb2])) hln ?_
          walk_at "nx"
        · have hb2 := of_decide_eq_false hb
          refine r_app (i := 3) (j := 0) (ds := _) (d := valA ns sh a i) rfl rfl (EvE.is (by walk_at "ev") (by unfold valA; rw [if_neg hb', if_neg hb2])) hln ?_
          walk_at "nx"
    case hd =>
      dsimp only
      refine r_frz (j := 0) rfl ?_
      exact r_ret (EvE.is (ee_var rfl) (by rw [Int.toNat_natCast])) (hD _)
def f_law_shape (ds : List PyData) (d : PyData) : Prop := ∃ c : Int, ds = [.int c] ∧ d = .list [.str (shpF (shpI c)).1, .str (shpF (shpI c)).2]
theorem ok_law_shape (T : Top fa fn K mg) : CalOk P w K mg base CX0 1 "_law_shape" ["cell"] (spF K f_law_shape) := by
  obtain ⟨fd, F⟩ := T.c.def_ 15 (d := d_law_shape) rfl
  refine cal_of F (T.glo 15) (ok_data F sc_law_shape ?_ (fun cdv A outer s H E hr => ⟨_, (PSs.nox (pss_cons (ps_set (i := 1) sc_law_shape.nd rfl (by first | exact Or.inl rfl | exact Or.inr rfl) (pe_lst (pa_cons pe_str (pa_cons pe_str (pa_cons pe_str (pa_cons pe_str (pa_cons pe_str (pa_cons pe_str (pa_cons pe_str (pa_cons pe_str (pa_cons pe_str pa_nil))))))))))) (pss_cons (ps_set (i := 1) sc_law_shape.nd rfl (by first | exact Or.inl rfl | exact Or.inr rfl) (pe_op (op_addK (K := K) rfl) (pv 1) (pe_lst (pa_cons pe_str (pa_cons (pe_op (op_addK (K := K) rfl) (pe_op (op_addK (K := K) rfl) pe_str pe_str) (pe_op op_mulS pe_str (pe_op (op_addK (K := K) rfl) pe_int (pe_op op_mod (pe_op op_fdiv (pv 0) pe_int) pe_int)))) (pa_cons (pe_op (op_addK (K := K) rfl) pe_str (pe_op op_mulS pe_str (pe_op (op_addK (K := K) rfl) pe_int (pe_op op_mod (pe_op op_fdiv (pv 0) pe_int) pe_int)))) pa_nil)))))) (pss_one (ps_ret (pe_m1 PySem.F.slot_str_split PySem.F.type_str_split ml_split (pe_ix (ix_seqK (K := K) rfl) (pv 1) (pe_op op_mod (pv 0) pe_int) (fun _ _ => rfl)) pe_str)))))), ?_⟩)) (fun _ _ _ _ _ _ us hl => match us, hl with | [_], _ => rfl)
  · rintro ds d ⟨c, rfl, rfl⟩; rfl
  · rintro ds d ⟨c, rfl, rfl⟩ R F D hD hN; walk_at "beg"
    have l1 : (Str.ofString "in").length = 2 := rfl
    have l2 : (Str.ofString "i").length = 1 := rfl
    have l3 : (Str.ofString "split ").length = 6 := rfl
    have l4 : (Str.ofString "join ").length = 5 := rfl
    have lr1 : (repS (Str.ofString "in") (2 + c / 12 % 4).toNat).length ≤ 20 := by
      rw [len_tl, repS_tl, PyProof.Rows.lm_len_rep_flat, ← len_tl, l1]; omega
    have lr2 : (repS (Str.ofString "i") (3 + c / 12 % 5).toNat).length ≤ 20 := by
      rw [len_tl, repS_tl, PyProof.Rows.lm_len_rep_flat, ← len_tl, l2]; omega
    refine r_seq (r_asg (by walk_at "ev") ?_)
    dsimp only
    refine r_seq (r_asg (by walk_at "ev") ?_)
    dsimp only
    have hsk := shpF_ok c
    have hx : atI ([PyData.str "register in", .str "give ino", .str "got ionno", .str "use i", .str "recall i", .str "notice io", .str "receipt in", .str "noted io", .str "pay ion"] ++ [.str "paid in", .str (Str.ofString "split " ++ Str.ofString "i" ++ repS (Str.ofString "in") (2 + c / 12 % 4).toNat), .str (Str.ofString "join " ++ repS (Str.ofString "i") (3 + c / 12 % 5).toNat)]) (c % 12) = some (.str ((shpF (shpI c)).1 ++ sgn 32 ++ (shpF (shpI c)).2)) := by
      refine atI_nat' (by omega) ?_
      unfold shpI
      rcases (by omega : c % 12 = 0 ∨ c % 12 = 1 ∨ c % 12 = 2 ∨ c % 12 = 3 ∨ c % 12 = 4 ∨ c % 12 = 5 ∨ c % 12 = 6 ∨ c % 12 = 7 ∨ c % 12 = 8 ∨ c % 12 = 9 ∨ c % 12 = 10 ∨ c % 12 = 11) with e | e | e | e | e | e | e | e | e | e | e | e <;> rw [e]
      · rfl
      · rfl
      · rfl
      · rfl
      · rfl
      · rfl
      · rfl
      · rfl
      · rfl
      · rfl
      · rcases (by omega : c / 12 % 4 = 0 ∨ c / 12 % 4 = 1 ∨ c / 12 % 4 = 2 ∨ c / 12 % 4 = 3) with q | q | q | q <;> rw [q] <;> rfl
      · rcases (by omega : c / 12 % 5 = 0 ∨ c / 12 % 5 = 1 ∨ c / 12 % 5 = 2 ∨ c / 12 % 5 = 3 ∨ c / 12 % 5 = 4) with q | q | q | q | q <;> rw [q] <;> rfl
    have hl : ((shpF (shpI c)).1 ++ sgn 32 ++ (shpF (shpI c)).2).length ≤ 1000000 := by
      rw [str_len_app, str_len_app, show (sgn 32).length = 1 from rfl]
      have := hsk.wl; have := hsk.s11; omega
    refine r_ret (EvE.is (ee_split (c := Str.ofString " ") (by walk_at "ev") ee_str rfl hl) ?_) (hD _)
    rw [show Str.ofString " " = sgn 32 from rfl, show (shpF (shpI c)).1 ++ sgn 32 ++ (shpF (shpI c)).2 = Str.join (sgn 32) [(shpF (shpI c)).1, (shpF (shpI c)).2] from rfl, split_join (by simp) (fun w hw => by
      rcases List.mem_cons.mp hw with z | z
      · rw [z]; exact hsk.w32
      · rw [List.mem_singleton.mp z]; exact hsk.s32)]
    rfl
def f_law_row (ds : List PyData) (d : PyData) : Prop := ∃ (ns : List Int) (a : Int), ns.length ≤ 63 ∧ 0 ≤ a ∧ a ≤ 400 ∧ ds = [.list (ns.map .int), .int a] ∧ d = .tuple (rowA ns a)
theorem ok_law_row (T : Top fa fn K mg) (c_law_values : CalOk P w K mg base CX0 3 "_law_values" ["shape", "script", "at"] (spF K f_law_values)) (c_law_shape : CalOk P w K mg base CX0 1 "_law_shape" ["cell"] (spF K f_law_shape)) (c_law_cell : CalOk P w K mg base CX0 1 "_law_cell" ["script", "k"] (spF K f_law_cell)) : CalOk P w K mg base CX0 4 "_law_row" ["script", "at"] (spF K f_law_row) := by
  obtain ⟨fd, F⟩ := T.c.def_ 16 (d := d_law_row) rfl
  refine cal_of F (T.glo 16) (ok_data F sc_law_row ?_ (fun cdv A outer s H E hr => ⟨_, (PSs.nox (pss_cons (ps_asg (pe_callC c_law_shape (hr.mono (by decide)) pass0 rfl (pa_cons (pe_callC c_law_cell (hr.mono (by decide)) pass0 rfl (pa_cons (pv 0) (pa_cons (pv 1) pa_nil))) pa_nil)) (pg_unlK (K := K) rfl (by rfl) (pgs_cons (pg_name (i := 2) sc_law_row.nd rfl (by first | exact Or.inl rfl | exact Or.inr rfl)) (pgs_cons (pg_name (i := 3) sc_law_row.nd rfl (by first | exact Or.inl rfl | exact Or.inr rfl)) pgs_nil)))) (pss_one (ps_ret (pe_callTy (call_tupK (K := K) rfl) (by rfl) (T.free 30) (by decide +kernel) (pa_cons (pe_op (op_addK (K := K) rfl) (pe_lst (pa_cons (pv 2) pa_nil)) (pe_callC c_law_values (hr.mono (by decide)) pass0 rfl (pa_cons (pv 3) (pa_cons (pv 0) (pa_cons (pe_op (op_addK (K := K) rfl) (pv 1) pe_int) pa_nil))))) pa_nil)))))), ?_⟩)) (fun _ _ _ _ _ _ us hl => match us, hl with | [_, _], _ => rfl)
  · rintro ds d ⟨ns, a, _, _, _, rfl, rfl⟩; rfl
  · rintro ds d ⟨ns, a, hns, h0, h1, rfl, rfl⟩ R F D hD hN; walk_at "beg"
    have hs := shpF_ok (cellA ns a)
    have h11 := hs.s11
    refine r_seq (r_asgG (d := .list [.str (shpF (shpI (cellA ns a))).1, .str (shpF (shpI (cellA ns a))).2]) (by walk_at "ev") (tg_unl (tg_cons tg_name (tg_cons tg_name tg_nil)) rfl) ?_)
    dsimp only
    exact r_ret (EvE.is (ee_cb (ea_cons (ee_op (ee_lst (ea_cons (ee_var rfl) ea_nil) (Nat.le_of_ble_eq_true rfl)) (ee_call (by walk_at "ea") ⟨ns, (shpF (shpI (cellA ns a))).2, a + 1, by omega, by omega, by omega, by omega, rfl, rfl⟩) (r2_addL (by rw [List.length_map, List.length_range]; show 1 + _ ≤ _; omega))) ea_nil) rc_tupL) (by rfl)) (hD _)
def Sc (x : PyData) : Prop := (∃ s : Str, x = .str s) ∨ ∃ i : Int, x = .int i
def f_law_is_same (ds : List PyData) (d : PyData) : Prop := ∃ vs : List PyData, vs.length ≤ 100 ∧ (∀ x ∈ vs, Sc x) ∧ ds = [.tuple vs, .tuple vs] ∧ d = .bool true
theorem ok_law_is_same (T : Top fa fn K mg) : CalOk P w K mg base CX0 1 "_law_is_same" ["actual", "row"] (spF K f_law_is_same) := by
  obtain ⟨fd, F⟩ := T.c.def_ 17 (d := d_law_is_same) rfl
  refine cal_of F (T.glo 17) (ok_data F sc_law_is_same ?_ (fun cdv A outer s H E hr => ⟨_, (PSs.nox (pss_cons (ps_if (PW.pt (pw_or (pt_not (pt_val (pe_callB (call_isiK (K := K) rfl) (by rfl) (T.free 26) (by decide +kernel) (pa_cons (pv 0) (pa_cons (pe_bltn (v := .ty "tuple") rfl (T.free 30) (by decide +kernel) rfl) pa_nil))))) (pw_or1 (pt_cmpR (op_neK (K := K) rfl hr.units) (pe_callB (call_lenK (K := K) rfl) (by rfl) (T.free 24) (by decide +kernel) (pa_cons (pv 0) pa_nil)) (pe_callB (call_lenK (K := K) rfl) (by rfl) (T.free 24) (by decide +kernel) (pa_cons (pv 1) pa_nil)) (nomark _))))) (pss_one (ps_ret pe_bl)) pss_nil) (pss_cons (ps_for PassesOwn.never rfl (pi_range1 (by rfl) (T.free 34) (pa_cons (pe_callB (call_lenK (K := K) rfl) (by rfl) (T.free 24) (by decide +kernel) (pa_cons (pv 1) pa_nil)) pa_nil)) (pg_name (i := 2) sc_law_is_same.nd rfl (by first | exact Or.inl rfl | exact Or.inr rfl)) (pss_one (ps_if (PW.pt (pw_or (pt_val (pe_callB (call_isiK (K := K) rfl) (by rfl) (T.free 26) (by decide +kernel) (pa_cons (pe_ix (ix_seqK (K := K) rfl) (pv 0) (pv 2) (fun _ _ => rfl)) (pa_cons (pe_bltn (v := .ty "bool") rfl (T.free 36) (by decide +kernel) rfl) pa_nil)))) (pw_or1 (pt_cmpR (op_neK (K := K) rfl hr.units) (pe_ix (ix_seqK (K := K) rfl) (pv 0) (pv 2) (fun _ _ => rfl)) (pe_ix (ix_seqK (K := K) rfl) (pv 1) (pv 2) (fun _ _ => rfl)) (nomark _))))) (pss_one (ps_ret pe_bl)) pss_nil))) (pss_one (ps_ret pe_bl))))), ?_⟩)) (fun _ _ _ _ _ _ us hl => match us, hl with | [_, _], _ => rfl)
  · rintro ds d ⟨vs, _, _, rfl, rfl⟩; rfl
  · rintro ds d ⟨vs, hl, hs, rfl, rfl⟩ R F D hD hN; walk_at "beg"
    refine r_seq (r_if (b := false) (EvB.is (by walk_at "eb") (by simp)) (fun h => nomatch h) (fun _ => ?_))
    refine r_next ?_
    dsimp only
    refine r_seq ?_
    refine r_forR1 (n := (vs.length : Int)) (by walk_at "ea") (by omega) (by omega) (fun i => [.d (.tuple vs), .d (.tuple vs), .un]) (fun _ => []) ?h0 rfl (fun i hi => ⟨_, _, tg_name, ?hb⟩) ?hd
    case h0 => exact LeS.refl _
    case hb =>
      have hi' : i < vs.length := by omega
      have hx : atI vs (i : Int) = some vs[i] := atI_nat' (by omega) (by rw [Int.toNat_natCast, List.getElem?_eq_getElem hi'])
      dsimp only
      rcases hs vs[i] (List.getElem_mem hi') with ⟨s, e⟩ | ⟨z, e⟩
      · rw [e] at hx
        refine r_if (b := false) (EvB.is (eb_or (a := false) (c := false) (eb_test (ee_isi (T := "bool") (b := false) (ee_op (ee_var rfl) (ee_var rfl) (r2_ixT hx)) ht_c kit_strB)) (fun _ => EvB.is (eb_test (ee_op (ee_op (ee_var rfl) (ee_var rfl) (r2_ixT hx)) (ee_op (ee_var rfl) (ee_var rfl) (r2_ixT hx)) r2_neS)) (by simp))) rfl) (fun h => nomatch h) (fun _ => ?_)
        walk_at "nx"
      · rw [e] at hx
        refine r_if (b := false) (EvB.is (eb_or (a := false) (c := false) (eb_test (ee_isi (T := "bool") (b := false) (ee_op (ee_var rfl) (ee_var rfl) (r2_ixT hx)) ht_c kit_intB)) (fun _ => EvB.is (eb_test (ee_op (ee_op (ee_var rfl) (ee_var rfl) (r2_ixT hx)) (ee_op (ee_var rfl) (ee_var rfl) (r2_ixT hx)) r2_neI)) (by simp))) rfl) (fun h => nomatch h) (fun _ => ?_)
        walk_at "nx"
    case hd =>
      dsimp only
      exact r_ret ee_bl (hD _)
def f_law_raises (ds : List PyData) (d : PyData) : Prop := ∃ s : Str, s.length ≤ 800 ∧ ds = [.str s] ∧ d = .bool (badLine s)
theorem ok_law_raises (T : Top fa fn K mg) (ex : Exs P w K) (c_parse_line : CalOk P w K mg base (L2.CX P w) 6 "parse_line" ["line"] (spO K (f_parse_line K))) : CalOk P w K mg base CX0 7 "_law_raises" ["line"] (spF K f_law_raises) := by
  obtain ⟨fd, F⟩ := T.c.def_ 18 (d := d_law_raises) rfl
  refine cal_of F (T.glo 18) (ok_data F sc_law_raises ?_ (fun cdv A outer s H E hr => ⟨_, (pss_cons (ps_try_as (i := 1) (Wout := fun _ _ _ _ => False) rfl rfl sc_law_raises.nd rfl rfl ⟨rfl, by decide, Or.inl (T.glo 22)⟩ takes0 (fun W pn xe tk own => (pss_one (ps_expr (pe_callE c_parse_line (hr.mono (by decide)) (fun σ => passAt tk σ) rfl (pa_cons (pv 0) pa_nil))))) (fun a oe cls d pn hz hf => (pss_one (ps_ret (pe_and (pe_callB (call_isXd (K := K) rfl (ex_c_InvalidLine ex) hz hf) (by rfl) (T.free 26) (by decide +kernel) (pa_cons (pv 1) (pa_cons (pe_globR (T.glo 37) rfl) pa_nil))) (pe_one (pe_cmpR (op_eqK (K := K) rfl hr.units) (pe_xfK (K := K) rfl (ex_x_InvalidLine ex) (ex_f_InvalidLine_line ex) hz hf (pv 1)) pe_int (nomark _)))))))) (pss_one (ps_ret pe_bl))), ?_⟩)) (fun _ _ _ _ _ _ us hl => match us, hl with | [_], _ => rfl)
  · rintro ds d ⟨s, _, rfl, rfl⟩; rfl
  · rintro ds d ⟨s, hs, rfl, rfl⟩ R F D hD hN; walk_at "beg"
    have hx := T.exm 38
    have hk1 := ex_k1 ex
    refine r_seq ?_
    cases hb : badLine s with
    | true =>
      rw [hb] at hD
      exact r_dropErr (cx_errF [.d (.str s)] [] [] [] (sa_cons (sv_d (ee_var rfl)) sa_nil) ⟨s, hs, rfl, rfl, rfl, .inl ⟨hb, rfl⟩⟩ (fun σ F2 H2 dd gd hd => exc_isFld gd hd (Nat.le_of_ble_eq_true rfl) hx hk1 (by decide) (hD _)))
    | false =>
      rw [hb] at hD
      refine r_dropX (x_callS [.d (.str s)] [] [] [] (sa_cons (sv_d (ee_var rfl)) sa_nil) ⟨s, hs, rfl, rfl, rfl, .inr ⟨hb, rfl⟩⟩) ?_
      exact r_ret ee_bl (hD _)
def f_law_bad_words (ds : List PyData) (d : PyData) : Prop := ∃ (c : Nat) (w : Str), w.length ≤ 100 ∧ ds = [.str (sgn c), .str w] ∧ d = .list ((badW10 c w).map .str)
theorem ok_law_bad_words (T : Top fa fn K mg) : CalOk P w K mg base CX0 1 "_law_bad_words" ["kind", "word"] (spF K f_law_bad_words) := by
  obtain ⟨fd, F⟩ := T.c.def_ 19 (d := d_law_bad_words) rfl
  refine cal_of F (T.glo 19) (ok_data F sc_law_bad_words ?_ (fun cdv A outer s H E hr => ⟨_, (PSs.nox (pss_cons (ps_if (pt_cmpR (op_eqK (K := K) rfl hr.units) (pv 0) pe_str (nomark _)) (pss_one (ps_ret (pe_lst (pa_cons pe_str (pa_cons pe_str (pa_cons pe_str (pa_cons (pe_op (op_addK (K := K) rfl) pe_str (pv 1)) (pa_cons (pe_op (op_addK (K := K) rfl) pe_str (pv 1)) (pa_cons pe_str (pa_cons pe_str (pa_cons pe_str (pa_cons (pe_op (op_addK (K := K) rfl) (pv 1) pe_str) pa_nil)))))))))))) pss_nil) (pss_cons (ps_if (pt_cmpR (op_eqK (K := K) rfl hr.units) (pv 0) pe_str (nomark _)) (pss_one (ps_ret (pe_lst (pa_cons pe_str (pa_cons pe_str (pa_cons pe_str (pa_cons pe_str (pa_cons pe_str (pa_cons (pe_op (op_addK (K := K) rfl) (pv 1) pe_str) (pa_cons pe_str (pa_cons pe_str pa_nil))))))))))) pss_nil) (pss_one (ps_ret (pe_lst (pa_cons pe_str (pa_cons pe_str (pa_cons pe_str (pa_cons pe_str (pa_cons pe_str (pa_cons pe_str (pa_cons pe_str (pa_cons pe_str (pa_cons pe_str (pa_cons pe_str (pa_cons pe_str (pa_cons pe_str pa_nil)))))))))))))))))), ?_⟩)) (fun _ _ _ _ _ _ us hl => match us, hl with | [_, _], _ => rfl)
  · rintro ds d ⟨c, w, _, rfl, rfl⟩; rfl
  · rintro ds d ⟨c, w, hw, rfl, rfl⟩ R F D hD hN; walk_at "beg"
    have l1 : (Str.ofString "0").length = 1 := rfl
    have l2 : (Str.ofString "+").length = 1 := rfl
    have l3 : (Str.ofString " ").length = 1 := rfl
    have l4 : (Str.ofString "-").length = 1 := rfl
    refine r_seq (r_if (b := decide (c = 110)) (EvB.is (by walk_at "eb") (sgn_is _ 110 (Str.ofString "n") rfl)) (fun hb => ?_) (fun hb => ?_))
    · exact r_ret (EvE.is (by walk_at "ev") (by unfold badW10; rw [if_pos (of_decide_eq_true hb)]; rfl)) (hD _)
    · refine r_next ?_
      dsimp only
      refine r_seq (r_if (b := decide (c = 111)) (EvB.is (by walk_at "eb") (sgn_is _ 111 (Str.ofString "o") rfl)) (fun hb2 => ?_) (fun hb2 => ?_))
      · exact r_ret (EvE.is (by walk_at "ev") (by unfold badW10; rw [if_neg (of_decide_eq_false hb), if_pos (of_decide_eq_true hb2)]; rfl)) (hD _)
      · refine r_next ?_
        dsimp only
        exact r_ret (EvE.is (by walk_at "ev") (by unfold badW10; rw [if_neg (of_decide_eq_false hb), if_neg (of_decide_eq_false hb2)]; rfl)) (hD _)
def f_law_spoilt (ds : List PyData) (d : PyData) : Prop := ∃ (ns : List Int) (c : Int) (p : Nat) (w : Str), c % ((shA ns 1).length : Int) = (p : Int) ∧ (wordsA ns 1)[p + 1]? = some w ∧ ds = [.list ((wordsA ns 1).map .str), .str (shA ns 1), .int c] ∧ d = .list ((baseA ns 1 ++ (badW10 ((tl (shA ns 1)).getD p 0) w).map (putA ns 1 p)).map .str)
theorem ok_law_spoilt (T : Top fa fn K mg) (c_law_bad_words : CalOk P w K mg base CX0 1 "_law_bad_words" ["kind", "word"] (spF K f_law_bad_words)) : CalOk P w K mg base CX0 2 "_law_spoilt" ["words", "shape", "cell"] (spF K f_law_spoilt) := by
  obtain ⟨fd, F⟩ := T.c.def_ 20 (d := d_law_spoilt) rfl
  refine cal_of F (T.glo 20) (ok_data F sc_law_spoilt ?_ (fun cdv A outer s H E hr => ⟨_, (PSs.nox (pss_cons (ps_set (i := 3) sc_law_spoilt.nd rfl (by first | exact Or.inl rfl | exact Or.inr rfl) (pe_m1 PySem.F.slot_str_join PySem.F.type_str_join (ml_join (K := K) rfl) pe_str (pv 0))) (pss_cons (ps_set (i := 4) sc_law_spoilt.nd rfl (by first | exact Or.inl rfl | exact Or.inr rfl) (pe_lst (pa_consN (pen_opS (op_addK (K := K) rfl) (pv 3)) (pat_cons (pet_of (pe_op (op_addK (K := K) rfl) pe_str (pv 3))) (pat_cons (pet_of (pe_op (op_addK (K := K) rfl) (pv 3) pe_str)) (pat_cons (pet_of (pe_op (op_addK (K := K) rfl) (pv 3) pe_str)) (pat_cons (pet_rep1 (pv 3)) (pat_cons (pet_of (pe_op (op_addK (K := K) rfl) pe_str (pv 3))) (pat_cons (pet_of (pe_ix (ix_seqK (K := K) rfl) (pv 0) pe_int (fun _ _ => rfl))) (pat_cons (pet_of (pe_op (op_addK (K := K) rfl) (pv 3) pe_str)) pat_nil)))))))))) (pss_cons (ps_expr (pe_bmK (K := K) rfl PySem.F.plainAttrs_list PySem.F.slot_list_append PySem.F.type_list_append mt_append (pv 4) (pa_cons (pe_m1 PySem.F.slot_str_join PySem.F.type_str_join (ml_join (K := K) rfl) pe_str (pe_op (op_addK (K := K) rfl) (pe_lst (pa_cons (pe_op (op_addK (K := K) rfl) (pe_ix (ix_seqK (K := K) rfl) (pv 0) pe_int (fun _ _ => rfl)) pe_str) pa_nil)) (pe_slice (sl_anyK (K := K) rfl) (pv 0) (po_some pe_int) po_none))) pa_nil))) (pss_cons (ps_expr (pe_bmK (K := K) rfl PySem.F.plainAttrs_list PySem.F.slot_list_append PySem.F.type_list_append mt_append (pv 4) (pa_cons (pe_m1 PySem.F.slot_str_join PySem.F.type_str_join (ml_join (K := K) rfl) pe_str (pe_slice (sl_anyK (K := K) rfl) (pv 0) po_none (po_some (pe_op op_sub (pe_callB (call_lenK (K := K) rfl) (by rfl) (T.free 24) (by decide +kernel) (pa_cons (pv 0) pa_nil)) pe_int)))) pa_nil))) (pss_cons (ps_set (i := 5) sc_law_spoilt.nd rfl (by first | exact Or.inl rfl | exact Or.inr rfl) (pe_op op_mod (pv 2) (pe_callB (call_lenK (K := K) rfl) (by rfl) (T.free 24) (by decide +kernel) (pa_cons (pv 1) pa_nil)))) (pss_cons (ps_for PassesOwn.never rfl (pi_listK (K := K) rfl (pe_callC c_law_bad_words (hr.mono (by decide)) pass0 rfl (pa_cons (pe_ix (ix_seqK (K := K) rfl) (pv 1) (pv 5) (fun _ _ => rfl)) (pa_cons (pe_ix (ix_seqK (K := K) rfl) (pv 0) (pe_op (op_addK (K := K) rfl) (pv 5) pe_int) (fun _ _ => rfl)) pa_nil)))) (pg_name (i := 6) sc_law_spoilt.nd rfl (by first | exact Or.inl rfl | exact Or.inr rfl)) (pss_one (ps_expr (pe_bmK (K := K) rfl PySem.F.plainAttrs_list PySem.F.slot_list_append PySem.F.type_list_append mt_append (pv 4) (pa_cons (pe_m1 PySem.F.slot_str_join PySem.F.type_str_join (ml_join (K := K) rfl) pe_str (pe_op (op_addK (K := K) rfl) (pe_op (op_addK (K := K) rfl) (pe_slice (sl_anyK (K := K) rfl) (pv 0) po_none (po_some (pe_op (op_addK (K := K) rfl) (pv 5) pe_int))) (pe_lst (pa_cons (pv 6) pa_nil))) (pe_slice (sl_anyK (K := K) rfl) (pv 0) (po_some (pe_op (op_addK (K := K) rfl) (pv 5) pe_int)) po_none))) pa_nil))))) (pss_one (ps_ret (pv 4)))))))))), ?_⟩)) (fun _ _ _ _ _ _ us hl => match us, hl with | [_, _, _], _ => rfl)
  · rintro ds d ⟨ns, c, p, w, _, _, rfl, rfl⟩; rfl
  · rintro ds d ⟨ns, c, p, w, hp, hw, rfl, rfl⟩ R F D hD hN; walk_at "beg"
    have hs := shA_ok ns 1
    have h11 := hs.s11
    have h1 := hs.s1
    have hWl := wA_len ns 1
    have hTl := line_len ns 1
    have hfr := wA_free ns 1
    have hwl : w.length ≤ 40 := (hfr w (List.mem_of_getElem? hw)).2
    have hp2 : p < (shA ns 1).length := by have := Int.emod_lt_of_pos c (b := ((shA ns 1).length : Int)) (by omega); omega
    have hjs : ∀ (V : List Str), V.length ≤ 20 → (∀ w ∈ V, w.length ≤ 50) → (V.map (·.length)).sum + V.length * (Str.ofString " ").length ≤ 16777216 := fun V h1 h2 => by
      have := sum_len' (ws := V) (k := 50) h2
      rw [show (Str.ofString " ").length = 1 from rfl]
      omega
    refine r_seq (r_asg (d := .str (lineA ns 1)) (ee_join (a := Str.ofString " ") (ws := wordsA ns 1) ee_str (ee_var rfl) (hjs _ (by omega) (fun w hw => by have := (hfr w hw).2; omega))) ?_)
    dsimp only
    have hx0 : atI ((wordsA ns 1).map PyData.str) 0 = some (.str (headA ns 1)) := atI_nat' (by decide) rfl
    have hbase : baseA ns 1 = [lineA ns 1 ++ Str.ofString " ", Str.ofString " " ++ lineA ns 1, lineA ns 1 ++ Str.ofString " 1 ash", lineA ns 1 ++ Str.ofString " 1", rep1 (lineA ns 1) (Str.ofString " ") (Str.ofString "  "), Str.ofString "x" ++ lineA ns 1, headA ns 1, lineA ns 1 ++ Str.ofString "\n"] ++ [joinW ((headA ns 1 ++ Str.ofString "s") :: twA ns 1)] ++ [minA ns 1] := rfl
    have hwe : wordsA ns 1 = headA ns 1 :: twA ns 1 := rfl
    have hhl := hs.wl
    have htl := twA_len ns 1
    have hmin : minA ns 1 = joinW ((wordsA ns 1).take ((wordsA ns 1).length - 1)) := rfl
    have hput : ∀ v, putA ns 1 p v = joinW ((wordsA ns 1).take (p + 1) ++ [v] ++ (wordsA ns 1).drop (p + 2)) := fun v => rfl
    generalize hT : lineA ns 1 = T0 at *
    generalize hB : badW10 ((tl (shA ns 1)).getD p 0) w = bw at *
    have hbv : ∀ v ∈ bw, v.length ≤ 141 ∧ bw.length ≤ 12 := fun v hv => by
      rw [← hB] at hv ⊢
      exact badW10_len hwl v hv
    have hbl : bw.length ≤ 12 := by rw [← hB]; exact badW10_cnt _ _
    generalize hmA : minA ns 1 = mA at *
    generalize putA ns 1 p = pf at *
    generalize hW : wordsA ns 1 = W at *
    have hl1 : (Str.ofString " ").length = 1 := rfl
    have hl2 : (Str.ofString " 1").length = 2 := rfl
    have hl3 : (Str.ofString "x").length = 1 := rfl
    have hl4 : (Str.ofString "\n").length = 1 := rfl
    have hl5 : (Str.ofString "  ").length = 2 := rfl
    have hl6 : (Str.ofString " 1 ash").length = 6 := rfl
    have hl7 : (Str.ofString "s").length = 1 := rfl
    have hhl2 : (headA ns 1).length ≤ 10 := hhl
    refine r_seq (r_newL (ds := ([T0 ++ Str.ofString " ", Str.ofString " " ++ T0, T0 ++ Str.ofString " 1 ash", T0 ++ Str.ofString " 1", rep1 T0 (Str.ofString " ") (Str.ofString "  "), Str.ofString "x" ++ T0, headA ns 1, T0 ++ Str.ofString "\n"]).map .str)
      (ea_cons (by walk_at "ev") (ea_cons (by walk_at "ev") (ea_cons (by walk_at "ev") (ea_cons (by walk_at "ev") (ea_cons (ee_rep1 (ee_var rfl) (by omega)) (ea_cons (by walk_at "ev") (ea_cons (by walk_at "ev") (ea_cons (by walk_at "ev") ea_nil)))))))) (by simp) ?_)
    dsimp only
    have hcut1 : LH.cutD (W.map PyData.str) (some 1) none = (twA ns 1).map .str := by
      rw [cut_drop PyData.str W 1 (z := 1) rfl, hwe]; rfl
    refine r_seq (r_app (i := 4) (j := 0) (ds := ([T0 ++ Str.ofString " ", Str.ofString " " ++ T0, T0 ++ Str.ofString " 1 ash", T0 ++ Str.ofString " 1", rep1 T0 (Str.ofString " ") (Str.ofString "  "), Str.ofString "x" ++ T0, headA ns 1, T0 ++ Str.ofString "\n"]).map .str) (d := .str (joinW ((headA ns 1 ++ Str.ofString "s") :: twA ns 1))) rfl rfl
      (ee_join (a := Str.ofString " ") (ws := (headA ns 1 ++ Str.ofString "s") :: twA ns 1) ee_str (EvE.is (ee_op (ee_lst (ea_cons (ee_op (ee_op (ee_var rfl) ee_int (r2_ixL hx0)) ee_str (r2_addS (by omega))) ea_nil) (Nat.le_of_ble_eq_true rfl)) (EvE.is (y := .list ((twA ns 1).map .str)) (ee_slL (ee_var rfl) (eo_some ee_int) eo_no) (by rw [hcut1])) (r2_addL (by rw [List.length_map]; show 1 + _ ≤ _; omega))) rfl)
        (hjs _ (by rw [List.length_cons]; omega) (fun u hu => by
          rcases List.mem_cons.mp hu with q | q
          · rw [q, str_len_app]; omega
          · have := (hfr u (by rw [hwe]; exact List.mem_cons_of_mem _ q)).2; omega))) (by simp) ?_)
    dsimp only
    have hlw : (((W.map PyData.str).length : Int) - 1) = ((W.length - 1 : Nat) : Int) := by rw [List.length_map]; omega
    refine r_seq (r_app (i := 4) (j := 0) (ds := ([T0 ++ Str.ofString " ", Str.ofString " " ++ T0, T0 ++ Str.ofString " 1 ash", T0 ++ Str.ofString " 1", rep1 T0 (Str.ofString " ") (Str.ofString "  "), Str.ofString "x" ++ T0, headA ns 1, T0 ++ Str.ofString "\n"]).map .str ++ [.str (joinW ((headA ns 1 ++ Str.ofString "s") :: twA ns 1))]) (d := .str mA) rfl rfl
      (EvE.is (ee_join (a := Str.ofString " ") (ws := W.take (W.length - 1)) ee_str (EvE.is (ee_slL (ee_var rfl) eo_no (eo_some (EvE.is (by walk_at "ev") (by rw [hlw])))) (by rw [cut_take PyData.str W (W.length - 1) rfl]))
        (hjs _ (by rw [List.length_take]; omega) (fun u hu => by have := (hfr u (List.mem_of_mem_take hu)).2; omega))) (by rw [hmin]; rfl)) (by simp) ?_)
    dsimp only
    refine r_seq (r_asg (d := .int (p : Int)) (EvE.is (ee_op (ee_var rfl) (ee_cb (ea_cons (ee_var rfl) ea_nil) (rc_lenS (by omega))) (r2_I (by omega) (fun _ => .int _))) (by rw [hp])) ?_)
    dsimp only
    have hown : (([T0 ++ Str.ofString " ", Str.ofString " " ++ T0, T0 ++ Str.ofString " 1 ash", T0 ++ Str.ofString " 1", rep1 T0 (Str.ofString " ") (Str.ofString "  "), Str.ofString "x" ++ T0, headA ns 1, T0 ++ Str.ofString "\n"]).map PyData.str ++ [.str (joinW ((headA ns 1 ++ Str.ofString "s") :: twA ns 1))] ++ [.str mA]) = (baseA ns 1).map .str := by rw [hbase]; rfl
    rw [hown]
    have hbaseL : (baseA ns 1).length = 10 := rfl
    generalize baseA ns 1 = BB at *
    have hxs : atI (tl (shA ns 1)) (p : Int) = some ((tl (shA ns 1)).getD p 0) := atI_nat' (by omega) (by
      rw [Int.toNat_natCast, List.getD_eq_getElem?_getD, List.getElem?_eq_getElem (by rw [← len_tl]; exact hp2)]; rfl)
    have hxw : atI (W.map PyData.str) ((p : Int) + 1) = some (.str w) := atI_nat' (by omega) (by rw [show ((p : Int) + 1).toNat = p + 1 by omega, List.getElem?_map, hw]; rfl)
    refine r_seq ?_
    refine r_forL (ds := bw.map .str) ?hx (fun i => [.d (.list (W.map .str)), .un, .un, .un, .o 0, .d (.int (p : Int)), .un]) (fun i => [Ow.lst K ((BB ++ (bw.take i).map pf).map .str)]) ?h0 ?hO (fun v i d hi => ?hb) ?hd
    case hx => exact ee_call (ea_cons (ee_op (ee_var rfl) (ee_var rfl) (r2_ixS hxs (by omega))) (ea_cons (ee_op (ee_var rfl) (by walk_at "ev") (r2_ixL hxw)) ea_nil)) ⟨_, w, by omega, rfl, by rw [hB]⟩
    case h0 => walk_at "le"
    case hO => show _ = [Ow.lst K ((BB ++ []).map .str)]; rw [List.append_nil]; rfl
    case hb =>
      obtain ⟨z, hz, rfl⟩ : ∃ z, bw[i]? = some z ∧ PyData.str z = d := by
        rw [List.getElem?_map] at hi
        exact Option.map_eq_some_iff.mp hi
      refine ⟨_, _, tg_name, ?_⟩
      dsimp only
      have hzl := (hbv z (List.mem_of_getElem? hz)).1
      have e1 : (BB ++ (bw.take (i + 1)).map pf).map PyData.str = (BB ++ (bw.take i).map pf).map PyData.str ++ [.str (pf z)] := by
        rw [List.take_add_one, hz]; simp
      rw [e1]
      refine r_app (i := 4) (j := 0) (ds := (BB ++ (bw.take i).map pf).map .str) (d := .str (pf z)) rfl rfl
        (EvE.is (ee_join (a := Str.ofString " ") (ws := W.take (p + 1) ++ [z] ++ W.drop (p + 2)) ee_str
          (EvE.is (ee_op (ee_op (EvE.is (y := .list ((W.take (p + 1)).map .str)) (ee_slL (ee_var rfl) eo_no (eo_some (by walk_at "ev"))) (by rw [cut_take PyData.str W (p + 1) (z := (p : Int) + 1) (by omega)])) (ee_lst (ea_cons (ee_var rfl) ea_nil) (Nat.le_of_ble_eq_true rfl)) (r2_addL (by rw [List.length_map, List.length_take]; show _ + 1 ≤ _; omega)))
            (EvE.is (y := .list ((W.drop (p + 2)).map .str)) (ee_slL (ee_var rfl) (eo_some (by walk_at "ev")) eo_no) (by rw [cut_drop PyData.str W (p + 2) (z := (p : Int) + 2) (by omega)])) (r2_addL (by rw [List.length_append, List.length_map, List.length_map, List.length_take, List.length_drop]; show _ + 1 + _ ≤ _; omega))) (by simp))
          ?hj) (by rw [hput z]; rfl)) (by rw [List.length_map, List.length_append, List.length_map, List.length_take]; omega) ?_
      case hj =>
        have hsum := sum_len' (ws := W.take (p + 1) ++ [z] ++ W.drop (p + 2)) (k := 141) (fun u hu => by
          rcases List.mem_append.mp hu with q | q
          · rcases List.mem_append.mp q with q | q
            · have := (hfr u (List.mem_of_mem_take q)).2; omega
            · rw [List.mem_singleton.mp q]; exact hzl
          · have := (hfr u (List.mem_of_mem_drop q)).2; omega)
        have hln : (W.take (p + 1) ++ [z] ++ W.drop (p + 2)).length ≤ 30 := by
          rw [List.length_append, List.length_append, List.length_take, List.length_drop]; show _ + 1 + _ ≤ _; omega
        rw [show (Str.ofString " ").length = 1 from rfl]
        omega
      walk_at "nx"
    case hd =>
      dsimp only
      rw [show bw.take (bw.map PyData.str).length = bw from List.take_of_length_le (by rw [List.length_map]; exact Nat.le_refl _)]
      refine r_frz (j := 0) rfl ?_
      exact r_ret (ee_var rfl) (hD _)
def f_law (ds : List PyData) (d : PyData) : Prop := ∃ ns : List Int, ns.length ≤ 63 ∧ ds = [.list (ns.map .int)] ∧ d = .bool true
theorem fn_law (T : Top fa fn K mg) (ex : Exs P w K) {fd : FuncData} (F : FunD K d_law.name d_law.qual d_law.params d_law.body d_law.scope (d_law.dvs K) (d_law.kws K) (He.fAd K d_law.at_) fd) : FnOk P w K mg base CX0 8 (He.fAd K d_law.at_) fd ["script"] (spF K f_law) := by
  have c_law_bad_words : CalOk P w K mg base CX0 1 "_law_bad_words" ["kind", "word"] (spF K f_law_bad_words) := ok_law_bad_words T
  have c_law_spoilt : CalOk P w K mg base CX0 2 "_law_spoilt" ["words", "shape", "cell"] (spF K f_law_spoilt) := ok_law_spoilt T c_law_bad_words
  have c_law_cell : CalOk P w K mg base CX0 1 "_law_cell" ["script", "k"] (spF K f_law_cell) := ok_law_cell T
  have c_law_is_same : CalOk P w K mg base CX0 1 "_law_is_same" ["actual", "row"] (spF K f_law_is_same) := ok_law_is_same T
  have x_InvalidLine : ExOk P w K mg base CX0 1 "InvalidLine" (He.ga K "InvalidLine") ["self", "line"] (spNum (He.ga K "InvalidLine") "line") := ok_InvalidLine_init T ex
  have c_is_office : CalOk P w K mg base CX0 1 "is_office" ["text"] (spF K f_is_office) := ok_is_office T
  have c_is_number : CalOk P w K mg base CX0 1 "is_number" ["text"] (spF K f_is_number) := ok_is_number T
  have c_is_thing : CalOk P w K mg base CX0 2 "is_thing" ["text"] (spF K f_is_thing) := ok_is_thing T c_is_number c_is_office
  have c_read_word : CalOk P w K mg base CX0 3 "read_word" ["kind", "word"] (spF K f_read_word) := ok_read_word T c_is_office c_is_thing c_is_number
  have c_read_words : CalOk P w K mg base CX0 4 "read_words" ["kinds", "words"] (spF K f_read_words) := ok_read_words T c_read_word
  have c_line_kinds : CalOk P w K mg base CX0 1 "line_kinds" ["words"] (spF K f_line_kinds) := ok_line_kinds T ex
  have c_read_line : CalOk P w K mg base CX0 5 "read_line" ["line"] (spF K f_read_line) := ok_read_line T c_read_words c_line_kinds
  have c_parse_line : CalOk P w K mg base (L2.CX P w) 6 "parse_line" ["line"] (spO K (f_parse_line K)) := ok_parse_line T x_InvalidLine c_read_line
  have c_law_raises : CalOk P w K mg base CX0 7 "_law_raises" ["line"] (spF K f_law_raises) := ok_law_raises T ex c_parse_line
  have c_write_words : CalOk P w K mg base CX0 1 "write_words" ["row"] (spF K f_write_words) := ok_write_words T
  have c_format_line : CalOk P w K mg base CX0 2 "format_line" ["row"] (spF K f_format_line) := ok_format_line T c_write_words
  have c_law_shape : CalOk P w K mg base CX0 1 "_law_shape" ["cell"] (spF K f_law_shape) := ok_law_shape T
  have c_law_number : CalOk P w K mg base CX0 1 "_law_number" ["cell"] (spF K f_law_number) := ok_law_number T
  have c_law_office : CalOk P w K mg base CX0 1 "_law_office" ["cell"] (spF K f_law_office) := ok_law_office T
  have c_law_thing : CalOk P w K mg base CX0 2 "_law_thing" ["cell"] (spF K f_law_thing) := ok_law_thing T c_law_office c_law_number
  have c_law_values : CalOk P w K mg base CX0 3 "_law_values" ["shape", "script", "at"] (spF K f_law_values) := ok_law_values T c_law_number c_law_office c_law_thing c_law_cell
  have c_law_row : CalOk P w K mg base CX0 4 "_law_row" ["script", "at"] (spF K f_law_row) := ok_law_row T c_law_values c_law_shape c_law_cell
  refine ok_data F sc_law ?_ (fun cdv A outer s H E hr => ⟨_, (pss_cons (ps_set (i := 1) sc_law.nd rfl (by first | exact Or.inl rfl | exact Or.inr rfl) (pe_callC c_law_row (hr.mono (by decide)) pass0 rfl (pa_cons (pv 0) (pa_cons pe_int pa_nil)))) (pss_cons (ps_asg (pe_callC c_law_shape (hr.mono (by decide)) pass0 rfl (pa_cons (pe_callC c_law_cell (hr.mono (by decide)) pass0 rfl (pa_cons (pv 0) (pa_cons pe_int pa_nil))) pa_nil)) (pg_unlK (K := K) rfl (by rfl) (pgs_cons (pg_name (i := 2) sc_law.nd rfl (by first | exact Or.inl rfl | exact Or.inr rfl)) (pgs_cons (pg_name (i := 3) sc_law.nd rfl (by first | exact Or.inl rfl | exact Or.inr rfl)) pgs_nil)))) (pss_cons (ps_setLc (i := 4) (own := [("value", 7)]) rfl sc_law.nd rfl rfl (sw_true rfl rfl rfl (by decide +kernel)) (pi_tupK (K := K) rfl (pv 1)) (blkOk_by (own := [("value", 7)]) (N := N_law) (sc := defScope s_law) (by decide +kernel)) (fun _ _ _ _ _ => (pg_name (i := 7) sc_law.nd rfl (Or.inl rfl))) (fun _ _ _ _ _ => pts_nil) (fun _ _ _ _ _ => (pe_callTy call_strA (by rfl) (T.free 27) (by decide +kernel) (pa_cons (pv 7) pa_nil)))) (pss_cons (ps_set (i := 5) sc_law.nd rfl (by first | exact Or.inl rfl | exact Or.inr rfl) (pe_m1 PySem.F.slot_str_join PySem.F.type_str_join (ml_join (K := K) rfl) pe_str (pv 4))) (pss_cons (ps_if (PW.pt (pw_or (pt_cmpR (op_neK (K := K) rfl hr.units) (pe_callC c_format_line (hr.mono (by decide)) pass0 rfl (pa_cons (pv 1) pa_nil)) (pv 5) (nomark _)) (pw_or1 (pt_not (pt_val (pe_callC c_law_is_same (hr.mono (by decide)) pass0 rfl (pa_cons (pe_callE c_parse_line (hr.mono (by decide)) (passE (E := fun _ _ _ => False) takes0) rfl (pa_cons (pv 5) pa_nil)) (pa_cons (pv 1) pa_nil)))))))) (pss_one (ps_ret pe_bl)) pss_nil) (pss_cons (ps_for (passes_of rfl) rfl (pi_listK (K := K) rfl (pe_callC c_law_spoilt (hr.mono (by decide)) pass0 rfl (pa_cons (pv 4) (pa_cons (pv 3) (pa_cons (pe_callC c_law_cell (hr.mono (by decide)) pass0 rfl (pa_cons (pv 0) (pa_cons pe_int pa_nil))) pa_nil))))) (pg_name (i := 6) sc_law.nd rfl (by first | exact Or.inl rfl | exact Or.inr rfl)) (pss_one (ps_if (PW.pt (pw_and (pt_cmpR (op_eqK (K := K) rfl hr.units) (pv 2) pe_str (nomark _)) (pw_and (pt_cmpR (op_eqK (K := K) rfl hr.units) (pe_callB (call_lenK (K := K) rfl) (by rfl) (T.free 24) (by decide +kernel) (pa_cons (pe_m1 PySem.F.slot_str_split PySem.F.type_str_split ml_split (pv 6) pe_str) pa_nil)) (pe_op op_sub (pe_callB (call_lenK (K := K) rfl) (by rfl) (T.free 24) (by decide +kernel) (pa_cons (pv 4) pa_nil)) pe_int) (nomark _)) (pw_and (pt_cmpR op_gtA (pe_callB (call_lenK (K := K) rfl) (by rfl) (T.free 24) (by decide +kernel) (pa_cons (pv 4) pa_nil)) pe_int (nomark _)) (pw_and1 (pt_cmpR (op_eqK (K := K) rfl hr.units) (pv 6) (pe_m1 PySem.F.slot_str_join PySem.F.type_str_join (ml_join (K := K) rfl) pe_str (pe_slice (sl_anyK (K := K) rfl) (pv 4) po_none (po_some (pe_op op_sub (pe_callB (call_lenK (K := K) rfl) (by rfl) (T.free 24) (by decide +kernel) (pa_cons (pv 4) pa_nil)) pe_int)))) (nomark _))))))) (pss_one (ps_if (pt_not (pt_val (pe_callC c_law_is_same (hr.mono (by decide)) pass0 rfl (pa_cons (pe_callE c_parse_line (hr.mono (by decide)) (passE (E := fun _ _ _ => False) takes0) rfl (pa_cons (pv 6) pa_nil)) (pa_cons (pe_slice (sl_tupK (K := K) rfl) (pv 1) po_none (po_some (pe_op op_sub (pe_callB (call_lenK (K := K) rfl) (by rfl) (T.free 24) (by decide +kernel) (pa_cons (pv 1) pa_nil)) pe_int))) pa_nil))))) (pss_one (ps_ret pe_bl)) pss_nil)) (pss_one (ps_if (pt_not (pt_val (pe_callC c_law_raises (hr.mono (by decide)) pass0 rfl (pa_cons (pv 6) pa_nil)))) (pss_one (ps_ret pe_bl)) pss_nil))))) (pss_one (ps_ret pe_bl)))))))), ?_⟩)
  · rintro ds d ⟨ns, hl, rfl, rfl⟩; rfl
  · rintro ds d ⟨ns, hl, rfl, rfl⟩ R F D hD hN; walk_at "beg"
    have hs := shA_ok ns 1
    have h11 := hs.s11
    have h1 := hs.s1
    have hWl := wA_len ns 1
    have hTl := line_len ns 1
    have hfr := wA_free ns 1
    have hrl := row_len ns 1
    have hrw := row_wr ns 1
    have hwe : wordsA ns 1 = headA ns 1 :: twA ns 1 := rfl
    have hlen1 : (rowA ns 1).length = (wordsA ns 1).length := by rw [← row_str, List.length_map]
    have hpar : lineW (Txt.split (lineA ns 1) (sgn 32)) = .tuple (rowA ns 1) := by rw [line_split, line_good]
    have hpb : badLine (lineA ns 1) = false := by show isNone (lineW (Txt.split (lineA ns 1) (sgn 32))) = false; rw [hpar]; rfl
    have hsc : ∀ x ∈ rowA ns 1, Sc x := fun x hx => by
      rcases hrw x hx with ⟨s, e, _⟩ | ⟨i, e, _⟩
      · exact .inl ⟨s, e⟩
      · exact .inr ⟨i, e⟩
    have hjs : ∀ (V : List Str), V.length ≤ 20 → (∀ w ∈ V, w.length ≤ 50) → (V.map (·.length)).sum + V.length * (Str.ofString " ").length ≤ 16777216 := fun V h1 h2 => by
      have := sum_len' (ws := V) (k := 50) h2
      rw [show (Str.ofString " ").length = 1 from rfl]
      omega
    refine r_seq (r_asg (d := .tuple (rowA ns 1)) (ee_call (by walk_at "ea") ⟨ns, 1, hl, by decide, by decide, rfl, rfl⟩) ?_)
    dsimp only
    refine r_seq (r_asgG (d := .list [.str (headA ns 1), .str (shA ns 1)]) (by walk_at "ev") (tg_unl (tg_cons tg_name (tg_cons tg_name tg_nil)) rfl) ?_)
    dsimp only
    refine r_seq (r_asg (d := .list ((wordsA ns 1).map .str)) (EvE.is (ee_lcT' (ds := rowA ns 1) (k := fun d => .str (strD d)) (ee_var rfl) (by omega) (fun x hx => ⟨_, tg_name, eb_yes, ?hx1⟩)) (by rw [← row_str, List.map_map]; rfl)) ?_)
    case hx1 =>
      rcases hrw x hx with ⟨s, rfl, hs⟩ | ⟨i, rfl, h0, h1⟩
      · exact ee_cb (ea_cons (ee_var rfl) ea_nil) rc_strS
      · exact ee_cb (ea_cons (ee_var rfl) ea_nil) (rc_strI (num_log h0 h1))
    dsimp only
    refine r_seq (r_asg (d := .str (lineA ns 1)) (ee_join (a := Str.ofString " ") (ws := wordsA ns 1) ee_str (ee_var rfl) (hjs _ (by omega) (fun w hw => by have := (hfr w hw).2; omega))) ?_)
    dsimp only
    have hfl : f_format_line [.tuple (rowA ns 1)] (.str (lineA ns 1)) := ⟨rowA ns 1, by omega, hrw, rfl, by rw [row_str]; rfl⟩
    refine r_seq (r_if (b := false) ?ht (fun h => nomatch h) (fun _ => ?_))
    case ht =>
      exact EvB.is (eb_or (a := false) (c := false) (EvB.is (eb_test (ee_op (ee_call (ea_cons (ee_var rfl) ea_nil) hfl) (ee_var rfl) r2_neS)) (by simp)) (fun _ => EvB.is (eb_not (eb_test (ee_call (ea_cons (ee_callS0 (ds := [.str (lineA ns 1)]) (ea_cons (ee_var rfl) ea_nil) ⟨lineA ns 1, by omega, rfl, rfl, rfl, .inr ⟨hpb, by rw [hpar]⟩⟩) (ea_cons (ee_var rfl) ea_nil)) ⟨rowA ns 1, by omega, hsc, rfl, rfl⟩))) rfl)) rfl
    refine r_next ?_
    dsimp only
    have ha0 := Int.emod_nonneg (cellA ns 0) (b := ((shA ns 1).length : Int)) (by omega)
    have ha1 := Int.emod_lt_of_pos (cellA ns 0) (b := ((shA ns 1).length : Int)) (by omega)
    obtain ⟨p, hp⟩ : ∃ p : Nat, cellA ns 0 % ((shA ns 1).length : Int) = (p : Int) := ⟨(cellA ns 0 % ((shA ns 1).length : Int)).toNat, by omega⟩
    have hp2 : p < (shA ns 1).length := by omega
    obtain ⟨w1, hw1⟩ : ∃ x, (wordsA ns 1)[p + 1]? = some x := ⟨_, List.getElem?_eq_getElem (by omega)⟩
    have hall : ∀ z ∈ baseA ns 1 ++ (badW10 ((tl (shA ns 1)).getD p 0) w1).map (putA ns 1 p), BadS z ∨ z = minA ns 1 := fun z hz => by
      rcases List.mem_append.mp hz with q | q
      · exact base_ok ns 1 z q
      · obtain ⟨v, hv, rfl⟩ := List.mem_map.mp q
        exact .inl (put_ok ns 1 hp2 hw1 v hv)
    have hspoilt : f_law_spoilt [.list ((wordsA ns 1).map .str), .str (shA ns 1), .int (cellA ns 0)] (.list ((baseA ns 1 ++ (badW10 ((tl (shA ns 1)).getD p 0) w1).map (putA ns 1 p)).map .str)) := ⟨ns, cellA ns 0, p, w1, hp, hw1, rfl, rfl⟩
    generalize baseA ns 1 ++ (badW10 ((tl (shA ns 1)).getD p 0) w1).map (putA ns 1 p) = zs at *
    refine r_seq ?_
    refine r_forL (ds := zs.map .str) (ee_call (ea_cons (ee_var rfl) (ea_cons (ee_var rfl) (ea_cons (by walk_at "ev") ea_nil))) hspoilt) (fun _ => [.d (.list (ns.map .int)), .d (.tuple (rowA ns 1)), .d (.str (headA ns 1)), .d (.str (shA ns 1)), .d (.list ((wordsA ns 1).map .str)), .un, .un, .un]) (fun _ => []) ?h0 rfl (fun v i d hi => ?hb) ?hd
    case h0 => walk_at "le"
    case hb =>
      obtain ⟨z, hz, rfl⟩ : ∃ z, zs[i]? = some z ∧ PyData.str z = d := by
        rw [List.getElem?_map] at hi
        exact Option.map_eq_some_iff.mp hi
      have hzz := hall z (List.mem_of_getElem? hz)
      have hml := min_len ns 1
      have hzl : z.length ≤ 800 := by
        rcases hzz with h | h
        · exact h.1
        · rw [h]; omega
      refine ⟨_, _, tg_name, ?_⟩
      dsimp only
      have hlm : (((wordsA ns 1).map PyData.str).length : Int) = ((wordsA ns 1).length : Int) := by rw [List.length_map]
      have hjm : (((wordsA ns 1).take ((wordsA ns 1).length - 1)).map (·.length)).sum + ((wordsA ns 1).take ((wordsA ns 1).length - 1)).length * (Str.ofString " ").length ≤ 16777216 := hjs _ (by rw [List.length_take]; omega) (fun u hu => by have := (hfr u (List.mem_of_mem_take hu)).2; omega)
      refine r_if (b := decide (headA ns 1 = Str.ofString "join") && (decide ((((Txt.split z (Str.ofString " ")).map PyData.str).length : Int) = ((wordsA ns 1).map PyData.str).length - 1) && (decide ((4 : Int) < ((wordsA ns 1).map PyData.str).length) && decide (z = minA ns 1)))) ?hc (fun hb => ?_) (fun hb => ?_)
      case hc =>
        exact eb_and (by walk_at "eb") (fun _ => eb_and (eb_test (ee_op (ee_cb (ea_cons (ee_split (c := Str.ofString " ") (ee_var rfl) ee_str rfl (by omega)) ea_nil) rc_lenL) (by walk_at "ev") r2_eqI)) (fun _ => eb_and (by walk_at "eb") (fun _ => eb_test (ee_op (ee_var rfl) (EvE.is (ee_join (a := Str.ofString " ") (ws := (wordsA ns 1).take ((wordsA ns 1).length - 1)) ee_str (EvE.is (ee_slL (ee_var rfl) eo_no (eo_some (EvE.is (by walk_at "ev") (by rw [show (((wordsA ns 1).map PyData.str).length : Int) - 1 = (((wordsA ns 1).length - 1 : Nat) : Int) by rw [List.length_map]; omega])))) (by rw [cut_take PyData.str (wordsA ns 1) ((wordsA ns 1).length - 1) rfl])) hjm) (by rfl)) r2_eqS))))
      · simp only [Bool.and_eq_true, decide_eq_true_eq] at hb
        obtain ⟨c1, c2, c3, c4⟩ := hb
        have h4 : 4 ≤ (shA ns 1).length := by rw [List.length_map] at c3; omega
        have hg := min_good ns 1 c1 h4
        rw [← c4] at hg
        have hnb : badLine z = false := by show isNone (lineW (Txt.split z (sgn 32))) = false; rw [hg]; rfl
        have hct : LH.cutD (rowA ns 1) none (some (((rowA ns 1).length : Int) - 1)) = (rowA ns 1).take ((rowA ns 1).length - 1) := by
          have h := cut_take (fun x : PyData => x) (rowA ns 1) ((rowA ns 1).length - 1) (z := ((rowA ns 1).length : Int) - 1) (by omega)
          simpa using h
        refine r_if (b := false) (EvB.is (eb_not (eb_test (ee_call (ea_cons (ee_callS0 (ds := [.str z]) (ea_cons (ee_var rfl) ea_nil) ⟨z, hzl, rfl, rfl, rfl, .inr ⟨hnb, by rw [hg]⟩⟩) (ea_cons (EvE.is (ee_slT (ee_var rfl) eo_no (eo_some (by walk_at "ev"))) (congrArg PyData.tuple hct)) ea_nil)) ⟨(rowA ns 1).take ((rowA ns 1).length - 1), by rw [List.length_take]; omega, fun x hx => hsc x (List.mem_of_mem_take hx), rfl, rfl⟩))) rfl) (fun h => nomatch h) (fun _ => ?_)
        walk_at "nx"
      · have hbad : badLine z = true := by
          rcases hzz with h | h
          · exact h.2
          · rw [h]
            refine (min_bad ns 1 fun hc => ?_).2
            obtain ⟨c1, c4⟩ := hc
            have hsl : (((Txt.split z (Str.ofString " ")).map PyData.str).length : Int) = ((wordsA ns 1).map PyData.str).length - 1 := by
              rw [h, show Txt.split (minA ns 1) (Str.ofString " ") = headA ns 1 :: (twA ns 1).take ((shA ns 1).length - 1) from min_split ns 1, List.length_map, List.length_cons, List.length_take, twA_len, List.length_map]
              omega
            rw [decide_eq_true c1, decide_eq_true hsl, decide_eq_true h, decide_eq_true (by rw [List.length_map]; omega)] at hb
            cases hb
        refine r_if (b := false) (EvB.is (eb_not (eb_test (ee_call (ea_cons (ee_var rfl) ea_nil) ⟨z, hzl, rfl, by rw [hbad]⟩))) rfl) (fun h => nomatch h) (fun _ => ?_)
        walk_at "nx"
    case hd =>
      dsimp only
      exact r_ret ee_bl (hD _)
end

theorem facts {P : Program} {w : World} {K : PySem.W.Frag} {h : Heap} {mg : Str → Option Value} {f : Addr} (X : K.In h) (G : h.Ns mainGlobals mg) (hfa : mg ("law" : Str) = some (.ref f)) (c0 : He.obsT fa fn tbs K = He.valT fn tbs w) (e0 : exB K = true) (s0 : exS P K = true) (f0 : exF K) :
    ∃ fd : FuncData, (∀ (s : Shared) (v : Value), BindsTo s fd ⟨[v], []⟩ [("script", v)]) ∧ ∀ base : Heap, K.In base → base.Ns mainGlobals mg → FnOk P w K mg base CX0 8 f fd ["script"] (spF K f_law) := by
  have c : He.SaysT fa fn tbs w K := c0
  have T : LH.Top fa fn K mg := ⟨c.d, h, X, G⟩
  obtain ⟨fd, F⟩ := c.d.def_ 21 (d := d_law) rfl
  have e := hfa.symm.trans (T.glo 21)
  cases e
  have b := FunD.bindsA (ps := ["script"]) F fun _ _ _ _ _ _ us hl => match us, hl with | [_], _ => rfl
  exact ⟨fd, fun s v => b s [v] rfl, fun base _ _ => fn_law T (exs_of c e0 s0 f0) F⟩
end K10
open PySem PySem.W PySem.Calls PyProof.Rows
set_option maxHeartbeats 0 in
theorem PySem.Challenge.cw_letterheld_k10_lines_of_journals_holds : PySem.Challenge.rw_letterheld_k10_lines_of_journals.Holds := by
  w_on; o_law; k_head; (case hw => w_witness2)
  k_fill
  refine L2.walk_ofE (l := PySem.Challenge.rw_letterheld_k10_lines_of_journals) (n := 63) (k := 8) (x := "script") (CX := L2.CX0) rfl (by decide) (by kernel_rfl) ⟨rfl, by decide, by decide⟩ ?F (fun _ _ _ _ z => z)
  intro w mg fa h Y G hmg0
  have KX := PySem.W.kIn_of Y
  have hmg : mg ("law" : PySem.Str) = some (.ref fa) := hmg0
  obtain ⟨fd, hb, hF⟩ := K10.facts (P := (PySem.Challenge.rw_letterheld_k10_lines_of_journals).prog) (w := w) KX G hmg (by kernel_rfl) (by kernel_rfl) (by kernel_rfl) (by unfold K10.exF; kernel_rfl)
  exact ⟨_, fd, LH.spF _ K10.f_law, KX, hb, fun H a ns hl _ hS => ⟨H, [.list (ns.map .int)], .bool true, Evl.Ex.refl H, .cons (.lst hS (LH.dps_ofInts ns)) .nil, ⟨ns, hl, rfl, rfl⟩, fun v F2 H2 _ dv => LH.dp_bool dv⟩, hF⟩

