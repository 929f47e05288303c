import PyProof.Rows.All
import Wide.All
import OpenK.AllK
import Wide.FinOn
import HandS.ForMost
import HandS.ForExc
import HandS.Walk
import HandS.Wide
import HandS.Evl
import HandS.Deep
import HandS.Gcd
import HandS.TupAny
import HandS.Strs
import HandS.Defaults
import KE.GoesMore
import HandS.IsInst
import HandS.Property
import HandS.SetFor
import HandS.Head0
import HandS.Head1
import HandS.Head2
import HandS.HeadEnd
import HandS.HeadHook1
import HandS.HeadHook2
import HandS.HeadNt
import HandS.Ends
import HandS.Head3
import HandS.Star
import HandS.Style
import HandS.Iter
import HandS.List
import KE.GoesZip
import KE.GoesEnum
import HandS.Zip
import HandS.Conv
import HandS.TupMul
import HandS.OwnEq
import HandS.More
import HandS.Codes
import PySem.Challenge.RW_fewreadings_k05_whole_degrees_that_rules
set_option Elab.async false
set_option linter.all false
set_option maxRecDepth 100000
set_option maxHeartbeats 4000000
namespace Wk
open PySem L2 Evl

/-! ### outcomes -/
structure Er where
  c : Nat
  fs : List Int
inductive Mm (α : Type) where
  | ok (a : α)
  | ex (e : Er)
  | bad
def Mm.bd {α β : Type} (m : Mm α) (f : α → Mm β) : Mm β := match m with
  | .ok a => f a
  | .ex e => .ex e
  | .bad => .bad
def Out {α : Type} (m : Mm α) (p : α → Prop) (q : Er → Prop) : Prop := match m with
  | .ok a => p a
  | .ex e => q e
  | .bad => False
/-- what holds of an outcome -/
structure Post {α : Type} (m : Mm α) (p : α → Prop) (q : Er → Prop) : Prop where
  h : Out m p q
section
variable {α β : Type} {m : Mm α} {f : α → Mm β} {p : α → Prop} {r : β → Prop} {q : Er → Prop}
theorem post_bd (h : Post (m.bd f) r q) : Post m (fun a => Post (f a) r q) q := by
  cases m with
  | ok a => exact ⟨⟨h.h⟩⟩
  | ex e => exact ⟨h.h⟩
  | bad => exact ⟨h.h⟩
theorem Post.mono {p' : α → Prop} {q' : Er → Prop} (h : Post m p q) (hp : ∀ a, p a → p' a) (hq : ∀ e, q e → q' e) : Post m p' q' := by
  cases m with
  | ok a => exact ⟨hp a h.h⟩
  | ex e => exact ⟨hq e h.h⟩
  | bad => exact ⟨h.h⟩
theorem Post.of_ok {a : α} (e : m = .ok a) (h : p a) : Post m p q := by
  rw [e]; exact ⟨h⟩
theorem Post.elim {C : Prop} (h : Post (Mm.bad : Mm α) p q) : C := h.h.elim
theorem post_ok {a : α} (h : Post (.ok a) p q) : p a := h.h
end
@[simp] theorem bd_ok {α β : Type} (a : α) (f : α → Mm β) : (Mm.ok a).bd f = f a := rfl
@[simp] theorem bd_ex {α β : Type} (e : Er) (f : α → Mm β) : (Mm.ex e : Mm α).bd f = .ex e := rfl
@[simp] theorem bd_bad {α β : Type} (f : α → Mm β) : (Mm.bad : Mm α).bd f = .bad := rfl
def guardM (c : Prop) [Decidable c] : Mm Unit := if c then .ok () else .bad
instance {i j : Int} : Decidable (CMulW i j) := by unfold CMulW; exact inferInstance
instance {i j : Int} : Decidable (CDivW i j) := by unfold CDivW; exact inferInstance
def CDv (_ j : Int) : Prop := j ≠ 0 ∧ j.natAbs.log2 < 9000
instance {i j : Int} : Decidable (CDv i j) := by unfold CDv; exact inferInstance
def mulM (i j : Int) : Mm Int := if CMulW i j then .ok (i * j) else .bad
def divM (i j : Int) : Mm Int := if CDv i j then .ok (i.fdiv j) else .bad
def modM (i j : Int) : Mm Int := if j ≠ 0 then .ok (i.fmod j) else .bad
def getM {α : Type} (xs : List α) (i : Int) : Mm α := match atI xs i with
  | some a => .ok a
  | none => .bad
section
variable {β : Type} {f : Int → Mm β} {r : β → Prop} {q : Er → Prop} {i j : Int}
theorem post_mul (h : Post ((mulM i j).bd f) r q) : ∃ m, CMulW i j ∧ i * j = m ∧ Post (f m) r q := by
  unfold mulM at h
  split at h
  · exact ⟨_, ‹_›, rfl, ⟨h.h⟩⟩
  · exact h.h.elim
theorem post_div (h : Post ((divM i j).bd f) r q) : ∃ m, CDv i j ∧ i.fdiv j = m ∧ Post (f m) r q := by
  unfold divM at h
  split at h
  · exact ⟨_, ‹_›, rfl, ⟨h.h⟩⟩
  · exact h.h.elim
theorem post_mod (h : Post ((modM i j).bd f) r q) : ∃ m, j ≠ 0 ∧ i.fmod j = m ∧ Post (f m) r q := by
  unfold modM at h
  split at h
  · exact ⟨_, ‹_›, rfl, ⟨h.h⟩⟩
  · exact h.h.elim
theorem post_get {α : Type} {xs : List α} {f : α → Mm β} (h : Post ((getM xs i).bd f) r q) : ∃ a, atI xs i = some a ∧ Post (f a) r q := by
  unfold getM at h
  split at h
  · exact ⟨_, ‹_›, ⟨h.h⟩⟩
  · exact h.h.elim
theorem post_guard {c : Prop} [Decidable c] {f : Unit → Mm β} (h : Post ((guardM c).bd f) r q) : c ∧ Post (f ()) r q := by
  unfold guardM at h
  split at h
  · exact ⟨‹_›, ⟨h.h⟩⟩
  · exact h.h.elim
end
section
variable {X : Cx}
theorem op_divM : OpR X (binaryOp .FloorDiv) (fun x y H Q => ∃ i j m, x = .int i ∧ y = .int j ∧ CDv i j ∧ i.fdiv j = m ∧ Q (.int m) H) := by
  intro pins s σ H x y v u Q I rx ry h
  obtain ⟨i, j, m, rfl, rfl, c, rfl, q⟩ := h
  exact (opI (C := CDv) (g := fun i j => i.fdiv j) fun i j _ _ _ _ _ hc q => PyProof.Rows.floordiv_int hc.1 q (.inl (PyProof.noPylong_of_log2 hc.2))) pins s σ H _ _ v u Q I rx ry ⟨i, j, rfl, rfl, c, q⟩
theorem op_mulM : OpR X (binaryOp .Mult) (fun x y H Q => ∃ i j m, x = .int i ∧ y = .int j ∧ CMulW i j ∧ i * j = m ∧ Q (.int m) H) := by
  intro pins s σ H x y v u Q I rx ry h
  obtain ⟨i, j, m, rfl, rfl, c, rfl, q⟩ := h
  exact op_mulW pins s σ H _ _ v u Q I rx ry ⟨i, j, rfl, rfl, c, q⟩
theorem op_modM : OpR X (binaryOp .Mod) (fun x y H Q => ∃ i j m, x = .int i ∧ y = .int j ∧ j ≠ 0 ∧ i.fmod j = m ∧ Q (.int m) H) := by
  intro pins s σ H x y v u Q I rx ry h
  obtain ⟨i, j, m, rfl, rfl, c, rfl, q⟩ := h
  exact op_modN pins s σ H _ _ v u Q I rx ry ⟨i, j, rfl, rfl, c, q⟩
theorem pe_gint {x : Str} {i : Int} {pos : Pos} (h : ∃ t, X.mg x = some (.int i t)) (hg : Gl X x := by rfl) (hd : (x == ("__debug__" : Str)) = false := by decide) : PE X (.Name x pos) (tC (.int i)) := by
  obtain ⟨t, h⟩ := h
  exact pe_glob hg h ⟨t, rfl⟩ hd
theorem pe_gref {x : Str} {a : Addr} {pos : Pos} (h : X.mg x = some (.ref a)) (hg : Gl X x := by rfl) (hd : (x == ("__debug__" : Str)) = false := by decide) : PE X (.Name x pos) (tC (.ref a)) := pe_glob hg h rfl hd
end

/-! ### heaps: F what is fixed, H all -/
structure Gm (M : List Addr) (F H F' H' : Hp) : Prop where
  f : Ex F F'
  s : Ex F' H'
  h : ∀ a o, a ∉ M → H a = some o → H' a = some o
  n : ∀ a o, H a = some o → F a = none → F' a = none
  m : ∀ a o, H a = some o → ∃ o', H' a = some o'
section
variable {M : List Addr} {F H F1 H1 F2 H2 : Hp}
theorem Gm.refl (e : Ex F H) : Gm M F H F H := ⟨Ex.refl _, e, fun _ _ _ h => h, fun _ _ _ h => h, fun _ o h => ⟨o, h⟩⟩
theorem Gm.trans (a : Gm M F H F1 H1) (b : Gm M F1 H1 F2 H2) : Gm M F H F2 H2 :=
  ⟨a.f.trans b.f, b.s, fun x o hx h => b.h x o hx (a.h x o hx h), fun x o h hf => by
    obtain ⟨o', h'⟩ := a.m x o h
    exact b.n x o' h' (a.n x o h hf), fun x o h => by
    obtain ⟨o', h'⟩ := a.m x o h
    exact b.m x o' h'⟩
theorem Gm.up (a : Gm [] F H F1 H1) : Gm M F H F1 H1 := ⟨a.f, a.s, fun x o _ h => a.h x o (by simp) h, a.n, a.m⟩
/-- an owned object of the caller's that the callee leaves -/
theorem Gm.own (a : Gm M F H F1 H1) {p : Addr} {o : HO} (hp : p ∉ M) (h : H p = some o) (f : F p = none) : H1 p = some o ∧ F1 p = none := ⟨a.h p o hp h, a.n p o h f⟩
theorem Gm.fresh (a : Gm M F H F1 H1) {p : Addr} (h : H1 p = none) : H p = none := by
  cases e : H p with
  | none => rfl
  | some o =>
    obtain ⟨o', h'⟩ := a.m p o e
    rw [h] at h'
    cases h'
/-- a new fixed object -/
theorem Gm.new (e : Ex F H) {p : Addr} {o : HO} (h : H p = none) : Gm M F H (upd F p o) (upd H p o) := by
  have hf : F p = none := by
    cases q : F p with
    | none => rfl
    | some u => rw [e p u q] at h; cases h
  refine ⟨Ex.new hf, fun a u ha => ?_, fun a u _ ha => ?_, fun a u ha hn => ?_, fun a u ha => ?_⟩
  · by_cases q : a = p
    · subst q; rw [upd_same] at ha ⊢; exact ha
    · rw [upd_ne q] at ha ⊢; exact e a u ha
  · rw [upd_ne (ne_of_none ha h)]; exact ha
  · rw [upd_ne (ne_of_none ha h)]; exact hn
  · exact ⟨u, by rw [upd_ne (ne_of_none ha h)]; exact ha⟩
/-- a new object that may change -/
theorem Gm.newM (e : Ex F H) {p : Addr} {o : HO} (h : H p = none) : Gm M F H F (upd H p o) := by
  refine ⟨Ex.refl _, fun a u ha => ?_, fun a u _ ha => ?_, fun a u ha hn => hn, fun a u ha => ?_⟩
  · rw [upd_ne (ne_of_none (e a u ha) h)]; exact e a u ha
  · rw [upd_ne (ne_of_none ha h)]; exact ha
  · exact ⟨u, by rw [upd_ne (ne_of_none ha h)]; exact ha⟩
/-- an own object changes -/
theorem Gm.put (e : Ex F H) {p : Addr} {o u : HO} (h : H p = some u) (hf : F p = none) : Gm (p :: M) F H F (upd H p o) := by
  refine ⟨Ex.refl _, fun a u ha => ?_, fun a u hM ha => ?_, fun a u ha hn => hn, fun a u ha => ?_⟩
  · have q : a ≠ p := fun q => by rw [q, hf] at ha; cases ha
    rw [upd_ne q]; exact e a u ha
  · have q : a ≠ p := fun q => hM (by rw [q]; simp)
    rw [upd_ne q]; exact ha
  · by_cases q : a = p
    · subst q; exact ⟨o, upd_same⟩
    · exact ⟨u, by rw [upd_ne q]; exact ha⟩
/-- a change of an object that is younger than F0 H0 -/
theorem Gm.putYoung {F0 H0 : Hp} (g : Gm M F0 H0 F H) {p : Addr} {o u : HO} (h : H p = some u) (hf : F p = none) (h0 : H0 p = none) : Gm M F0 H0 F (upd H p o) := by
  refine ⟨g.f, fun a u ha => ?_, fun a u hM ha => ?_, g.n, fun a u ha => ?_⟩
  · have q : a ≠ p := fun q => by rw [q, hf] at ha; cases ha
    rw [upd_ne q]; exact g.s a u ha
  · have q : a ≠ p := fun q => by rw [q, h0] at ha; cases ha
    rw [upd_ne q]; exact g.h a u hM ha
  · by_cases q : a = p
    · subst q; exact ⟨o, upd_same⟩
    · obtain ⟨o', h'⟩ := g.m a u ha
      exact ⟨o', by rw [upd_ne q]; exact h'⟩
/-- an own young object is fixed -/
theorem Gm.fix {F0 H0 : Hp} (g : Gm M F0 H0 F H) {p : Addr} {o : HO} (h : H p = some o) (hf : F p = none) (h0 : H0 p = none) : Gm M F0 H0 (upd F p o) H := by
  refine ⟨fun a u ha => ?_, fun a u ha => ?_, g.h, fun a u ha hn => ?_, g.m⟩
  · have q : a ≠ p := fun q => by
      have z := g.f a u ha
      rw [q, hf] at z; cases z
    rw [upd_ne q]; exact g.f a u ha
  · by_cases q : a = p
    · subst q; rw [upd_same] at ha; rw [h]; exact ha
    · rw [upd_ne q] at ha; exact g.s a u ha
  · have q : a ≠ p := fun q => by rw [q, h0] at ha; cases ha
    rw [upd_ne q]; exact g.n a u ha hn
end

/-- what follows an answer -/
def Ret (M : List Addr) (F H : Hp) (S : Hp → Hp → V → Prop) (Q : VK) : Prop := ∀ v F' H', Gm M F H F' H' → S F' H' v → Q v H'
theorem Ret.then_ {M : List Addr} {F H F1 H1 : Hp} {S : Hp → Hp → V → Prop} {Q : VK} (k : Ret M F H S Q) (g : Gm M F H F1 H1) : Ret M F1 H1 S Q := fun v F' H' g' s => k v F' H' (g.trans g') s

/-! ### data -/
mutual
inductive Dq (K : PySem.W.Frag) (H : Hp) : V → PyData → Prop
  | non : Dq K H .non .none
  | bl (b : Bool) : Dq K H (.bl b) (.bool b)
  | int (i : Int) : Dq K H (.int i) (.int i)
  | str (x : Str) : Dq K H (.str x) (.str x)
  | lst {a : Addr} {xs : List V} {ds : List PyData} : H a = some (.lst xs) → DqAll K H xs ds → Dq K H (.ref a) (.list ds)
  | tup {a : Addr} {xs : List V} {ds : List PyData} : SqT K H a xs → DqAll K H xs ds → Dq K H (.ref a) (.tuple ds)
inductive DqAll (K : PySem.W.Frag) (H : Hp) : List V → List PyData → Prop
  | nil : DqAll K H [] []
  | cons {v : V} {vs : List V} {d : PyData} {ds : List PyData} : Dq K H v d → DqAll K H vs ds → DqAll K H (v :: vs) (d :: ds)
end
section
variable {K : PySem.W.Frag} {F F' H H' : Hp}
mutual
theorem dp_mono (e : Ex F F') : ∀ (d : PyData) (v : V), Dq K F v d → Dq K F' v d
  | .none, _, .non => .non
  | .bool _, _, .bl b => .bl b
  | .int _, _, .int i => .int i
  | .str _, _, .str x => .str x
  | .list ds, _, .lst h a => .lst (e _ _ h) (dpAll_mono e ds _ a)
  | .tuple ds, _, .tup h a => .tup (ex_t e h) (dpAll_mono e ds _ a)
  | .dict _, _, h => by cases h
theorem dpAll_mono (e : Ex F F') : ∀ (ds : List PyData) (vs : List V), DqAll K F vs ds → DqAll K F' vs ds
  | [], _, .nil => .nil
  | d :: ds, _, .cons h a => .cons (dp_mono e d _ h) (dpAll_mono e ds _ a)
end
mutual
theorem dq_dp : ∀ (d : PyData) (v : V), Dq K F v d → Dp K F v d
  | .none, _, .non => .non
  | .bool _, _, .bl b => .bl b
  | .int _, _, .int i => .int i
  | .str _, _, .str x => .str x
  | .list ds, _, .lst h a => .lst (sq_of h) (dqAll_dp ds _ a)
  | .tuple ds, _, .tup h a => .tup h (dqAll_dp ds _ a)
  | .dict _, _, h => by cases h
theorem dqAll_dp : ∀ (ds : List PyData) (vs : List V), DqAll K F vs ds → DpAll K F vs ds
  | [], _, .nil => .nil
  | d :: ds, _, .cons h a => .cons (dq_dp d _ h) (dqAll_dp ds _ a)
end
theorem _root_.Wk.Dq.dp {v : V} {d : PyData} (h : Dq K F v d) (e : Ex F F') : Dp K F' v d := dq_dp d v (dp_mono e d v h)
theorem _root_.Wk.Dq.up {v : V} {d : PyData} (h : Dq K F v d) (e : Ex F F') : Dq K F' v d := dp_mono e d v h
theorem _root_.Wk.DqAll.up {v : List V} {d : List PyData} (h : DqAll K F v d) (e : Ex F F') : DqAll K F' v d := dpAll_mono e d v h
theorem _root_.Wk.DqAll.len {vs : List V} {ds : List PyData} (h : DqAll K F vs ds) : vs.length = ds.length := by
  induction ds generalizing vs with
  | nil => cases h; rfl
  | cons d ds ih => cases h with | cons h a => simp [ih a]
theorem _root_.Wk.DqAll.get {vs : List V} {ds : List PyData} (h : DqAll K F vs ds) : ∀ {i : Nat} {d : PyData}, ds[i]? = some d → ∃ v, vs[i]? = some v ∧ Dq K F v d := by
  induction ds generalizing vs with
  | nil => intro i d e; simp at e
  | cons d ds ih =>
    cases h with
    | cons h a =>
      intro i x e
      cases i with
      | zero => simp at e; subst e; exact ⟨_, rfl, h⟩
      | succ i => simpa using ih a (by simpa using e)
theorem _root_.Wk.DqAll.getV {vs : List V} {ds : List PyData} (h : DqAll K F vs ds) : ∀ {i : Nat} {v : V}, vs[i]? = some v → ∃ d, ds[i]? = some d ∧ Dq K F v d := by
  induction ds generalizing vs with
  | nil => cases h; intro i d e; simp at e
  | cons d ds ih =>
    cases h with
    | cons h a =>
      intro i x e
      cases i with
      | zero => simp at e; subst e; exact ⟨_, rfl, h⟩
      | succ i => simpa using ih a (by simpa using e)
theorem _root_.Wk.DqAll.app {vs ws : List V} {ds es : List PyData} (h : DqAll K F vs ds) (h2 : DqAll K F ws es) : DqAll K F (vs ++ ws) (ds ++ es) := by
  induction ds generalizing vs with
  | nil => cases h; exact h2
  | cons d ds ih => cases h with | cons h a => exact .cons h (ih a)
theorem _root_.Wk.DqAll.take {vs : List V} {ds : List PyData} (h : DqAll K F vs ds) : ∀ n, DqAll K F (vs.take n) (ds.take n) := by
  induction ds generalizing vs with
  | nil => cases h; intro n; simp; exact .nil
  | cons d ds ih =>
    cases h with
    | cons h a =>
      intro n
      cases n with
      | zero => exact .nil
      | succ n => exact .cons h (ih a n)
theorem _root_.Wk.DqAll.drop {vs : List V} {ds : List PyData} (h : DqAll K F vs ds) : ∀ n, DqAll K F (vs.drop n) (ds.drop n) := by
  induction ds generalizing vs with
  | nil => cases h; intro n; simp; exact .nil
  | cons d ds ih =>
    cases h with
    | cons h a =>
      intro n
      cases n with
      | zero => exact .cons h a
      | succ n => exact ih a n
theorem dp_int {v : V} {i : Int} (h : Dq K F v (.int i)) : v = .int i := by cases h; rfl
theorem dp_bl {v : V} {b : Bool} (h : Dq K F v (.bool b)) : v = .bl b := by cases h; rfl
theorem dp_non {v : V} (h : Dq K F v .none) : v = .non := by cases h; rfl
theorem dp_str {v : V} {x : Str} (h : Dq K F v (.str x)) : v = .str x := by cases h; rfl
theorem dp_lst {v : V} {ds : List PyData} (h : Dq K F v (.list ds)) : ∃ p xs, v = .ref p ∧ F p = some (.lst xs) ∧ DqAll K F xs ds := by
  cases h with | lst h a => exact ⟨_, _, rfl, h, a⟩
theorem dp_tup {v : V} {ds : List PyData} (h : Dq K F v (.tuple ds)) : ∃ p xs, v = .ref p ∧ SqT K F p xs ∧ DqAll K F xs ds := by
  cases h with | tup h a => exact ⟨_, _, rfl, h, a⟩
theorem dp_tup2 {v : V} {d e : PyData} (h : Dq K F v (.tuple [d, e])) : ∃ p x y, v = .ref p ∧ SqT K F p [x, y] ∧ Dq K F x d ∧ Dq K F y e := by
  obtain ⟨p, xs, rfl, hs, a⟩ := dp_tup h
  cases a with | cons h1 a => cases a with | cons h2 a => cases a; exact ⟨p, _, _, rfl, hs, h1, h2⟩
theorem dp_tup3 {v : V} {d e f : PyData} (h : Dq K F v (.tuple [d, e, f])) : ∃ p x y z, v = .ref p ∧ SqT K F p [x, y, z] ∧ Dq K F x d ∧ Dq K F y e ∧ Dq K F z f := by
  obtain ⟨p, xs, rfl, hs, a⟩ := dp_tup h
  cases a with | cons h1 a => cases a with | cons h2 a => cases a with | cons h3 a => cases a; exact ⟨p, _, _, _, rfl, hs, h1, h2, h3⟩
end

/-! ### new tuples, new lists -/
section
variable {K : PySem.W.Frag} {M : List Addr} {F H : Hp} {Q : VK} {xs : List V} {ds : List PyData}
theorem new_tup (e : Ex F H) (a : DqAll K F xs ds) (hl : xs.length ≤ 100000) (k : Ret M F H (fun F' _ v => Dq K F' v (.tuple ds)) Q) : xs.length ≤ sizeLine ∧ ∀ p, H p = none → Q (.ref p) (upd H p (.tup xs)) :=
  ⟨sz_of hl, fun p hp => by
    have g : Gm M F H (upd F p (.tup xs)) (upd H p (.tup xs)) := Gm.new e hp
    exact k _ _ _ g (.tup (st_of upd_same) (a.up g.f))⟩
theorem new_lst (e : Ex F H) (a : DqAll K F xs ds) (hl : xs.length ≤ 100000) (k : Ret M F H (fun F' _ v => Dq K F' v (.list ds)) Q) : xs.length ≤ sizeLine ∧ ∀ p, H p = none → Q (.ref p) (upd H p (.lst xs)) :=
  ⟨sz_of hl, fun p hp => by
    have g : Gm M F H (upd F p (.lst xs)) (upd H p (.lst xs)) := Gm.new e hp
    exact k _ _ _ g (.lst upd_same (a.up g.f))⟩
end

/-! ### encoders -/
def eN (_ : Unit) : PyData := .none
def e2 {α β : Type} (f : α → PyData) (g : β → PyData) (p : α × β) : PyData := .tuple [f p.1, g p.2]
def e1 {α : Type} (f : α → PyData) (p : α) : PyData := .tuple [f p]
def e3 {α β γ : Type} (f : α → PyData) (g : β → PyData) (h : γ → PyData) (p : α × β × γ) : PyData := .tuple [f p.1, g p.2.1, h p.2.2]
def eL {α : Type} (f : α → PyData) (l : List α) : PyData := .list (l.map f)
def eV {α : Type} (f : α → PyData) (l : List α) : PyData := .tuple (l.map f)
def eO {α : Type} (f : α → PyData) (o : Option α) : PyData := match o with
  | none => .none
  | some a => f a
/-- data of a depth at most n whose equality is that of the values -/
structure Sh {α : Type} [DecidableEq α] (f : α → PyData) (n : Nat) : Prop where
  lay : ∀ a, (f a).canLay0 = true
  dep : ∀ a, (f a).depth ≤ n
  eq : ∀ a b, PyData.eqv (f a) (f b) = decide (a = b)
section
variable {α β γ : Type} [DecidableEq α] [DecidableEq β] [DecidableEq γ] {f : α → PyData} {g : β → PyData} {h : γ → PyData} {n m k : Nat}
theorem Sh.shaped (s : Sh f n) (hn : n ≤ 64 := by decide) (a : α) : SeqAt.shaped (f a) = true := by
  unfold SeqAt.shaped
  rw [s.lay a, Bool.true_and]
  exact decide_eq_true (Nat.le_trans (s.dep a) hn)
theorem sh_int : Sh PyData.int 0 := ⟨fun _ => by simp [PyData.canLay0], fun _ => by simp [PyData.depth], fun a b => by simp only [PyData.eqv]; exact Bool.eq_iff_iff.mpr (by simp)⟩
theorem sh_bool : Sh PyData.bool 0 := ⟨fun _ => by simp [PyData.canLay0], fun _ => by simp [PyData.depth], fun a b => by simp only [PyData.eqv]; exact Bool.eq_iff_iff.mpr (by simp)⟩
theorem sh_n : Sh eN 0 := ⟨fun _ => by simp [eN, PyData.canLay0], fun _ => by simp [eN, PyData.depth], fun a b => by simp [eN, PyData.eqv]⟩
theorem sh_e2 (a : Sh f n) (b : Sh g m) : Sh (e2 f g) (max n m + 1) := ⟨fun x => by simp [e2, PyData.canLay0, PyData.canLayAll0, a.lay, b.lay], fun x => by
    have := a.dep x.1
    have := b.dep x.2
    simp [e2, PyData.depth, PyData.depthAll]
    omega, fun x y => by
    obtain ⟨x1, x2⟩ := x
    obtain ⟨y1, y2⟩ := y
    simp only [e2, PyData.eqv, PyData.eqvAll, a.eq, b.eq]
    exact Bool.eq_iff_iff.mpr (by simp)⟩
theorem sh_e3 (a : Sh f n) (b : Sh g m) (c : Sh h k) : Sh (e3 f g h) (max (max n m) k + 1) := ⟨fun x => by simp [e3, PyData.canLay0, PyData.canLayAll0, a.lay, b.lay, c.lay], fun x => by
    have := a.dep x.1
    have := b.dep x.2.1
    have := c.dep x.2.2
    simp [e3, PyData.depth, PyData.depthAll]
    omega, fun x y => by
    obtain ⟨x1, x2, x3⟩ := x
    obtain ⟨y1, y2, y3⟩ := y
    simp only [e3, PyData.eqv, PyData.eqvAll, a.eq, b.eq, c.eq]
    exact Bool.eq_iff_iff.mpr (by simp)⟩
theorem lay_map (a : Sh f n) : ∀ l : List α, PyData.canLayAll0 (l.map f) = true
  | [] => by simp [PyData.canLayAll0]
  | x :: l => by simp [PyData.canLayAll0, a.lay, lay_map a l]
theorem dep_map (a : Sh f n) : ∀ l : List α, PyData.depthAll (l.map f) ≤ n
  | [] => by simp [PyData.depthAll]
  | x :: l => by
    have := a.dep x
    have := dep_map a l
    simp [PyData.depthAll]
    omega
theorem eqv_map (a : Sh f n) : ∀ l r : List α, PyData.eqvAll (l.map f) (r.map f) = decide (l = r)
  | [], [] => by simp [PyData.eqvAll]
  | [], _ :: _ => by simp [PyData.eqvAll]
  | _ :: _, [] => by simp [PyData.eqvAll]
  | x :: l, y :: r => by
    simp only [List.map_cons, PyData.eqvAll, a.eq, eqv_map a l r]
    exact Bool.eq_iff_iff.mpr (by simp)
theorem sh_eL (a : Sh f n) : Sh (eL f) (n + 1) := ⟨fun l => by simp [eL, PyData.canLay0, lay_map a l], fun l => by
    have := dep_map a l
    simp [eL, PyData.depth]
    omega, fun l r => by simp only [eL, PyData.eqv]; exact eqv_map a l r⟩
theorem sh_eV (a : Sh f n) : Sh (eV f) (n + 1) := ⟨fun l => by simp [eV, PyData.canLay0, lay_map a l], fun l => by
    have := dep_map a l
    simp [eV, PyData.depth]
    omega, fun l r => by simp only [eV, PyData.eqv]; exact eqv_map a l r⟩
end
/-! == and != of such data -/
section
variable {X : Cx} {α : Type} [DecidableEq α] {f : α → PyData} {n : Nat}
def rEqM (K : PySem.W.Frag) (f : α → PyData) : R2 := fun x y H Q => ∃ a b : α, Dp K H x (f a) ∧ Dp K H y (f b) ∧ Q (.bl (decide (a = b))) H
def rNeM (K : PySem.W.Frag) (f : α → PyData) : R2 := fun x y H Q => ∃ a b : α, Dp K H x (f a) ∧ Dp K H y (f b) ∧ Q (.bl (!decide (a = b))) H
theorem op_eqM (s : Sh f n) (hu : X.A.units + 64 < cLine) (hn : n ≤ 64 := by decide) : OpR X (compareOp .Eq) (rEqM X.K f) := by
  intro pins st σ H x y v u Q I rx ry h
  obtain ⟨a, b, ha, hb, q⟩ := h
  exact op_eqD hu pins st σ H x y v u Q I rx ry ⟨f a, f b, ha, hb, s.shaped hn a, s.shaped hn b, by rw [s.eq]; exact q⟩
theorem op_neM (s : Sh f n) (hu : X.A.units + 64 < cLine) (hn : n ≤ 64 := by decide) : OpR X (compareOp .NotEq) (rNeM X.K f) := by
  intro pins st σ H x y v u Q I rx ry h
  obtain ⟨a, b, ha, hb, q⟩ := h
  exact op_neD hu pins st σ H x y v u Q I rx ry ⟨f a, f b, ha, hb, s.shaped hn a, s.shaped hn b, by rw [s.eq]; exact q⟩
end
end Wk

set_option Elab.async false
set_option linter.all false
set_option maxRecDepth 100000
set_option maxHeartbeats 4000000
namespace Wk
open PySem L2 Evl

/-! ### defs that are known -/
structure Kn (P : Program) (w : World) (K : PySem.W.Frag) (mg : Str → Option Value) (base : Heap) (x : Str) (k : Nat) (ps : List Str) (sp : Sp) : Prop where
  ex : ∃ f fd, FnOk P w K mg base CX0 k f fd ps sp ∧ mg x = some (.ref f) ∧ PySem.W.keepIn K (.ref f) = true ∧ Binds K fd ps []
section
variable {X : Cx} {x : Str} {k : Nat} {ps : List Str} {sp : Sp} {p pos : Pos} {e : Expr} {es : List Expr} {t : TA}
theorem pe_kn (G : Kn X.prog X.w X.K X.mg X.base x k ps sp) (hr : Room k X.A) (ha : PA X (e :: es) t) (hg : Gl X x := by rfl) (hdb : (x == ("__debug__" : Str)) = false := by decide)
    (he : starEach (e :: es) X.env = (false, eval e X.env) :: starEach es X.env := by rfl) (hpl : (backTo pos (starEach es X.env)).any (·.1) = false := by rfl) : PE X (.Call (.Name x p) (e :: es) [] pos) (tCall sp [] E0 t) := by
  obtain ⟨f, fd, F, hm, hk, hb⟩ := G.ex
  exact pe_call F hr hg hm hk hb .nil pass0 ha hdb he hpl
theorem pe_kn0 (G : Kn X.prog X.w X.K X.mg X.base x k ps sp) (hr : Room k X.A) (hg : Gl X x := by rfl) (hdb : (x == ("__debug__" : Str)) = false := by decide) : PE X (.Call (.Name x p) [] [] pos) (tCall sp [] E0 tNil) := by
  obtain ⟨f, fd, F, hm, hk, hb⟩ := G.ex
  exact pe_call0 F hr hg hm hk hb .nil pass0 hdb
end

/-! ### the row of draws -/
structure Rw where
  pos : Int
  seed : Int
  left : Int
/-- the row at ra: the script at sc, ints n -/
def RowAt (K : PySem.W.Frag) (sc ra : Addr) (scr : List Int) (F H : Hp) (st : Rw) : Prop :=
  H ra = some (.lst [.ref sc, .int st.pos, .int st.seed, .int st.left]) ∧ F ra = none ∧ SqL K F sc (scr.map V.int)
theorem RowAt.keep {K : PySem.W.Frag} {sc ra : Addr} {scr : List Int} {F H F' H' : Hp} {st : Rw} (w : RowAt K sc ra scr F H st) (g : Gm [] F H F' H') : RowAt K sc ra scr F' H' st :=
  ⟨(g.own (by simp) w.1 w.2.1).1, (g.own (by simp) w.1 w.2.1).2, ex_l g.f w.2.2⟩

/-! ### loops -/
inductive Fl (R S : Type) where
  | go (s : S)
  | brk (s : S)
  | ret (r : R)
def foldM {α S : Type} (f : S → α → Mm S) : S → List α → Mm S
  | s, [] => .ok s
  | s, x :: xs => (f s x).bd fun s' => foldM f s' xs
/-- a loop that may be left -/
def foldL {α R S : Type} (f : S → α → Mm (Fl R S)) : S → List α → Mm (Fl R S)
  | s, [] => .ok (.go s)
  | s, x :: xs => (f s x).bd fun o => match o with
    | .go s' => foldL f s' xs
    | .brk s' => .ok (.go s')
    | .ret r => .ok (.ret r)
def Fl.el {R S β : Type} (o : Fl R S) (go : S → Mm β) (ret : R → Mm β) : Mm β := match o with
  | .go s => go s
  | .brk s => go s
  | .ret r => ret r
def foldW {S : Type} (c : S → Mm Bool) (f : S → Mm S) : Nat → S → Mm S
  | 0, _ => .bad
  | n + 1, s => (c s).bd fun b => match b with
    | true => (f s).bd fun s' => foldW c f n s'
    | false => .ok s
theorem post_assoc {α β γ : Type} {m : Mm α} {f : α → Mm β} {g : β → Mm γ} {p : γ → Prop} {q : Er → Prop} (h : Post ((m.bd f).bd g) p q) : Post (m.bd fun a => (f a).bd g) p q := by
  cases m <;> exact ⟨h.h⟩
section
variable {K : PySem.W.Frag} {M : List Addr} {F H : Hp} {σ : L2.St} {D : Ends} {g : TG} {tb : TS} {α β S : Type} {xs : List V} {l : List α} {step : S → α → Mm S} {rest : S → Mm β} {ok : β → Prop} {ex : Er → Prop} {s0 : S} {J : It} {n : Nat} {G : Hp → Prop} {Y : Nat → Hp → V → Hp → Prop}
/-- a for over anything that walks, no way out but by its end; Z: what a turn finds of the i-th item -/
theorem for_mir (w : Walk J n G Y) (I : S → Hp → Hp → L2.St → Prop) (k : Post ((foldM step s0 l).bd rest) ok ex) (e : Ex F H) (h0 : I s0 F H σ) (hn : l.length = n) (hG : ∀ F' H', Gm M F H F' H' → G H')
    (hb : ∀ i s x v σ' F' H' H'' , Gm M F H F' H' → I s F' H' σ' → l[i]? = some x → Y i H' v H'' → ∀ nx : L2.St → Hp → Prop,
      Post (step s x) (fun s' => ∀ σ2 F2 H2, Gm M F H F2 H2 → I s' F2 H2 σ2 → nx σ2 H2) ex → g v σ' H'' fun σ2 H2 => tb { D with nx := nx, ct := nx, bk := D.nx } σ2 H2)
    (kk : ∀ s σ' F' H', Gm M F H F' H' → I s F' H' σ' → Post (rest s) ok ex → D.nx σ' H') :
    ∃ W : Nat → Nat → L2.St → Hp → Prop, (∃ m, W 0 m σ H) ∧ ∀ i m σ H, W i m σ H →
      (J.stop i H ∧ D.nx σ H) ∨ (J.go i H ∧ ∃ N : L2.St → Hp → Prop, (∀ σ' H', N σ' H' → ∃ m', m' < m ∧ W (i + 1) m' σ' H') ∧ ∀ x H', J.yld i H x H' → g x σ H' fun σ2 H2 => tb { D with nx := N, ct := N, bk := D.nx } σ2 H2) := by
  refine for_it w (fun i σ' H' => ∃ s F', Gm M F H F' H' ∧ I s F' H' σ' ∧ Post ((foldM step s (l.drop i)).bd rest) ok ex) ⟨s0, F, Gm.refl e, h0, k⟩ (fun i σ' H' _ ⟨s, F', g', _, _⟩ => hG F' H' g') ?_ ?_
  · rintro i v σ' H' H'' hi ⟨s, F', g', i', k'⟩ y
    have hl : i < l.length := by omega
    have e1 : l.drop i = l[i] :: l.drop (i + 1) := List.drop_eq_getElem_cons hl
    rw [e1] at k'
    have k2 := post_bd (post_assoc k')
    exact hb i s l[i] v σ' F' H' H'' g' i' (List.getElem?_eq_getElem hl) y _ (k2.mono (fun s' q σ2 F2 H2 g2 i2 => ⟨s', F2, g2, i2, q⟩) fun _ z => z)
  · rintro σ' H' ⟨s, F', g', i', k'⟩
    rw [← hn, List.drop_length] at k'
    exact kk s σ' F' H' g' i' ⟨k'.h⟩
/-- the same with ways out: brk, ret -/
theorem for_mirL {R : Type} {stepL : S → α → Mm (Fl R S)} {rest : S → Mm β} {ret : R → Mm β} (w : Walk J n G Y) (I : S → Hp → Hp → L2.St → Prop) (k : Post ((foldL stepL s0 l).bd fun o => o.el rest ret) ok ex) (e : Ex F H) (h0 : I s0 F H σ) (hn : l.length = n) (hG : ∀ F' H', Gm M F H F' H' → G H')
    (hb : ∀ i s x v σ' F' H' H'' , Gm M F H F' H' → I s F' H' σ' → l[i]? = some x → Y i H' v H'' → ∀ nx : L2.St → Hp → Prop,
      Post (stepL s x) (fun o => match o with
        | .go s' => ∀ σ2 F2 H2, Gm M F H F2 H2 → I s' F2 H2 σ2 → nx σ2 H2
        | .brk s' => ∀ σ2 F2 H2, Gm M F H F2 H2 → I s' F2 H2 σ2 → D.nx σ2 H2
        | .ret r => Post (ret r) ok ex) ex → g v σ' H'' fun σ2 H2 => tb { D with nx := nx, ct := nx, bk := D.nx } σ2 H2)
    (kk : ∀ s σ' F' H', Gm M F H F' H' → I s F' H' σ' → Post (rest s) ok ex → D.nx σ' H') :
    ∃ W : Nat → Nat → L2.St → Hp → Prop, (∃ m, W 0 m σ H) ∧ ∀ i m σ H, W i m σ H →
      (J.stop i H ∧ D.nx σ H) ∨ (J.go i H ∧ ∃ N : L2.St → Hp → Prop, (∀ σ' H', N σ' H' → ∃ m', m' < m ∧ W (i + 1) m' σ' H') ∧ ∀ x H', J.yld i H x H' → g x σ H' fun σ2 H2 => tb { D with nx := N, ct := N, bk := D.nx } σ2 H2) := by
  refine for_it w (fun i σ' H' => ∃ s F', Gm M F H F' H' ∧ I s F' H' σ' ∧ Post ((foldL stepL s (l.drop i)).bd fun o => o.el rest ret) ok ex) ⟨s0, F, Gm.refl e, h0, k⟩ (fun i σ' H' _ ⟨s, F', g', _, _⟩ => hG F' H' g') ?_ ?_
  · rintro i v σ' H' H'' hi ⟨s, F', g', i', k'⟩ y
    have hl : i < l.length := by omega
    have e1 : l.drop i = l[i] :: l.drop (i + 1) := List.drop_eq_getElem_cons hl
    rw [e1] at k'
    have k2 := post_bd (post_assoc k')
    refine hb i s l[i] v σ' F' H' H'' g' i' (List.getElem?_eq_getElem hl) y _ (k2.mono (fun o q => ?_) fun _ z => z)
    cases o with
    | go s' => exact fun σ2 F2 H2 g2 i2 => ⟨s', F2, g2, i2, ⟨q.h⟩⟩
    | brk s' => exact fun σ2 F2 H2 g2 i2 => kk s' σ2 F2 H2 g2 i2 ⟨q.h⟩
    | ret r => exact ⟨q.h⟩
  · rintro σ' H' ⟨s, F', g', i', k'⟩
    rw [← hn, List.drop_length] at k'
    exact kk s σ' F' H' g' i' ⟨k'.h⟩
/-- a while -/
theorem while_mir {c : TT} {cM : S → Mm Bool} {bM : S → Mm S} {N : Nat} (I : S → Hp → Hp → L2.St → Prop) (k : Post ((foldW cM bM N s0).bd rest) ok ex) (e : Ex F H) (h0 : I s0 F H σ)
    (hc : ∀ s σ' F' H', Gm M F H F' H' → I s F' H' σ' → ∀ Q : Bool → Hp → Prop, Post (cM s) (fun b => ∀ F2 H2, Gm M F H F2 H2 → I s F2 H2 σ' → Q b H2) ex → c σ' H' Q)
    (hb : ∀ s σ' F' H', Gm M F H F' H' → I s F' H' σ' → ∀ nx : L2.St → Hp → Prop, Post (bM s) (fun s' => ∀ σ2 F2 H2, Gm M F H F2 H2 → I s' F2 H2 σ2 → nx σ2 H2) ex → tb { D with nx := nx, ct := nx, bk := D.nx } σ' H')
    (kk : ∀ s σ' F' H', Gm M F H F' H' → I s F' H' σ' → Post (rest s) ok ex → D.nx σ' H') : tWhile c tb D σ H := by
  refine ⟨fun m σ' H' => ∃ s F', Gm M F H F' H' ∧ I s F' H' σ' ∧ Post ((foldW cM bM m s).bd rest) ok ex, ⟨N, s0, F, Gm.refl e, h0, k⟩, ?_⟩
  rintro m σ' H' ⟨s, F', g', i', k'⟩
  cases m with
  | zero => exact k'.h.elim
  | succ m =>
    refine hc s σ' F' H' g' i' _ ((post_bd (post_assoc k')).mono (fun b q F2 H2 g2 i2 => ?_) fun _ z => z)
    cases b with
    | false => exact kk s σ' F2 H2 g2 i2 ⟨q.h⟩
    | true =>
      refine ⟨fun σ2 H2 => ∃ s F', Gm M F H F' H2 ∧ I s F' H2 σ2 ∧ Post ((foldW cM bM m s).bd rest) ok ex, fun σ2 H2 ⟨s', F3, z⟩ => ⟨m, Nat.lt_succ_self _, s', F3, z⟩, ?_⟩
      exact hb s σ' F2 H2 g2 i2 _ ((post_bd (post_assoc (Post.mk q.h))).mono (fun s' q' σ2 F3 H3 g3 i3 => ⟨s', F3, g3, i3, q'⟩) fun _ z => z)
end

/-! ### comprehensions -/
def noEx {α : Type} (m : Mm α) : Mm α := match m with
  | .ex _ => .bad
  | .ok a => .ok a
  | .bad => .bad
theorem post_noEx {α : Type} {m : Mm α} {p : α → Prop} {q q' : Er → Prop} (h : Post (noEx m) p q) : Post m p q' := by
  cases m with
  | ok a => exact ⟨h.h⟩
  | ex e => exact h.h.elim
  | bad => exact h.h.elim
/-- the elements in turn; a state goes through; none: left out -/
def compM {α γ S : Type} (f : S → α → Mm (Option γ × S)) : S → List α → Mm (List γ × S)
  | s, [] => .ok ([], s)
  | s, x :: xs => (f s x).bd fun o => (compM f o.2 xs).bd fun r => .ok (o.1.toList ++ r.1, r.2)
section
variable {K : PySem.W.Frag} {M : List Addr} {F H : Hp} {σ : L2.St} {g : TG} {tt : TT} {te : TE} {vs : List Nat} {α β γ S : Type} {l : List α} {f : S → α → Mm (Option γ × S)} {rest : List γ × S → Mm β} {ok : β → Prop} {ex : Er → Prop} {s0 : S} {J : It} {n : Nat} {G : Hp → Prop} {Y : Nat → Hp → V → Hp → Prop} {Q : VK}
theorem comp_post {acc : List γ} {s : S} {l : List α} {rest : List γ × S → Mm β} : ∀ {ok : β → Prop} {ex : Er → Prop} {f : S → α → Mm (Option γ × S)} {x : α},
    Post (((compM f s (x :: l)).bd fun r => rest (acc ++ r.1, r.2))) ok ex → Post (f s x) (fun o => Post ((compM f o.2 l).bd fun r => rest ((acc ++ o.1.toList) ++ r.1, r.2)) ok ex) ex := by
  intro ok ex f x h
  have h1 := post_bd (post_assoc h)
  refine h1.mono (fun o q => ?_) fun _ z => z
  have h2 := post_assoc q
  simpa only [bd_ok, List.append_assoc] using h2
/-- what a comprehension's state asks of its word: a younger object may change, may be fixed -/
structure Stab (I : S → Hp → Hp → Prop) (H : Hp) : Prop where
  put : ∀ s F' H' D xs, I s F' H' → H D = none → I s F' (upd H' D (.lst xs))
  fix : ∀ s F' H' D xs, I s F' H' → H D = none → F' D = none → I s (upd F' D (.lst xs)) H'
/-- a comprehension: enc: how an element is told -/
theorem lc_mir (w : Walk J n G Y) (en : γ → PyData) (I : S → Hp → Hp → Prop) (k : Post ((compM f s0 l).bd rest) ok ex) (e : Ex F H) (h0 : I s0 F H) (st : Stab I H) (hn : l.length = n) (hz : l.length ≤ 50000) (hG : ∀ F' H', Gm M F H F' H' → G H')
    (hM : ∀ D, H D = none → D ∉ M)
    (hb : ∀ i s x v F' H' H'', Gm M F H F' H' → I s F' H' → l[i]? = some x → Y i H' v H'' → ∀ Q : Option V → Hp → Prop,
      Post (f s x) (fun o => ∀ F2 H2 v, Gm M F' H' F2 H2 → I o.2 F2 H2 → (match o.1 with
        | some y => ∃ u, v = some u ∧ Dq K F2 u (en y)
        | none => v = none) → Q v H2) (fun _ => False) →
      g v (wipe σ vs) H'' fun σ2 H2 => wipe σ2 vs = wipe σ vs ∧ tt σ2 H2 fun b H3 => if b = true then te σ2 H3 fun y H4 => Q (some y) H4 else Q none H3)
    (hx : ∀ e, ¬ ex e)
    (kk : ∀ (r : List γ × S) v F' H', Gm M F H F' H' → I r.2 F' H' → Dq K F' v (.list (r.1.map en)) → Post (rest r) ok ex → Q v H') :
    ∀ D, H D = none → ∃ W : Nat → Nat → Hp → Prop, (∃ m, W 0 m (upd H D (.lst []))) ∧ ∀ i m H, W i m H →
      (J.stop i H ∧ Q (.ref D) H) ∨ (J.go i H ∧ ∃ Nx : Hp → Prop, (∀ H', Nx H' → ∃ m', m' < m ∧ W (i + 1) m' H') ∧ ∀ x H', J.yld i H x H' → g x (wipe σ vs) H' fun σ2 H2 => wipe σ2 vs = wipe σ vs ∧ tt σ2 H2 fun b H3 =>
        if b = true then te σ2 H3 fun y H4 => ∃ acc, H4 D = some (.lst acc) ∧ acc.length < sizeLine ∧ Nx (upd H4 D (.lst (acc ++ [y]))) else Nx H3) := by
  intro D hD
  have k0 : Post ((compM f s0 (l.drop 0)).bd fun r => rest ([] ++ r.1, r.2)) ok ex := by simpa using k
  refine lc_it w (fun i H' => ∃ (s : S) (acc : List γ) (xs : List V) (F' : Hp), Gm M F H F' H' ∧ I s F' H' ∧ H' D = some (.lst xs) ∧ F' D = none ∧ DqAll K F' xs (acc.map en) ∧ xs.length ≤ i ∧ Post ((compM f s (l.drop i)).bd fun r => rest (acc ++ r.1, r.2)) ok ex)
    ⟨s0, [], [], F, Gm.newM e hD, st.put s0 F H D _ h0 hD, upd_same, ?_, .nil, Nat.le_refl _, k0⟩ (fun i H' _ ⟨s, acc, xs, F', g', _⟩ => hG F' H' g') ?_ ?_
  · cases q : F D with
    | none => rfl
    | some u => rw [e D u q] at hD; cases hD
  · rintro i v H' H'' hi ⟨s, acc, xs, F', g', i', hL, fL, ha, hlen, k'⟩ y
    have hl : i < l.length := by omega
    have e1 : l.drop i = l[i] :: l.drop (i + 1) := List.drop_eq_getElem_cons hl
    rw [e1] at k'
    have k2 := comp_post k'
    have hDM : D ∉ M := hM D hD
    have z := hb i s l[i] v F' H' H'' g' i' (List.getElem?_eq_getElem hl) y (fun o H4 => match o with
      | some y => ∃ acc', H4 D = some (.lst acc') ∧ acc'.length < sizeLine ∧ ∃ (s : S) (acc : List γ) (xs : List V) (F' : Hp), Gm M F H F' (upd H4 D (.lst (acc' ++ [y]))) ∧ I s F' (upd H4 D (.lst (acc' ++ [y]))) ∧ (upd H4 D (.lst (acc' ++ [y]))) D = some (.lst xs) ∧ F' D = none ∧ DqAll K F' xs (acc.map en) ∧ xs.length ≤ i + 1 ∧ Post ((compM f s (l.drop (i + 1))).bd fun r => rest (acc ++ r.1, r.2)) ok ex
      | none => ∃ (s : S) (acc : List γ) (xs : List V) (F' : Hp), Gm M F H F' H4 ∧ I s F' H4 ∧ H4 D = some (.lst xs) ∧ F' D = none ∧ DqAll K F' xs (acc.map en) ∧ xs.length ≤ i + 1 ∧ Post ((compM f s (l.drop (i + 1))).bd fun r => rest (acc ++ r.1, r.2)) ok ex)
      (k2.mono (fun o q F2 H2 v2 g2 i2 hv => ?_) fun e z => (hx e z).elim)
    · exact z
    · obtain ⟨h2L, f2L⟩ := g2.own hDM hL fL
      obtain ⟨o1, o2⟩ := o
      cases o1 with
      | some y =>
        obtain ⟨u, rfl, hu⟩ := hv
        refine ⟨xs, h2L, sz_lt (by omega), o2, acc ++ [y], xs ++ [u], F2, ?_, st.put _ _ _ _ _ i2 hD, upd_same, f2L, ?_, ?_, ?_⟩
        · exact (g'.trans g2).putYoung h2L f2L hD
        · rw [List.map_append]; exact (ha.up g2.f).app (.cons hu .nil)
        · rw [List.length_append, List.length_singleton]; omega
        · simpa using q
      | none =>
        subst hv
        refine ⟨o2, acc, xs, F2, g'.trans g2, i2, h2L, f2L, ha.up g2.f, by omega, ?_⟩
        simpa using q
  · rintro H' ⟨s, acc, xs, F', g', i', hL, fL, ha, hlen, k'⟩
    rw [← hn, List.drop_length] at k'
    have up : Ex F' (upd F' D (.lst xs)) := Ex.new fL
    exact kk (acc, s) _ (upd F' D (.lst xs)) H' (g'.fix hL fL hD) (st.fix _ _ _ _ _ i' hD fL) (.lst upd_same (ha.up up)) (by simpa [compM] using k')
theorem stab_row {K : PySem.W.Frag} {sc ra : Addr} {scr : List Int} {F H : Hp} {st : Rw} (w : RowAt K sc ra scr F H st) : Stab (fun s F H => RowAt K sc ra scr F H s) H := by
  have ne : ∀ D, H D = none → ra ≠ D := fun D hD q => by
    have z := w.1
    rw [q, hD] at z
    cases z
  refine ⟨fun s F' H' D xs i hD => ⟨?_, i.2.1, i.2.2⟩, fun s F' H' D xs i hD hf => ⟨i.1, ?_, ex_l (Ex.new hf) i.2.2⟩⟩
  · rw [upd_ne (ne D hD)]; exact i.1
  · rw [upd_ne (ne D hD)]; exact i.2.1
theorem stab_t {H : Hp} : Stab (fun (_ : Unit) _ _ => True) H := ⟨fun _ _ _ _ _ _ _ => trivial, fun _ _ _ _ _ _ _ _ => trivial⟩
theorem row_notM {K : PySem.W.Frag} {sc ra : Addr} {scr : List Int} {F H : Hp} {st : Rw} (w : RowAt K sc ra scr F H st) : ∀ D, H D = none → D ∉ [ra] := fun D hD q => by
  have z := w.1
  have e : D = ra := by simpa using q
  rw [← e, hD] at z
  cases z
end
end Wk

set_option Elab.async false
set_option linter.all false
set_option maxRecDepth 100000
set_option maxHeartbeats 4000000
namespace Wk
open PySem L2 Evl
/-! ### what follows, under a name -/
def QK (Q : VK) : VK := fun v H => Q v H
def tQ (te : TE) : TE := fun σ H Q => te σ H (QK Q)
section
variable {X : Cx} {x : Expr} {te : TE} {st : Stmt} {g : TG}
theorem pe_q (h : PE X x te) : PE X x (tQ te) := ⟨fun pins s σ H Q I q => h.run pins s σ H (QK Q) I q⟩
theorem ps_q (h : PS X st (tAsg te g)) : PS X st (tAsg (tQ te) g) := ⟨fun pins s σ H D I q => h.run pins s σ H D I q⟩
end
/-! ### joins -/
section
variable {M : List Addr} {F H : Hp} {σ : L2.St} {D : Ends} {α β : Type} {c a b : Bool} {A B : Prop} {X Y : Mm β} {rest : β → Mm α} {ok : α → Prop} {ex : Er → Prop} {Q : VK} {ta tb : TE} {tu tw : TS}
theorem cs {X Y : Mm α} (k : Post (cond c X Y) ok ex) (h1 : c = true → Post X ok ex → A) (h2 : c = false → Post Y ok ex → B) : if c = true then A else B := by
  cases c with
  | true => rw [if_pos rfl]; exact h1 rfl ⟨k.h⟩
  | false => rw [if_neg Bool.false_ne_true]; exact h2 rfl ⟨k.h⟩
theorem or_j {Q : Bool → Hp → Prop} {u : TT} (hu : a = false → ∀ Q' : Bool → Hp → Prop, Q' b H → u σ H Q') (k : Q (a || b) H) : if a = true then Q true H else u σ H Q := by
  cases a with
  | true => rw [if_pos rfl]; exact k
  | false => rw [if_neg Bool.false_ne_true]; exact hu rfl Q k
theorem and_j {Q : Bool → Hp → Prop} {u : TT} (hu : a = true → ∀ Q' : Bool → Hp → Prop, Q' b H → u σ H Q') (k : Q (a && b) H) : if a = true then u σ H Q else Q false H := by
  cases a with
  | true => rw [if_pos rfl]; exact hu rfl Q k
  | false => rw [if_neg Bool.false_ne_true]; exact k
theorem orV_j {u : TE} (hu : a = false → ∀ Q' : VK, Q' (.bl b) H → u σ H Q') (k : Q (.bl (a || b)) H) : if a = true then Q (.bl true) H else u σ H Q := by
  cases a with
  | true => rw [if_pos rfl]; exact k
  | false => rw [if_neg Bool.false_ne_true]; exact hu rfl Q k
theorem andV_j {u : TE} (hu : a = true → ∀ Q' : VK, Q' (.bl b) H → u σ H Q') (k : Q (.bl (a && b)) H) : if a = true then u σ H Q else Q (.bl false) H := by
  cases a with
  | true => rw [if_pos rfl]; exact hu rfl Q k
  | false => rw [if_neg Bool.false_ne_true]; exact k
/-- the second operand wants outcomes of its own -/
theorem or_jM {Q : Bool → Hp → Prop} {u : TT} {Y : Mm Bool} {rest : Bool → Mm α} (e : Ex F H) (k : Post ((cond a (.ok true) Y).bd rest) ok ex) (hu : a = false → ∀ Q' : Bool → Hp → Prop, Post Y (fun b => ∀ F' H', Gm M F H F' H' → Q' b H') ex → u σ H Q')
    (kk : ∀ b F' H', Gm M F H F' H' → Post (rest b) ok ex → Q b H') : if a = true then Q true H else u σ H Q := by
  cases a with
  | true => rw [if_pos rfl]; exact kk true F H (Gm.refl e) ⟨k.h⟩
  | false => rw [if_neg Bool.false_ne_true]; exact hu rfl Q ((post_bd k).mono (fun b q F' H' g => kk b F' H' g q) fun _ z => z)
theorem and_jM {Q : Bool → Hp → Prop} {u : TT} {Y : Mm Bool} {rest : Bool → Mm α} (e : Ex F H) (k : Post ((cond a Y (.ok false)).bd rest) ok ex) (hu : a = true → ∀ Q' : Bool → Hp → Prop, Post Y (fun b => ∀ F' H', Gm M F H F' H' → Q' b H') ex → u σ H Q')
    (kk : ∀ b F' H', Gm M F H F' H' → Post (rest b) ok ex → Q b H') : if a = true then u σ H Q else Q false H := by
  cases a with
  | false => rw [if_neg Bool.false_ne_true]; exact kk false F H (Gm.refl e) ⟨k.h⟩
  | true => rw [if_pos rfl]; exact hu rfl Q ((post_bd k).mono (fun b q F' H' g => kk b F' H' g q) fun _ z => z)
/-- a value by a condition -/
theorem if_jM (S : β → Hp → Hp → V → Prop) (k : Post ((cond c X Y).bd rest) ok ex)
    (ha : c = true → ∀ Q' : VK, Post X (fun b => Ret M F H (S b) Q') ex → ta σ H Q') (hb : c = false → ∀ Q' : VK, Post Y (fun b => Ret M F H (S b) Q') ex → tb σ H Q')
    (kk : ∀ b v F' H', Gm M F H F' H' → S b F' H' v → Post (rest b) ok ex → Q v H') : if c = true then ta σ H Q else tb σ H Q := by
  cases c with
  | true => rw [if_pos rfl]; exact ha rfl Q ((post_bd k).mono (fun b q v F' H' g s => kk b v F' H' g s q) fun _ z => z)
  | false => rw [if_neg Bool.false_ne_true]; exact hb rfl Q ((post_bd k).mono (fun b q v F' H' g s => kk b v F' H' g s q) fun _ z => z)
/-- an if whose ways go on -/
theorem ifs_jM (I : β → Hp → Hp → L2.St → Prop) (k : Post ((cond c X Y).bd rest) ok ex)
    (ha : c = true → ∀ nx : L2.St → Hp → Prop, Post X (fun b => ∀ σ' F' H', Gm M F H F' H' → I b F' H' σ' → nx σ' H') ex → tu { D with nx := nx } σ H)
    (hb : c = false → ∀ nx : L2.St → Hp → Prop, Post Y (fun b => ∀ σ' F' H', Gm M F H F' H' → I b F' H' σ' → nx σ' H') ex → tw { D with nx := nx } σ H)
    (kk : ∀ b σ' F' H', Gm M F H F' H' → I b F' H' σ' → Post (rest b) ok ex → D.nx σ' H') : if c = true then tu D σ H else tw D σ H := by
  cases c with
  | true => rw [if_pos rfl]; exact ha rfl D.nx ((post_bd k).mono (fun b q σ' F' H' g s => kk b σ' F' H' g s q) fun _ z => z)
  | false => rw [if_neg Bool.false_ne_true]; exact hb rfl D.nx ((post_bd k).mono (fun b q σ' F' H' g s => kk b σ' F' H' g s q) fun _ z => z)
end
/-! ### items of data -/
section
variable {K : PySem.W.Frag} {F : Hp} {α : Type} {f : α → PyData} {l : List α} {vs : List V} {a : α} {i : Int}
theorem atI_at {α : Type} {xs : List α} {i : Int} {a : α} (h : atI xs i = some a) : ∃ j, ixN xs.length i = some j ∧ xs[j]? = some a := by
  unfold atI at h
  cases e : ixN xs.length i with
  | none => rw [e] at h; cases h
  | some j => rw [e] at h; exact ⟨j, rfl, h⟩
theorem dq_at (ha : DqAll K F vs (l.map f)) (h : atI l i = some a) : ∃ v, atI vs i = some v ∧ Dq K F v (f a) := by
  obtain ⟨j, hj, hg⟩ := atI_at h
  have hl : vs.length = l.length := by rw [ha.len, List.length_map]
  obtain ⟨v, hv, hd⟩ := ha.get (i := j) (d := f a) (by rw [List.getElem?_map, hg]; rfl)
  refine ⟨v, ?_, hd⟩
  unfold atI
  rw [hl, hj]
  exact hv
theorem atI_ints {l : List Int} (h : atI l i = some a') : atI (l.map V.int) i = some (V.int a') := by
  obtain ⟨j, hj, hg⟩ := atI_at h
  unfold atI
  rw [List.length_map, hj]
  show (l.map V.int)[j]? = _
  rw [List.getElem?_map, hg]
  rfl
end
/-! ### heaps, more -/
section
variable {M : List Addr} {F H F1 H1 F0 H0 : Hp}
/-- behind a loop that may change the younger object at p -/
theorem Gm.young {p : Addr} (g : Gm M F0 H0 F H) (h0 : H0 p = none) (g2 : Gm (p :: M) F H F1 H1) : Gm M F0 H0 F1 H1 :=
  ⟨g.f.trans g2.f, g2.s, fun a o hM h => g2.h a o (fun q => by
      rcases List.mem_cons.mp q with q | q
      · rw [q, h0] at h; cases h
      · exact hM q) (g.h a o hM h), fun a o h hn => by
    obtain ⟨o', h'⟩ := g.m a o h
    exact g2.n a o' h' (g.n a o h hn), fun a o h => by
    obtain ⟨o', h'⟩ := g.m a o h
    exact g2.m a o' h'⟩
theorem Gm.putIn (g : Gm M F0 H0 F H) {p : Addr} {o u : HO} (hp : p ∈ M) (h : H p = some u) (hf : F p = none) : Gm M F0 H0 F (upd H p o) := by
  refine ⟨g.f, fun a u ha => ?_, fun a u hM ha => ?_, g.n, fun a u ha => ?_⟩
  · have q : a ≠ p := fun q => by rw [q, hf] at ha; cases ha
    rw [upd_ne q]; exact g.s a u ha
  · have q : a ≠ p := fun q => hM (by rw [q]; exact hp)
    rw [upd_ne q]; exact g.h a u hM ha
  · by_cases q : a = p
    · subst q; exact ⟨o, upd_same⟩
    · obtain ⟨o', h'⟩ := g.m a u ha
      exact ⟨o', by rw [upd_ne q]; exact h'⟩
end
/-! ### built-ins by name -/
structure Bi (mg : Str → Option Value) : Prop where
  len : mg "len" = none
  int : mg "int" = none
  bool : mg "bool" = none
  str : mg "str" = none
  abs : mg "abs" = none
  sum : mg "sum" = none
  min : mg "min" = none
  max : mg "max" = none
  list : mg "list" = none
  tuple : mg "tuple" = none
  set : mg "set" = none
  dict : mg "dict" = none
  sorted : mg "sorted" = none
  range : mg "range" = none
  enumerate : mg "enumerate" = none
  zip : mg "zip" = none
  reversed : mg "reversed" = none
  isinstance : mg "isinstance" = none
end Wk

set_option Elab.async false
set_option linter.all false
set_option maxRecDepth 100000
set_option maxHeartbeats 4000000
namespace Wk
open PySem L2 Evl
theorem Gm.weak {M M' : List Addr} {F H F' H' : Hp} (g : Gm M F H F' H') (h : ∀ a, a ∈ M → a ∈ M') : Gm M' F H F' H' := ⟨g.f, g.s, fun a o hM e => g.h a o (fun q => hM (h a q)) e, g.n, g.m⟩
/-! ### ranges -/
def rangeL (lo : Int) (n : Nat) : List Int := (List.range n).map fun (i : Nat) => lo + (i : Int)
def rangeM (j : Int) : Mm (List Int) := if -(2 ^ 62) ≤ j ∧ j < 2 ^ 62 then .ok (rangeL 0 j.toNat) else .bad
def rangeM2 (i j : Int) : Mm (List Int) := if -(2 ^ 62) ≤ i ∧ i < 2 ^ 62 ∧ -(2 ^ 62) ≤ j ∧ j < 2 ^ 62 then .ok (rangeL i (j - i).toNat) else .bad
section
variable {β : Type} {r : β → Prop} {q : Er → Prop} {i j : Int} {f : List Int → Mm β}
theorem post_range (h : Post ((rangeM j).bd f) r q) : (-(2 ^ 62) ≤ j ∧ j < 2 ^ 62) ∧ Post (f (rangeL 0 j.toNat)) r q := by
  unfold rangeM at h
  split at h
  · exact ⟨‹_›, ⟨h.h⟩⟩
  · exact h.h.elim
theorem post_range2 (h : Post ((rangeM2 i j).bd f) r q) : (-(2 ^ 62) ≤ i ∧ i < 2 ^ 62 ∧ -(2 ^ 62) ≤ j ∧ j < 2 ^ 62) ∧ Post (f (rangeL i (j - i).toNat)) r q := by
  unfold rangeM2 at h
  split at h
  · exact ⟨‹_›, ⟨h.h⟩⟩
  · exact h.h.elim
end
/-! ### fors over data, one form -/
/-- what a for or a comprehension walks over, as a list of data; R: what stands of an item -/
structure Wlk (M : List Addr) (F H : Hp) (J : It) {α : Type} (l : List α) (R : Hp → V → α → Prop) : Prop where
  ex : ∃ (n : Nat) (G : Hp → Prop) (Y : Nat → Hp → V → Hp → Prop), Walk J n G Y ∧ l.length = n ∧ (∀ F' H', Gm M F H F' H' → G H') ∧
    ∀ i x v F' H' H'', Gm M F H F' H' → l[i]? = some x → Y i H' v H'' → ∃ F'', Gm [] F' H' F'' H'' ∧ R F'' v x
section
variable {K : PySem.W.Frag} {M : List Addr} {F H : Hp} {σ : L2.St} {D : Ends} {g : TG} {tb : TS} {α β S : Type} {xs ys : List V} {l : List α} {step : S → α → Mm S} {rest : S → Mm β} {ok : β → Prop} {ex : Er → Prop} {s0 : S} {J : It} {R : Hp → V → α → Prop} {en : α → PyData} {a b : Addr}
theorem wlk_list (e : Ex F H) (h : F a = some (.lst xs)) (da : DqAll K F xs (l.map en)) : Wlk M F H (Itl K a) l (fun F v x => Dq K F v (en x)) := by
  refine ⟨_, _, _, walk_list (K := K) (a := a) (xs := xs), by rw [da.len, List.length_map], fun F' H' g' => sq_of (g'.s _ _ (g'.f _ _ h)), fun i x v F' H' H'' g' hx y => ?_⟩
  obtain ⟨rfl, hv⟩ := y
  obtain ⟨d, hd, hq⟩ := (da.up g'.f).getV hv
  rw [List.getElem?_map, hx] at hd
  cases hd
  exact ⟨F', Gm.refl g'.s, hq⟩
theorem wlk_tup (e : Ex F H) (h : SqT K F a xs) (da : DqAll K F xs (l.map en)) : Wlk M F H (Itt K a) l (fun F v x => Dq K F v (en x)) := by
  refine ⟨_, _, _, walk_tup (K := K) (a := a) (xs := xs), by rw [da.len, List.length_map], fun F' H' g' => ex_t g'.s (ex_t g'.f h), fun i x v F' H' H'' g' hx y => ?_⟩
  obtain ⟨rfl, hv⟩ := y
  obtain ⟨d, hd, hq⟩ := (da.up g'.f).getV hv
  rw [List.getElem?_map, hx] at hd
  cases hd
  exact ⟨F', Gm.refl g'.s, hq⟩
theorem rangeL_at {lo : Int} {n i : Nat} {x : Int} (h : (rangeL lo n)[i]? = some x) : x = lo + i := by
  unfold rangeL at h
  rw [List.getElem?_map] at h
  cases e : (List.range n)[i]? with
  | none => rw [e] at h; cases h
  | some j =>
    rw [e] at h
    obtain ⟨h1, h2⟩ := List.getElem?_eq_some_iff.mp e
    rw [List.getElem_range] at h2
    subst h2
    exact (Option.some.inj h).symm
theorem wlk_range {lo : Int} {n : Nat} : Wlk M F H (Itr lo n) (rangeL lo n) (fun _ v x => v = V.int x) := by
  refine ⟨_, _, _, walk_range (lo := lo) (n := n), by simp [rangeL], fun _ _ _ => trivial, fun i x v F' H' H'' g' hx y => ?_⟩
  obtain ⟨rfl, hv⟩ := y
  rw [rangeL_at hx]
  exact ⟨F', Gm.refl g'.s, hv⟩
theorem wlk_rev (e : Ex F H) (h : F a = some (.lst xs)) (da : DqAll K F xs (l.map en)) : Wlk M F H (Itv K a xs.length) l.reverse (fun F v x => Dq K F v (en x)) := by
  have hl : xs.length = l.length := by rw [da.len, List.length_map]
  refine ⟨_, _, _, walk_rev (K := K) (a := a) (xs := xs), by rw [List.length_reverse, hl], fun F' H' g' => sq_of (g'.s _ _ (g'.f _ _ h)), fun i x v F' H' H'' g' hx y => ?_⟩
  obtain ⟨rfl, hv⟩ := y
  obtain ⟨d, hd, hq⟩ := (da.up g'.f).getV hv
  have hi : i < l.reverse.length := (List.getElem?_eq_some_iff.mp hx).1
  rw [List.length_reverse] at hi
  rw [List.getElem?_reverse hi] at hx
  rw [List.getElem?_map, hl, hx] at hd
  cases hd
  exact ⟨F', Gm.refl g'.s, hq⟩
/-- enumerate: the items (i, x) -/
def enumL {α : Type} (l : List α) : List (Int × α) := (rangeL 0 l.length).zip l
theorem wlk_enum (e : Ex F H) (h : F a = some (.lst xs)) (da : DqAll K F xs (l.map en)) : Wlk M F H (Ite K a) (enumL l) (fun F v x => Dq K F v (e2 PyData.int en x)) := by
  have hl : xs.length = l.length := by rw [da.len, List.length_map]
  refine ⟨_, _, _, walk_enum (K := K) (a := a) (xs := xs), by simp [enumL, rangeL, hl], fun F' H' g' => sq_of (g'.s _ _ (g'.f _ _ h)), fun i x v F' H' H'' g' hx y => ?_⟩
  obtain ⟨T, u, w, rfl, hT, rfl, h1, h2⟩ := y
  obtain ⟨d, hd, hq⟩ := (da.up g'.f).getV h2
  obtain ⟨x1, x2⟩ := x
  unfold enumL at hx
  rw [List.getElem?_zip_eq_some] at hx
  obtain ⟨hx1, hx2⟩ := hx
  have e1 := rangeL_at hx1
  simp only at e1 hx2
  rw [List.getElem?_map, hx2] at hd
  cases hd
  cases h1
  have g2 : Gm [] F' H' (upd F' T (.tup [V.int (i : Nat), w])) (upd H' T (.tup [V.int (i : Nat), w])) := Gm.new g'.s hT
  refine ⟨_, g2, .tup (st_of upd_same) (.cons ?_ (.cons (hq.up g2.f) .nil))⟩
  rw [e1, Int.zero_add]
  exact .int _
theorem wlk_zip {α' : Type} {l' : List α'} {en' : α' → PyData} (e : Ex F H) (h : F a = some (.lst xs)) (da : DqAll K F xs (l.map en)) (h' : F b = some (.lst ys)) (da' : DqAll K F ys (l'.map en')) : Wlk M F H (Itz K a b) (l.zip l') (fun F v x => Dq K F v (e2 en en' x)) := by
  have hl : xs.length = l.length := by rw [da.len, List.length_map]
  have hl' : ys.length = l'.length := by rw [da'.len, List.length_map]
  refine ⟨_, _, _, walk_zip (K := K) (a := a) (b := b) (xs := xs) (ys := ys) rfl, by simp [hl, hl'], fun F' H' g' => ⟨sq_of (g'.s _ _ (g'.f _ _ h)), sq_of (g'.s _ _ (g'.f _ _ h'))⟩, fun i x v F' H' H'' g' hx y => ?_⟩
  obtain ⟨T, u, w, rfl, hT, rfl, h1, h2⟩ := y
  obtain ⟨d, hd, hq⟩ := (da.up g'.f).getV h1
  obtain ⟨d', hd', hq'⟩ := (da'.up g'.f).getV h2
  obtain ⟨x1, x2⟩ := x
  rw [List.getElem?_zip_eq_some] at hx
  obtain ⟨hx1, hx2⟩ := hx
  simp only at hx1 hx2
  rw [List.getElem?_map, hx1] at hd
  rw [List.getElem?_map, hx2] at hd'
  cases hd
  cases hd'
  have g2 : Gm [] F' H' (upd F' T (.tup [u, w])) (upd H' T (.tup [u, w])) := Gm.new g'.s hT
  exact ⟨_, g2, .tup (st_of upd_same) (.cons (hq.up g2.f) (.cons (hq'.up g2.f) .nil))⟩
/-- a for with no way out but its end -/
theorem for_m (w : Wlk M F H J l R) (I : S → Hp → Hp → L2.St → Prop) (k : Post ((foldM step s0 l).bd rest) ok ex) (e : Ex F H) (h0 : I s0 F H σ)
    (hb : ∀ s x v σ' F1 H1 F2 H2, Gm M F H F1 H1 → I s F1 H1 σ' → Gm [] F1 H1 F2 H2 → R F2 v x → ∀ nx : L2.St → Hp → Prop,
      Post (step s x) (fun s' => ∀ σ2 F3 H3, Gm M F H F3 H3 → I s' F3 H3 σ2 → nx σ2 H3) ex → g v σ' H2 fun σ2 H3 => tb { D with nx := nx, ct := nx, bk := D.nx } σ2 H3)
    (kk : ∀ s σ' F' H', Gm M F H F' H' → I s F' H' σ' → Post (rest s) ok ex → D.nx σ' H') :
    ∃ W : Nat → Nat → L2.St → Hp → Prop, (∃ m, W 0 m σ H) ∧ ∀ i m σ H, W i m σ H →
      (J.stop i H ∧ D.nx σ H) ∨ (J.go i H ∧ ∃ N : L2.St → Hp → Prop, (∀ σ' H', N σ' H' → ∃ m', m' < m ∧ W (i + 1) m' σ' H') ∧ ∀ x H', J.yld i H x H' → g x σ H' fun σ2 H2 => tb { D with nx := N, ct := N, bk := D.nx } σ2 H2) := by
  obtain ⟨n, G, Y, w, hn, hG, hY⟩ := w.ex
  refine for_mir w I k e h0 hn hG (fun i s x v σ' F' H' H'' g' i' hx y nx k' => ?_) kk
  obtain ⟨F'', g2, r⟩ := hY i x v F' H' H'' g' hx y
  exact hb s x v σ' F' H' F'' H'' g' i' g2 r nx k'
theorem for_mL {R' : Type} {stepL : S → α → Mm (Fl R' S)} {ret : R' → Mm β} (w : Wlk M F H J l R) (I : S → Hp → Hp → L2.St → Prop) (k : Post ((foldL stepL s0 l).bd fun o => o.el rest ret) ok ex) (e : Ex F H) (h0 : I s0 F H σ)
    (hb : ∀ s x v σ' F1 H1 F2 H2, Gm M F H F1 H1 → I s F1 H1 σ' → Gm [] F1 H1 F2 H2 → R F2 v x → ∀ nx : L2.St → Hp → Prop,
      Post (stepL s x) (fun o => match o with
        | .go s' => ∀ σ2 F3 H3, Gm M F H F3 H3 → I s' F3 H3 σ2 → nx σ2 H3
        | .brk s' => ∀ σ2 F3 H3, Gm M F H F3 H3 → I s' F3 H3 σ2 → D.nx σ2 H3
        | .ret r => Post (ret r) ok ex) ex → g v σ' H2 fun σ2 H3 => tb { D with nx := nx, ct := nx, bk := D.nx } σ2 H3)
    (kk : ∀ s σ' F' H', Gm M F H F' H' → I s F' H' σ' → Post (rest s) ok ex → D.nx σ' H') :
    ∃ W : Nat → Nat → L2.St → Hp → Prop, (∃ m, W 0 m σ H) ∧ ∀ i m σ H, W i m σ H →
      (J.stop i H ∧ D.nx σ H) ∨ (J.go i H ∧ ∃ N : L2.St → Hp → Prop, (∀ σ' H', N σ' H' → ∃ m', m' < m ∧ W (i + 1) m' σ' H') ∧ ∀ x H', J.yld i H x H' → g x σ H' fun σ2 H2 => tb { D with nx := N, ct := N, bk := D.nx } σ2 H2) := by
  obtain ⟨n, G, Y, w, hn, hG, hY⟩ := w.ex
  refine for_mirL w I k e h0 hn hG (fun i s x v σ' F' H' H'' g' i' hx y nx k' => ?_) kk
  obtain ⟨F'', g2, r⟩ := hY i x v F' H' H'' g' hx y
  exact hb s x v σ' F' H' F'' H'' g' i' g2 r nx k'
end
/-! ### comprehensions, three forms -/
theorem tYes_of {σ : L2.St} {H : Hp} {Q : Bool → Hp → Prop} (h : Q true H) : tYes σ H Q := h
def GMon (g : TG) : Prop := ∀ (v : V) (σ1 : L2.St) (H1 : Hp) (Q Q' : L2.St → Hp → Prop), (∀ s h, Q s h → Q' s h) → g v σ1 H1 Q → g v σ1 H1 Q'
def GsMon (g : TGs) : Prop := ∀ (v : List V) (σ1 : L2.St) (H1 : Hp) (Q Q' : L2.St → Hp → Prop), (∀ s h, Q s h → Q' s h) → g v σ1 H1 Q → g v σ1 H1 Q'
theorem gm_name {i : Nat} : GMon (gName i) := fun _ _ _ _ _ h q => h _ _ q
theorem gms_nil : GsMon gNil := fun _ _ _ _ _ h q => ⟨q.1, h _ _ q.2⟩
theorem gms_cons {t : TG} {u : TGs} (a : GMon t) (b : GsMon u) : GsMon (gCons t u) := fun _ _ _ _ _ h q => by
  obtain ⟨v, r, e, z⟩ := q
  exact ⟨v, r, e, a _ _ _ _ _ (fun s h' z' => b _ _ _ _ _ h z') z⟩
theorem gm_tup {K : PySem.W.Frag} {n : Nat} {t : TGs} (a : GsMon t) : GMon (gTup K n t) := fun _ _ _ _ _ h q => by
  obtain ⟨p, xs, e1, e2, e3, z⟩ := q
  exact ⟨p, xs, e1, e2, e3, a _ _ _ _ _ h z⟩

def mapMm {α γ : Type} (f : α → Mm γ) : List α → Mm (List γ)
  | [] => .ok []
  | x :: xs => (f x).bd fun y => (mapMm f xs).bd fun ys => .ok (y :: ys)
def filMm {α γ : Type} (f : α → Mm (Option γ)) : List α → Mm (List γ)
  | [] => .ok []
  | x :: xs => (f x).bd fun y => (filMm f xs).bd fun ys => .ok (y.toList ++ ys)
def mapSt {α γ S : Type} (f : S → α → Mm (γ × S)) : S → List α → Mm (List γ × S)
  | s, [] => .ok ([], s)
  | s, x :: xs => (f s x).bd fun y => (mapSt f y.2 xs).bd fun ys => .ok (y.1 :: ys.1, ys.2)
theorem bd_assoc {α β γ : Type} (m : Mm α) (f : α → Mm β) (g : β → Mm γ) : (m.bd f).bd g = m.bd fun a => (f a).bd g := by cases m <;> rfl
theorem bd_id {α : Type} (m : Mm α) : m.bd Mm.ok = m := by cases m <;> rfl
theorem filMm_comp {α γ : Type} (f : α → Mm (Option γ)) : ∀ l : List α, filMm f l = (compM (fun (_ : Unit) x => (f x).bd fun o => .ok (o, ())) () l).bd fun r => .ok r.1
  | [] => rfl
  | x :: xs => by
    simp only [filMm, compM, filMm_comp f xs, bd_assoc, bd_ok]
theorem mapMm_comp {α γ : Type} (f : α → Mm γ) : ∀ l : List α, mapMm f l = (compM (fun (_ : Unit) x => (f x).bd fun o => .ok (some o, ())) () l).bd fun r => .ok r.1
  | [] => rfl
  | x :: xs => by
    simp only [mapMm, compM, mapMm_comp f xs, bd_assoc, bd_ok, Option.toList, List.cons_append, List.nil_append]
theorem mapSt_comp {α γ S : Type} (f : S → α → Mm (γ × S)) : ∀ (s : S) (l : List α), mapSt f s l = compM (fun s x => (f s x).bd fun o => .ok (some o.1, o.2)) s l
  | _, [] => rfl
  | s, x :: xs => by
    simp only [mapSt, compM, bd_assoc, bd_ok, Option.toList, List.cons_append, List.nil_append]
    congr 1
    funext o
    rw [mapSt_comp f o.2 xs]
section
variable {K : PySem.W.Frag} {M : List Addr} {F H : Hp} {σ : L2.St} {g : TG} {tt : TT} {te : TE} {vs : List Nat} {α β γ S : Type} {l : List α} {ok : β → Prop} {ex : Er → Prop} {s0 : S} {J : It} {R : Hp → V → α → Prop} {Q : VK}
theorem lc_map {f : α → Mm γ} {rest : List γ → Mm β} (w : Wlk M F H J l R) (en : γ → PyData) (k : Post ((mapMm f l).bd rest) ok ex) (e : Ex F H) (hz : l.length ≤ 50000) (hM : ∀ D, H D = none → D ∉ M)
    (hb : ∀ x v F1 H1 F2 H2, Gm M F H F1 H1 → Gm [] F1 H1 F2 H2 → R F2 v x → ∀ Q : VK, Post (f x) (fun y => Ret M F1 H1 (fun F3 _ u => Dq K F3 u (en y)) Q) (fun _ => False) →
      g v (wipe σ vs) H2 fun σ2 H3 => wipe σ2 vs = wipe σ vs ∧ te σ2 H3 Q)
    (hx : ∀ e, ¬ ex e) (kk : ∀ (r : List γ) v F' H', Gm M F H F' H' → Dq K F' v (eL en r) → Post (rest r) ok ex → Q v H') (mono : GMon g) :
    ∀ D, H D = none → ∃ W : Nat → Nat → Hp → Prop, (∃ m, W 0 m (upd H D (.lst []))) ∧ ∀ i m H, W i m H →
      (J.stop i H ∧ Q (.ref D) H) ∨ (J.go i H ∧ ∃ Nx : Hp → Prop, (∀ H', Nx H' → ∃ m', m' < m ∧ W (i + 1) m' H') ∧ ∀ x H', J.yld i H x H' → g x (wipe σ vs) H' fun σ2 H2 => wipe σ2 vs = wipe σ vs ∧ tYes σ2 H2 fun b H3 =>
        if b = true then te σ2 H3 fun y H4 => ∃ acc, H4 D = some (.lst acc) ∧ acc.length < sizeLine ∧ Nx (upd H4 D (.lst (acc ++ [y]))) else Nx H3) := by
  obtain ⟨n, G, Y, w, hn, hG, hY⟩ := w.ex
  rw [mapMm_comp, bd_assoc] at k
  refine lc_mir w en (fun _ _ _ => True) k e trivial stab_t hn hz hG hM (fun i s x v F' H' H'' g' _ hx y Q' k' => ?_) hx (fun r v F' H' g' _ d k' => kk r.1 v F' H' g' d k')
  obtain ⟨F'', g2, r⟩ := hY i x v F' H' H'' g' hx y
  refine mono _ _ _ _ _ (fun σ2 H3 z => ⟨z.1, ?_⟩) (hb x v F' H' F'' H'' g' g2 r (fun u H4 => Q' (some u) H4) ((post_bd k').mono (fun y q u F3 H3 g3 d => q.h F3 H3 _ g3 trivial ⟨u, rfl, d⟩) fun _ z => z))
  exact tYes_of (iteT z.2)
theorem lc_st {f : Rw → α → Mm (γ × Rw)} {s0 : Rw} {rest : List γ × Rw → Mm β} {sc ra : Addr} {scr : List Int} (w : Wlk [ra] F H J l R) (en : γ → PyData) (k : Post ((mapSt f s0 l).bd rest) ok ex) (e : Ex F H) (hz : l.length ≤ 50000) (h0 : RowAt K sc ra scr F H s0)
    (hb : ∀ s x v F1 H1 F2 H2, Gm [ra] F H F1 H1 → RowAt K sc ra scr F1 H1 s → Gm [] F1 H1 F2 H2 → R F2 v x → ∀ Q : VK, Post (f s x) (fun y => Ret [ra] F1 H1 (fun F3 H3 u => Dq K F3 u (en y.1) ∧ RowAt K sc ra scr F3 H3 y.2) Q) (fun _ => False) →
      g v (wipe σ vs) H2 fun σ2 H3 => wipe σ2 vs = wipe σ vs ∧ te σ2 H3 Q)
    (hx : ∀ e, ¬ ex e) (kk : ∀ (r : List γ × Rw) v F' H', Gm [ra] F H F' H' → Dq K F' v (eL en r.1) ∧ RowAt K sc ra scr F' H' r.2 → Post (rest r) ok ex → Q v H') (mono : GMon g) :
    ∀ D, H D = none → ∃ W : Nat → Nat → Hp → Prop, (∃ m, W 0 m (upd H D (.lst []))) ∧ ∀ i m H, W i m H →
      (J.stop i H ∧ Q (.ref D) H) ∨ (J.go i H ∧ ∃ Nx : Hp → Prop, (∀ H', Nx H' → ∃ m', m' < m ∧ W (i + 1) m' H') ∧ ∀ x H', J.yld i H x H' → g x (wipe σ vs) H' fun σ2 H2 => wipe σ2 vs = wipe σ vs ∧ tYes σ2 H2 fun b H3 =>
        if b = true then te σ2 H3 fun y H4 => ∃ acc, H4 D = some (.lst acc) ∧ acc.length < sizeLine ∧ Nx (upd H4 D (.lst (acc ++ [y]))) else Nx H3) := by
  obtain ⟨n, G, Y, w, hn, hG, hY⟩ := w.ex
  rw [mapSt_comp] at k
  refine lc_mir w en (fun s F H => RowAt K sc ra scr F H s) k e h0 (stab_row h0) hn hz hG (row_notM h0) (fun i s x v F' H' H'' g' i' hx y Q' k' => ?_) hx (fun r v F' H' g' i' d k' => kk r v F' H' g' ⟨d, i'⟩ k')
  obtain ⟨F'', g2, r⟩ := hY i x v F' H' H'' g' hx y
  refine mono _ _ _ _ _ (fun σ2 H3 z => ⟨z.1, ?_⟩) (hb s x v F' H' F'' H'' g' i' g2 r (fun u H4 => Q' (some u) H4) ((post_bd k').mono (fun y q u F3 H3 g3 d => q.h F3 H3 _ g3 d.2 ⟨u, rfl, d.1⟩) fun _ z => z))
  exact tYes_of (iteT z.2)
end
end Wk

set_option Elab.async false
set_option linter.all false
set_option maxRecDepth 100000
set_option maxHeartbeats 4000000
namespace Wk
open PySem L2 Evl
theorem units_of {k : Nat} {A : Around} (r : Room k A) : A.units + 64 < cLine := r.units
theorem units_of2 {k : Nat} {A : Around} (r : Room k A) : A.units + 65 < cLine := by have := r.un; omega
def absI (i : Int) : Int := if i < 0 then -i else i
def maxI (i j : Int) : Int := if j > i then j else i
def minI (i j : Int) : Int := if j < i then j else i
theorem decV_int {i j : Int} : decide (V.int i = V.int j) = decide (i = j) := Bool.eq_iff_iff.mpr (by simp)
theorem decV_bl {i j : Bool} : decide (V.bl i = V.bl j) = decide (i = j) := Bool.eq_iff_iff.mpr (by simp)
theorem decV_str {i j : Str} : decide (V.str i = V.str j) = decide (i = j) := Bool.eq_iff_iff.mpr (by simp)
section
variable {K : PySem.W.Frag} {M : List Addr} {F F' H H' : Hp} {Q : VK} {α : Type} {en : α → PyData} {l l' : List α} {xs ys : List V} {a b p : Addr} {v : V} {ds : List PyData}
theorem none_O {o : Option α} (h : Dq K F v (eO en o)) (hn : ∀ a, en a ≠ .none := by intro a; exact fun h => nomatch h) : decide (v = .non) = o.isNone := by
  cases o with
  | none => cases h; rfl
  | some a =>
    refine decide_eq_false fun q => ?_
    subst q
    have h2 : Dq K F V.non (en a) := h
    have := hn a
    cases e : en a with
    | none => exact this e
    | _ => rw [e] at h2; cases h2
theorem chain_j {a b : Bool} {Q : VK} {σ : L2.St} {u : TE} {g : V → Hp → VK → Prop} (hu : a = true → ∀ Q' : VK, Q' (.bl b) H → u σ H fun w H' => g w H' Q') (k : Q (.bl (a && b)) H) :
    if a = true then u σ H (fun w H' => g w H' Q) else Q (.bl false) H := by
  cases a with
  | true => rw [if_pos rfl]; exact hu rfl Q k
  | false => rw [if_neg Bool.false_ne_true]; exact k
theorem len_all (h : DqAll K F xs (l.map en)) : (xs.length : Int) = (l.length : Int) := by rw [h.len, List.length_map]
theorem all_ints {l : List Int} (h : DqAll K F xs (l.map PyData.int)) : xs = l.map V.int := by
  induction l generalizing xs with
  | nil => cases h; rfl
  | cons i l ih => cases h with | cons h1 h2 => cases h1; rw [ih h2]; rfl
theorem ints_all : ∀ l : List Int, DqAll K F (l.map V.int) (l.map PyData.int)
  | [] => .nil
  | i :: l => .cons (.int i) (ints_all l)
theorem cat_len {l l' : List α} (h : DqAll K F xs (l.map en)) (h' : DqAll K F ys (l'.map en)) (hl : l.length + l'.length ≤ 100000) : xs.length + ys.length ≤ sizeLine := sz_of (by
  have := h.len
  have := h'.len
  rw [List.length_map] at *
  omega)
theorem new_lstC {l l' : List α} (e : Ex F H) (h : DqAll K F xs (l.map en)) (h' : DqAll K F ys (l'.map en)) (k : Ret M F H (fun F' _ v => Dq K F' v (eL en (l ++ l'))) Q) : ∀ p, H p = none → Q (.ref p) (upd H p (.lst (xs ++ ys))) := fun p hp => by
  have g : Gm M F H (upd F p (.lst (xs ++ ys))) (upd H p (.lst (xs ++ ys))) := Gm.new e hp
  refine k _ _ _ g (.lst upd_same ?_)
  rw [List.map_append]
  exact (h.app h').up g.f
/-- tuple + tuple -/
def rCatM (K : PySem.W.Frag) : R2 := rCatA K
theorem op_catM {X : Cx} : OpR X (binaryOp .Add) (rCatM X.K) := op_catA
theorem cat_tup {l l' : List α} (e : Ex F H) (s : SqT K F a xs) (h : DqAll K F xs (l.map en)) (s' : SqT K F b ys) (h' : DqAll K F ys (l'.map en)) (hl : l.length + l'.length ≤ 100000) (k : Ret M F H (fun F' _ v => Dq K F' v (eV en (l ++ l'))) Q) : rCatM K (.ref a) (.ref b) H Q := by
  refine ⟨a, b, xs, ys, rfl, rfl, ex_t e s, ex_t e s', cat_len h h' hl, fun q => ?_, fun _ q => ?_, fun _ _ p hp => ?_⟩
  · have hl0 : l = [] := by
      have := h.len
      rw [q, List.length_map] at this
      exact List.length_eq_zero_iff.mp this.symm
    exact k _ _ _ (Gm.refl e) (by rw [hl0]; exact .tup s' h')
  · have hl0 : l' = [] := by
      have := h'.len
      rw [q, List.length_map] at this
      exact List.length_eq_zero_iff.mp this.symm
    exact k _ _ _ (Gm.refl e) (by rw [hl0, List.append_nil]; exact .tup s h)
  · have g : Gm M F H (upd F p (.tup (xs ++ ys))) (upd H p (.tup (xs ++ ys))) := Gm.new e hp
    refine k _ _ _ g (.tup (st_of upd_same) ?_)
    rw [List.map_append]
    exact (h.app h').up g.f
/-- slices -/
def cutL {α : Type} (l : List α) (lo hi : Option Int) : List α := (l.drop (HT.sIx l.length 0 lo)).take (HT.sIx l.length l.length hi - HT.sIx l.length 0 lo)
theorem cut_all {lo hi : Option Int} (h : DqAll K F xs (l.map en)) : DqAll K F (cutV xs lo hi) ((cutL l lo hi).map en) := by
  have hl : xs.length = l.length := by rw [h.len, List.length_map]
  unfold cutV cutL
  rw [hl, List.map_take, List.map_drop]
  exact (h.drop _).take _
theorem cut_lst {lo hi : Option Int} (e : Ex F H) (s : F a = some (.lst xs)) (h : DqAll K F xs (l.map en)) (k : Ret M F H (fun F' _ v => Dq K F' v (eL en (cutL l lo hi))) Q) : rSlL K (.ref a) lo hi H Q :=
  ⟨a, xs, rfl, sq_of (e _ _ s), fun p hp => by
    have g : Gm M F H (upd F p (.lst (cutV xs lo hi))) (upd H p (.lst (cutV xs lo hi))) := Gm.new e hp
    exact k _ _ _ g (.lst upd_same ((cut_all h).up g.f))⟩
theorem sl_tupM {X : Cx} : SlR X (rSlA X.K) := sl_tupA
theorem cut_whole {α : Type} {l : List α} {lo hi : Option Int} (h : HT.sIx l.length 0 lo = 0 ∧ HT.sIx l.length l.length hi = l.length) : cutL l lo hi = l := by
  unfold cutL
  rw [h.1, h.2, List.drop_zero, Nat.sub_zero, List.take_length]
theorem cut_tup {lo hi : Option Int} (e : Ex F H) (s : SqT K F a xs) (h : DqAll K F xs (l.map en)) (k : Ret M F H (fun F' _ v => Dq K F' v (eV en (cutL l lo hi))) Q) : rSlA K (.ref a) lo hi H Q := by
  have hl : xs.length = l.length := by rw [h.len, List.length_map]
  refine ⟨a, xs, rfl, ex_t e s, fun q => ?_, fun _ p hp => ?_⟩
  · rw [hl] at q
    refine k _ _ _ (Gm.refl e) ?_
    rw [cut_whole q]
    exact .tup s h
  · have g : Gm M F H (upd F p (.tup (cutV xs lo hi))) (upd H p (.tup (cutV xs lo hi))) := Gm.new e hp
    exact k _ _ _ g (.tup (st_of upd_same) ((cut_all h).up g.f))
/-- list(x), tuple(x) -/
theorem to_LL (e : Ex F H) (s : F a = some (.lst xs)) (h : DqAll K F xs (l.map en)) (k : Ret M F H (fun F' _ v => Dq K F' v (eL en l)) Q) : ∃ p ys, [V.ref a] = [.ref p] ∧ (SqL K H p ys ∨ SqT K H p ys) ∧ ∀ l, H l = none → Q (.ref l) (upd H l (.lst ys)) :=
  ⟨a, xs, rfl, .inl (sq_of (e _ _ s)), fun p hp => by
    have g : Gm M F H (upd F p (.lst xs)) (upd H p (.lst xs)) := Gm.new e hp
    exact k _ _ _ g (.lst upd_same (h.up g.f))⟩
theorem to_LV (e : Ex F H) (s : SqT K F a xs) (h : DqAll K F xs (l.map en)) (k : Ret M F H (fun F' _ v => Dq K F' v (eL en l)) Q) : ∃ p ys, [V.ref a] = [.ref p] ∧ (SqL K H p ys ∨ SqT K H p ys) ∧ ∀ l, H l = none → Q (.ref l) (upd H l (.lst ys)) :=
  ⟨a, xs, rfl, .inr (ex_t e s), fun p hp => by
    have g : Gm M F H (upd F p (.lst xs)) (upd H p (.lst xs)) := Gm.new e hp
    exact k _ _ _ g (.lst upd_same (h.up g.f))⟩
theorem to_VL (e : Ex F H) (s : F a = some (.lst xs)) (h : DqAll K F xs (l.map en)) (k : Ret M F H (fun F' _ v => Dq K F' v (eV en l)) Q) :
    ∃ p ys, [V.ref a] = [.ref p] ∧ ((SqL K H p ys ∧ ∀ l, H l = none → Q (.ref l) (upd H l (.tup ys))) ∨ (SqT K H p ys ∧ Q (.ref p) H)) :=
  ⟨a, xs, rfl, .inl ⟨sq_of (e _ _ s), fun p hp => by
    have g : Gm M F H (upd F p (.tup xs)) (upd H p (.tup xs)) := Gm.new e hp
    exact k _ _ _ g (.tup (st_of upd_same) (h.up g.f))⟩⟩
theorem to_VV (e : Ex F H) (s : SqT K F a xs) (h : DqAll K F xs (l.map en)) (k : Ret M F H (fun F' _ v => Dq K F' v (eV en l)) Q) :
    ∃ p ys, [V.ref a] = [.ref p] ∧ ((SqL K H p ys ∧ ∀ l, H l = none → Q (.ref l) (upd H l (.tup ys))) ∨ (SqT K H p ys ∧ Q (.ref p) H)) :=
  ⟨a, xs, rfl, .inr ⟨ex_t e s, k _ _ _ (Gm.refl e) (.tup s h)⟩⟩
/-- of an own list -/
theorem to_VO (e : Ex F H) (o : H a = some (.lst xs)) (h : DqAll K F xs (l.map en)) (k : Ret M F H (fun F' _ v => Dq K F' v (eV en l)) Q) :
    ∃ p ys, [V.ref a] = [.ref p] ∧ ((SqL K H p ys ∧ ∀ l, H l = none → Q (.ref l) (upd H l (.tup ys))) ∨ (SqT K H p ys ∧ Q (.ref p) H)) :=
  ⟨a, xs, rfl, .inl ⟨sq_of o, fun p hp => by
    have g : Gm M F H (upd F p (.tup xs)) (upd H p (.tup xs)) := Gm.new e hp
    exact k _ _ _ g (.tup (st_of upd_same) (h.up g.f))⟩⟩
/-- a new own list -/
theorem new_own (e : Ex F H) (h : DqAll K F xs ds) (hl : xs.length ≤ 100000) (k : ∀ p H', Gm [] F H F H' → H p = none → (H' p = some (.lst xs) ∧ F p = none) → Q (.ref p) H') : xs.length ≤ sizeLine ∧ ∀ p, H p = none → Q (.ref p) (upd H p (.lst xs)) :=
  ⟨sz_of hl, fun p hp => k p _ (Gm.newM e hp) hp ⟨upd_same, by
    cases q : F p with
    | none => rfl
    | some u => rw [e p u q] at hp; cases hp⟩⟩
theorem own_sz (h : DqAll K F xs (l.map en)) (hl : l.length < 100000) : xs.length < sizeLine := sz_lt (by rw [h.len, List.length_map]; exact hl)
theorem RowAt.put {sc ra : Addr} {scr : List Int} {st : Rw} {o : HO} (w : RowAt K sc ra scr F H st) (h : ra ≠ p) : RowAt K sc ra scr F (upd H p o) st := ⟨by rw [upd_ne h]; exact w.1, w.2.1, w.2.2⟩
theorem RowAt.fix {sc ra : Addr} {scr : List Int} {st : Rw} {o : HO} (w : RowAt K sc ra scr F H st) (h : ra ≠ p) (u : Ex F (upd F p o)) : RowAt K sc ra scr (upd F p o) H st := ⟨w.1, by rw [upd_ne h]; exact w.2.1, ex_l u w.2.2⟩
end
section
variable {X : Cx}
theorem call_lenM : CallR X (.builtin "len") (fun xs H Q => ∃ p ys n, xs = [.ref p] ∧ (SqL X.K H p ys ∨ SqT X.K H p ys) ∧ (ys.length : Int) = n ∧ Q (.int n) H) := by
  intro pins s σ H vs us Q I r h
  obtain ⟨p, ys, n, rfl, hq, rfl, q⟩ := h
  exact call_len_seq pins s σ H _ us Q I r ⟨p, ys, rfl, hq, q⟩
theorem call_intM : CallR X (.type "int") (fun xs H Q => ∃ i, xs = [.int i] ∧ Q (.int i) H) := by
  intro pins s σ H vs us Q I r h
  exact call_int1 pins s σ H vs us Q I r (.inl h)
section
variable {α : Type} [DecidableEq α] {f : α → PyData} {n : Nat}
def hasM {α : Type} [DecidableEq α] (l : List α) (a : α) : Bool := l.contains a
def rInM (K : PySem.W.Frag) (f : α → PyData) : R2 := fun x y H Q => ∃ (a : α) (l : List α), Dp K H x (f a) ∧ Dp K H y (eL f l) ∧ Q (.bl (hasM l a)) H
def rNotInM (K : PySem.W.Frag) (f : α → PyData) : R2 := fun x y H Q => ∃ (a : α) (l : List α), Dp K H x (f a) ∧ Dp K H y (eL f l) ∧ Q (.bl (!hasM l a)) H
theorem any_eqv (s : Sh f n) (a : α) (l : List α) : (l.map f).any (fun z => PyData.eqv z (f a)) = l.contains a := by
  induction l with
  | nil => rfl
  | cons b l ih =>
    rw [List.map_cons, List.any_cons, ih, List.contains_cons, s.eq]
    congr 1
    exact Bool.eq_iff_iff.mpr (by simp only [decide_eq_true_eq, beq_iff_eq]; exact ⟨Eq.symm, Eq.symm⟩)
theorem op_inM (s : Sh f n) (hu : X.A.units + 65 < cLine) (hn : n + 1 ≤ 64 := by decide) : OpR X (compareOp .In) (rInM X.K f) := by
  intro pins st σ H x y v u Q I rx ry h
  obtain ⟨a, l, ha, hl, q⟩ := h
  refine op_inD hu pins st σ H x y v u Q I rx ry ⟨f a, l.map f, ha, hl, s.shaped (by omega) a, (sh_eL s).shaped hn l, ?_⟩
  rw [any_eqv s]
  exact q
theorem op_notInM (s : Sh f n) (hu : X.A.units + 65 < cLine) (hn : n + 1 ≤ 64 := by decide) : OpR X (compareOp .NotIn) (rNotInM X.K f) := by
  intro pins st σ H x y v u Q I rx ry h
  obtain ⟨a, l, ha, hl, q⟩ := h
  refine op_notInD hu pins st σ H x y v u Q I rx ry ⟨f a, l.map f, ha, hl, s.shaped (by omega) a, (sh_eL s).shaped hn l, ?_⟩
  rw [any_eqv s]
  exact q
end
end
end Wk

set_option Elab.async false
set_option linter.all false
set_option maxRecDepth 100000
set_option maxHeartbeats 4000000
namespace Wk
open PySem L2 Evl PySem.Spec PyProof.Rows
/-! ### enumerate of a tuple -/
theorem meets_enT (a : Addr) (its : Array Value) :
    Meets (Builtin.«enumerate.__new__» ⟨[.type "enumerate", .ref a], []⟩) (fun _ R z => z.heap.IsTuple a its ∧
      R (.ok (.ret (.ref (z.heap.push { cls := .type "tuple_iterator", data := .fields #[.ref a, .int 0 0] }).objs.size)))
        { z with heap := (z.heap.push { cls := .type "tuple_iterator", data := .fields #[.ref a, .int 0 0] }).push { cls := .type "enumerate", data := .fields #[.none, .bool false, .ref z.heap.objs.size, rawInt 0, .none, .none] } }) :=
  .of_wp fun prog w A R z h => by
    obtain ⟨hp, ge, dr, tk, os⟩ := z
    obtain ⟨ht, h⟩ := h
    have sub := sub_enumerate
    have ht' : Heap.IsTuple (Shared.heap ⟨hp, ge, dr, tk, os⟩) a its := ht
    obtain ⟨⟨c, dd, dt, sl⟩, hl, hc, n, hd⟩ := ht
    replace hc : c = .type "tuple" := hc
    replace hd : dt = .seq its n := hd
    subst hc hd
    wp_walk using AutoSeq1.wpAny_loadPart' hl
    refine wpAny_stack_any fun st => wpAny_pure ?_
    split
    · rename_i c _ _ _ _ _
      cases (c == Value.type "enumerate")
      all_goals
        wp_walk using AutoSeq1.wpAny_loadPart' hl, wpAny_pyIter_tuple ht'
        exact ⟨_, rfl, h⟩
    · wp_walk using AutoSeq1.wpAny_loadPart' hl, wpAny_pyIter_tuple ht'
      exact ⟨_, rfl, h⟩
section
variable {prog : Program} {w : World} {A : Around} {E : Value → Shared → Prop} {z : Shared}
theorem call_enT {a : Addr} {its : Array Value} {Q : Value → Shared → Prop} (ht : z.heap.IsTuple a its)
    (h : ∀ h', IsEnum h' (z.heap.objs.size + 1) z.heap.objs.size 0 .none → h'.IsTupleIter z.heap.objs.size a 0 → h'.objs.size = z.heap.objs.size + 2 →
      (∀ c o, z.heap.get? c = some o → h'.get? c = some o) → Q (.ref (z.heap.objs.size + 1)) { z with heap := h' }) :
    wpAny (model prog w) A (call (.type "enumerate") [.ref a]) Q E z := by
  refine callType_new F.called_enumerate (by decide) (F.typeCall_enumerate_1 _) (F.newCall_enumerate_1 _) (fun ob => F.args_object_init_2 ob _) F.entry_enumerate_new (meets_enT a its) ⟨ht, ?_⟩
  have sz : (z.heap.push { cls := .type "tuple_iterator", data := .fields #[.ref a, .int 0 0] }).objs.size = z.heap.objs.size + 1 := Heap.size_push ..
  show _ ∧ _
  rw [sz]
  have en : IsEnum ((z.heap.push { cls := .type "tuple_iterator", data := .fields #[.ref a, .int 0 0] }).push
      { cls := .type "enumerate", data := .fields #[.none, .bool false, .ref z.heap.objs.size, rawInt 0, .none, .none] }) (z.heap.objs.size + 1) z.heap.objs.size 0 .none := by
    have q := Heap.get?_push_size (z.heap.push { cls := .type "tuple_iterator", data := .fields #[.ref a, .int 0 0] })
      (o := { cls := .type "enumerate", data := .fields #[.none, .bool false, .ref z.heap.objs.size, rawInt 0, .none, .none] }) rfl
    rw [sz] at q
    exact q
  exact ⟨⟨_, en, rfl⟩, h _ en ⟨_, Heap.get?_push_of_some _ (Heap.get?_push_size _ rfl), rfl, rfl⟩ (by rw [Heap.size_push, sz]) fun c o x => Heap.get?_push_of_some _ (Heap.get?_push_of_some _ x)⟩
end
theorem end_enT {prog : Program} {w : World} {A : Around} {E : Value → Shared → Prop} {z : Shared} {e it a : Addr} {i : Nat} {its : Array Value} {old : Value} {Q : Option Value → Shared → Prop} (hh : A.handled = none)
    (he : IsEnum z.heap e it i old) (hit : z.heap.IsTupleIter it a i) (ht : z.heap.IsTuple a its) (hx : its[i]? = none)
    (hQ : ∀ h', Heap.ExtBut it z.heap h' → Q none { z with heap := h' }) : wpAny (model prog w) A (pyNext (.ref e)) Q E z := by
  have ty : z.TypeIs (.ref e) "enumerate" := ⟨_, he, rfl⟩
  unfold pyNext
  refine wpAny_bind (wpAny_attempt (wpAny_callSpecial?_slot (name := Str.ofString "__next__") ty F.slot_enumerate_next (wpAny_call_entry F.slot_enumerate_next ty F.entry_enumerate_next ?_ (F.args_enumerate_next_1 _))))
  show wpAny _ _ (field (.ref e) 2 >>= _) _ _ _
  refine wpAny_bind (wpAny_field he rfl (x := .ref it) rfl ?_)
  refine wpAny_bind (wpAny_nextOf_tuple_end hh hit ht hx fun h' x he' hx' => ?_)
  obtain ⟨o, ho, hc⟩ := hx'
  exact wpAny_bind (wpAny_isInstance (T := "StopIteration") (b := true) ⟨o, ho, hc⟩ isSubtype_stop (wpAny_pure (hQ _ he')))
/-- the tuple at a, each item in a new pair -/
def IteT (K : PySem.W.Frag) (a : Addr) : It :=
  ⟨fun i H => ∃ (xs : List V) (x : V), SqT K H a xs ∧ xs[i]? = some x, fun i H v H' => ∃ T x, v = .ref T ∧ H T = none ∧ H' = upd H T (.tup [.int (i : Nat), x]) ∧ ∀ xs, SqT K H a xs → xs[i]? = some x, fun i H => ∃ xs : List V, SqT K H a xs ∧ xs.length ≤ i⟩
theorem turn_enT {P : Program} {w : World} {K : PySem.W.Frag} {es : List Expr} {kk : Nat} {tp : Pos} (a e it : Addr) (hai : a ≠ it) :
    Turn P w K (.Tuple es kk tp) (IteT K a) [e, it] e (fun i h => (∃ old, IsEnum h e it ((i : Nat) : Int) old) ∧ h.IsTupleIter it a i ∧ e ≠ it) where
  mem := by simp
  obj := fun i h st b hb => by
    obtain ⟨⟨old, he⟩, ⟨o, ho, hc, hd⟩, _⟩ := st
    rcases (show b = e ∨ b = it by simpa using hb) with q | q
    · rw [q]
      exact ⟨_, he, fun v q => nomatch q⟩
    · rw [q]
      exact ⟨o, ho, fun v q => by rw [hd] at q; cases q⟩
  keep := fun i h h' st k => by
    obtain ⟨⟨old, he⟩, hi, hne⟩ := st
    exact ⟨⟨old, k e (by simp) _ he⟩, hi.at fun o q => k it (by simp) o q, hne⟩
  item := by
    intro X hP hw hK hc i pins s σ H E I hf st hg
    subst hP hw hK
    obtain ⟨⟨old, he⟩, hit, hne⟩ := st
    obtain ⟨xs, x, hq, hx⟩ := hg
    obtain ⟨its, rv, p, hz⟩ := I.tuple hq
    obtain ⟨u, hu, ru⟩ := rv.get hx
    have le : e < s.heap.objs.size := Heap.lt_size he
    have li : it < s.heap.objs.size := by
      obtain ⟨_, q, _⟩ := hit
      exact Heap.lt_size q
    have pT : s.heap.IsTuple a its.toArray := p
    have D := (Draws.tuple (prog := X.prog) (w := X.w) (A := X.A.in1) (show X.A.in1.handled = none from I.ok.hd hc) it a hai its.toArray)
    have hi : i < its.toArray.size := by
      have := (List.getElem?_eq_some_iff.mp hu).1
      simpa using this
    have hnm : e ∉ [it, a] := fun hm => by
      rcases (show e = it ∨ e = a by simpa using hm) with q | q
      · exact hne q
      · obtain ⟨o1, q1, c1, _⟩ := pT
        rw [← q, he] at q1
        cases q1
        exact nomatch (show Value.type "enumerate" = Value.type "tuple" from c1) 
    refine wpAny_pyNext_enum_itemD D he ⟨hit, pT⟩ hi hne hnm fun y h' tk hy ho ht' hT hsz hk => ?_
    · have ey : u = y := by
        have hu' : its.toArray[i]? = some u := by simpa using hu
        rw [hy] at hu'
        exact (Option.some.inj hu').symm
      subst ey
      obtain ⟨hit', _⟩ := ht'
      refine ⟨_, rfl, wpAny_letOwnedTupleGo_enum (s := { s with heap := h', toks := tk + 1 }) ho fun h'' he' sb => ?_⟩
      have hT2 : h''.get? s.heap.objs.size = some { cls := .type "tuple", data := .seq #[.int i tk, u] } := (sb.2 _ (Nat.ne_of_gt le)).trans hT
      have new : ObjOk X.prog X.w (upd H s.heap.objs.size (.tup [.int (i : Nat), x])) h'' s.heap.objs.size (.tup [.int (i : Nat), x]) :=
        ⟨by show 2 ≤ sizeLine; decide, [.int i tk, u], .cons ⟨_, rfl⟩ (.cons ru .nil), ⟨_, hT2, rfl, _, rfl⟩⟩
      have J : Inv X pins σ (upd H s.heap.objs.size (.tup [.int (i : Nat), x])) { s with heap := h'', toks := tk + 1 } :=
        I.turnedNew (ch := [e, it]) (fun b ob hb q => (sb.2 b (fun q2 => hb (by simp [q2]))).trans (hk b ob (fun q2 => hb (by simp [q2])) (fun q2 => hb (by simp [q2])) q)) hf (Nat.le_refl _) new
      refine ⟨.ref s.heap.objs.size, _, J, rfl, ⟨_, x, rfl, I.hok.fresh (Nat.le_refl _), rfl, fun ys hy => by rw [I.tuple_inj hy hq]; exact hx⟩, ⟨⟨u, ?_⟩, hit'.at fun o q => (sb.2 it (Ne.symm hne)).trans q, hne⟩, fun b hb => ?_⟩
      · have e1 : ((i + 1 : Nat) : Int) = (i : Int) + 1 := by omega
        rw [e1]
        exact he'
      · have lb : b < s.heap.objs.size := by
          rcases (show b = e ∨ b = it by simpa using hb) with q | q
          · rw [q]; exact le
          · rw [q]; exact li
        rw [upd_ne (Nat.ne_of_lt lb)]
        exact (hf b hb).1
  done := by
    intro X hP hw hK hc i pins s σ H E I hf st hg
    subst hP hw hK
    obtain ⟨⟨old, he⟩, hit, hne⟩ := st
    obtain ⟨xs, hq, hx⟩ := hg
    obtain ⟨its, rv, p, hz⟩ := I.tuple hq
    obtain ⟨f0, f1, f2, f3, f4, f5⟩ := hf it (by simp)
    have hl := rv.length
    have pT : s.heap.IsTuple a its.toArray := p
    refine end_enT (I.ok.hd hc) he hit pT (by simp; omega) fun h' eb => ⟨rfl, I.turned (t' := s.toks) (fun b o hb q => eb b o hb q) f0 f1 f3 f4 f5⟩
  self := fun A i s Q E st h => by
    obtain ⟨⟨_, he⟩, _⟩ := st
    exact wpAny_pyIter_enum he h
def iEnT (K : PySem.W.Frag) (ta : TA) : TI := fun σ H R => ta σ H fun vs H1 => ∃ a xs, vs = [.ref a] ∧ SqT K H1 a xs ∧ R (IteT K a) H1
theorem pi_enumT {X : Cx} {e : Expr} {ta : TA} {p pos tp : Pos} {es : List Expr} {kk : Nat} (hg : Gl X "enumerate") (hm : X.mg "enumerate" = none) (ha : PA X [e] ta) (hs : starEach [e] X.env = [(false, eval e X.env)] := by rfl) :
    PI X (.Tuple es kk tp) (.Call (.Name "enumerate" p) [e] [] pos) (iEnT X.K ta) := by
  refine ⟨fun pins s σ H R I h => ?_⟩
  refine Call_ (ld_blt I hg hm boot_enumerate (PyProof.Rows.callWith_type1 (thn (ha.run pos pins s σ H _ I h) fun us s1 hh => ?_) hs rfl))
  obtain ⟨vs, H1, I1, r1, a, xs, ex, hq, q⟩ := hh
  subst ex
  cases r1 with
  | cons r rr =>
    cases rr
    cases r
    obtain ⟨its, rv, p', hz⟩ := I1.tuple hq
    have pT : s1.heap.IsTuple a its.toArray := p'
    have la : a < s1.heap.objs.size := by
      obtain ⟨o, q, _⟩ := pT
      exact Heap.lt_size q
    refine call_enT pT fun h' he hit hsz hk => wpAny_pyIter_enum he ?_
    have I2 : Inv X pins σ H1 { s1 with heap := h' } := I1.kept (t' := s1.toks) hk
    refine ⟨s1.heap.objs.size + 1, [s1.heap.objs.size + 1, s1.heap.objs.size], _, _, H1, rfl, I2, turn_enT a (s1.heap.objs.size + 1) s1.heap.objs.size (Nat.ne_of_lt la), ⟨⟨.none, he⟩, hit, Nat.succ_ne_self _⟩, fun b hb => ?_, q⟩
    have hle : s1.heap.objs.size ≤ b := by
      rcases (show b = s1.heap.objs.size + 1 ∨ b = s1.heap.objs.size by simpa using hb) with z | z
      · rw [z]; exact Nat.le_succ _
      · rw [z]; exact Nat.le_refl _
    exact I1.fpOk hle (I1.hok.fresh hle)
section
variable {K : PySem.W.Frag} {M : List Addr} {F H : Hp} {α : Type} {xs : List V} {l : List α} {en : α → PyData} {a : Addr}
theorem wlk_enumT (e : Ex F H) (h : SqT K F a xs) (da : DqAll K F xs (l.map en)) : Wlk M F H (IteT K a) (enumL l) (fun F v x => Dq K F v (e2 PyData.int en x)) := by
  have hl : xs.length = l.length := by rw [da.len, List.length_map]
  refine ⟨xs.length, fun H => SqT K H a xs, YPair (fun i => some (.int (i : Nat))) (fun i => xs[i]?), ⟨fun i _ hi q => ⟨xs, xs[i], q, by simp [hi]⟩, fun _ q => ⟨xs, q, Nat.le_refl _⟩, fun i H v H' _ q y => ?_⟩, by simp [enumL, rangeL, hl], fun F' H' g' => ex_t g'.s (ex_t g'.f h), fun i x v F' H' H'' g' hx y => ?_⟩
  · obtain ⟨T, x, h1, h2, h3, h4⟩ := y
    exact ⟨T, .int (i : Nat), x, h1, h2, h3, rfl, h4 xs q⟩
  · obtain ⟨T, u, w, rfl, hT, rfl, h1, h2⟩ := y
    obtain ⟨d, hd, hq⟩ := (da.up g'.f).getV h2
    obtain ⟨x1, x2⟩ := x
    unfold enumL at hx
    rw [List.getElem?_zip_eq_some] at hx
    obtain ⟨hx1, hx2⟩ := hx
    have e1 := rangeL_at hx1
    simp only at e1 hx2
    rw [List.getElem?_map, hx2] at hd
    cases hd
    cases h1
    have g2 : Gm [] F' H' (upd F' T (.tup [V.int (i : Nat), w])) (upd H' T (.tup [V.int (i : Nat), w])) := Gm.new g'.s hT
    refine ⟨_, g2, .tup (st_of upd_same) (.cons ?_ (.cons (hq.up g2.f) .nil))⟩
    rw [e1, Int.zero_add]
    exact .int _
end
end Wk

set_option Elab.async false
set_option linter.all false
set_option maxRecDepth 100000
set_option maxHeartbeats 4000000
namespace Wk
open PySem L2 Evl PySem.Spec PyProof.Rows
/-! ### set(a list of ints), sorted -/
abbrev emS (w : World) : Obj := { cls := .type "set", dict := none, data := .set #[] 0 (.fresh 0 0 (!w.params.followText "set-order")) }
section
variable {P : Program} {w : World} {A : Around} {E : Value → Shared → Prop} {z : Shared}
theorem call_set_li {u : Addr} {its : Array Value} (ks : List Int) {Q : Value → Shared → Prop} (hh : A.handled = none) (hl : z.heap.IsList u its) (hit : IntsAre its.toList ks) (hb : ks.length + 1 < scanBound)
    (h : ∀ (h' : Heap) (tk c : Nat), SetR w h' z.heap.objs.size (fun j => decide (j ∈ ks)) c → c ≤ ks.length → (∀ b o, z.heap.get? b = some o → h'.get? b = some o) → Q (.ref z.heap.objs.size) { z with heap := h', toks := tk }) :
    wpAny (model P w) A (call (.type "set") [.ref u]) Q E z := by
  have sz : its.size = ks.length := by
    have q := IntsAre.length hit
    rwa [Array.length_toList] at q
  obtain ⟨c, tl, hmro⟩ := F.called_set.mro
  have made := F.called_set.made
  have sub := F.called_set.sub
  refine wpAny_call (codeAny_of_tree ?_); (show wpAny _ _ (callAny (.type "set") _) _ _ _)
  refine wpAny_pure ⟨Code.quiet_builtin _ (by decide +kernel), codeAny_builtin F.entry_type_call ?_⟩; rw [Around.under_plain (weight_type_call_type "set" [.ref u] []) rfl]
  have n1 := F.called_set.notType
  have n2 := F.called_set.canCreate
  have n3 := F.typeCall_set_1 (.ref u)
  repeat (any_goals (first | assumption | wp_step))
  refine codeAny_mono (code_set_led1 (.ref u) (E := E) (Q₁ := fun ob z1 => ob = .ref z.heap.objs.size ∧ z1 = { z with heap := z.heap.push (emS w) }) ⟨rfl, rfl⟩) fun r z1 hr => ?_
  cases r with
  | error e => exact hr
  | ok fl =>
    cases fl with
    | ret ob =>
      obtain ⟨rfl, rfl⟩ := hr
      have atS : (z.heap.push (emS w)).get? z.heap.objs.size = some (emS w) := Heap.get?_push_size _ rfl
      have tyS : Shared.TypeIs { z with heap := z.heap.push (emS w) } (.ref z.heap.objs.size) "set" := ⟨_, atS, rfl⟩
      have i1 := F.called_set.init.lookup
      have i2 := F.called_set.init.bind (.ref z.heap.objs.size)
      repeat (any_goals (first | assumption | wp_step))
      refine codeAny_mono (codeAny_call_builtin (R := wants (fun r z2 => r = .none ∧ ∃ h' tk c, z2 = { z with heap := h', toks := tk } ∧ SetR w h' z.heap.objs.size (fun j => decide (j ∈ ks)) c ∧ c ≤ ks.length ∧
          (∀ b o, z.heap.get? b = some o → h'.get? b = some o)) E) F.called_set.init.plain F.entry_set_init (check_set_init_1 tyS ?_)) fun r2 z2 hr2 => ?_
      · obtain ⟨ol, hol, hcl, nl, hdl⟩ := hl
        obtain ⟨oc, od, dt, sl⟩ := ol
        simp only at hcl hdl
        subst hcl
        subst hdl
        have atU : (z.heap.push (emS w)).get? u = some { cls := .type "list", dict := od, data := .seq its nl, slots := sl } := Heap.get?_push_of_some _ hol
        have no1 := F.sub_list_set
        have no2 := F.sub_list_frozenset
        have no3 : (Value.type "list" == Value.type "dict") = false := by decide
        have isl : (z.heap.push (emS w)).IsList u its := ⟨_, atU, rfl, nl, rfl⟩
        unfold Builtin.«set.__init__» noKeywords Builtin.Frozenset.updateFrom
        generalize hPI : pyIter = pI
        wp_walk
        subst hPI
        refine wpAny_pyIter_list isl ?_
        refine wpAny_bind (wpAny_runValue ?_)
        have lu : u < z.heap.objs.size := Heap.lt_size hol
        have h3 : A.in1.in1.in1.handled = none := by simp [hh]
        have ux : u ≠ (z.heap.push (emS w)).objs.size := by rw [Heap.size_push]; exact Nat.ne_of_lt (Nat.lt_succ_of_lt lu)
        have nf : z.heap.objs.size ∉ [(z.heap.push (emS w)).objs.size, u] := by
          rw [Heap.size_push]
          simp only [List.mem_cons, List.mem_singleton, List.not_mem_nil, or_false, not_or]
          exact ⟨Nat.ne_of_lt (Nat.lt_succ_self _), Nat.ne_of_gt lu⟩
        have val : ∀ (i : Nat) (v : Value), its[i]? = some v → ∃ k t, ks[i]? = some k ∧ v = .int k t := fun i v hv => by
          have hi : i < ks.length := by rw [← sz]; exact (Array.getElem?_eq_some_iff.mp hv).1
          obtain ⟨t, e⟩ := PyProof.Rows.IntsAre.int_at hit i v (by rw [Array.getElem?_toList]; exact hv)
          refine ⟨ks[i], t, List.getElem?_eq_getElem hi, ?_⟩
          rw [e, List.getD_eq_getElem?_getD, List.getElem?_eq_getElem hi]
          all_goals rfl
        refine set_update_ints ((Walks.list h3 _ u ux its).toS) z.heap.objs.size nf ks sz hb val (its.size - 0) 0 _ (by omega) (Nat.zero_le _) ⟨⟨_, Heap.get?_push_size _ rfl, rfl, rfl⟩, (isl.push _)⟩ ?a0 ?a1
        case a0 =>
          have q : ((z.heap.push (emS w)).push { cls := .type "list_iterator", data := .fields #[.ref u, .int 0 0] }).get? z.heap.objs.size = some (emS w) := Heap.get?_push_of_some _ atS
          exact ⟨0, Nat.le_refl 0, setR_new_at q⟩
        case a1 =>
          intro z3 c' hm hc' hS'
          obtain ⟨h', g2, d', tk', os'⟩ := z3
          have eg : g2 = z.gens := hm.gens
          have ed : d' = z.drawn := hm.drawn
          have eo : os' = z.os := hm.os
          subst eg; subst ed; subst eo
          (show wpAny _ _ _ _ _ _); refine wpAny_pure ?_
          show wpAny _ _ (ret Value.none) _ _ _
          rw [sz] at hc'
          refine wpAny_pure ⟨rfl, h', tk', c', rfl, hS', hc', fun b o e => ?_⟩
          have b0 : b < z.heap.objs.size := Heap.lt_size e
          have b2 : b ≠ (z.heap.push (emS w)).objs.size := by rw [Heap.size_push]; exact Nat.ne_of_lt (Nat.lt_succ_of_lt b0)
          exact hm.heap b o (by simp only [List.mem_cons, List.mem_singleton, List.not_mem_nil, or_false, not_or]; exact ⟨Nat.ne_of_lt b0, b2⟩) (Heap.get?_push_of_some _ (Heap.get?_push_of_some _ e))
      · cases r2 with
        | error e => exact hr2
        | ok f2 => cases f2 with
          | ret r =>
            obtain ⟨rfl, h', tk, c', rfl, hS', hc', hk'⟩ := hr2
            repeat (any_goals (first | assumption | wp_step))
            exact h h' tk c' hS' hc' hk'
          | _ => exact False.elim hr2
    | _ => exact False.elim hr
end
end Wk

set_option Elab.async false
set_option linter.all false
set_option maxRecDepth 100000
set_option maxHeartbeats 4000000
namespace Wk
open PySem L2 Evl PySem.Spec PyProof.Rows
section
variable {X : Cx}
/-- set(a list of ints) -/
def rSetM (w : World) (K : PySem.W.Frag) : List V → Hp → VK → Prop := fun vs H Q => ∃ (a : Addr) (ns : List Int), vs = [.ref a] ∧ SqL K H a (ns.map V.int) ∧ ns.length < 64 ∧
  ∀ p c, H p = none → c ≤ ns.length → Q (.ref p) (upd H p (SetO w p (fun j => decide (j ∈ ns)) c))
theorem cr_setM (hcalm : X.calm = true) : CallR X (.type "set") (rSetM X.w X.K) := by
  intro pins s σ H vs us Q I r h
  obtain ⟨a, ns, rfl, hq, h64, q⟩ := h
  cases r with
  | cons r rr =>
    cases rr
    cases r
    obtain ⟨its, rv, pl, hz⟩ := I.list hq
    refine call_set_li ns (I.ok.hd hcalm) pl.isList (by simpa using rv.ints) (by unfold scanBound; omega) fun h' tk c hS hc hk => ?_
    have J : Inv X pins σ (upd H s.heap.objs.size (SetO X.w s.heap.objs.size (fun j => decide (j ∈ ns)) c)) { s with heap := h', toks := tk } := I.laid hk (Nat.le_refl _) (setO_new hS)
    exact ⟨.ref s.heap.objs.size, _, J, rfl, q _ c (I.hok.fresh (Nat.le_refl _)) hc⟩
end
/-! ### a sorted set -/
def insU (x : Int) : List Int → List Int
  | [] => [x]
  | y :: l => if x < y then x :: y :: l else if x = y then y :: l else y :: insU x l
def sortedSet (l : List Int) : List Int := l.foldr insU []
theorem mem_insU (x k : Int) : ∀ l, k ∈ insU x l ↔ k = x ∨ k ∈ l
  | [] => by simp [insU]
  | y :: l => by
    unfold insU
    split
    · simp
    · split
      · rename_i h
        subst h
        simp
      · simp only [List.mem_cons, mem_insU x k l]
        constructor
        · rintro (h | h | h)
          · exact .inr (.inl h)
          · exact .inl h
          · exact .inr (.inr h)
        · rintro (h | h | h)
          · exact .inr (.inl h)
          · exact .inl h
          · exact .inr (.inr h)
theorem asc_insU (x : Int) : ∀ l : List Int, l.Pairwise (· < ·) → (insU x l).Pairwise (· < ·)
  | [], _ => by simp [insU]
  | y :: l, h => by
    obtain ⟨h1, h2⟩ := List.pairwise_cons.mp h
    unfold insU
    split
    · rename_i q
      refine List.pairwise_cons.mpr ⟨fun a ha => ?_, h⟩
      rcases List.mem_cons.mp ha with e | e
      · rw [e]; exact q
      · exact Int.lt_trans q (h1 a e)
    · split
      · exact h
      · refine List.pairwise_cons.mpr ⟨fun a ha => ?_, asc_insU x l h2⟩
        rcases (mem_insU x a l).mp ha with e | e
        · rw [e]; omega
        · exact h1 a e
theorem mem_sortedSet (k : Int) : ∀ l : List Int, k ∈ sortedSet l ↔ k ∈ l
  | [] => by simp [sortedSet]
  | x :: l => by
    show k ∈ insU x (sortedSet l) ↔ _
    rw [mem_insU, mem_sortedSet k l, List.mem_cons]
theorem asc_sortedSet : ∀ l : List Int, (sortedSet l).Pairwise (· < ·)
  | [] => List.Pairwise.nil
  | x :: l => asc_insU x _ (asc_sortedSet l)
/-- two ascending lists of the same members are one -/
theorem asc_unique : ∀ l r : List Int, l.Pairwise (· < ·) → r.Pairwise (· < ·) → (∀ k, k ∈ l ↔ k ∈ r) → l = r
  | [], [], _, _, _ => rfl
  | [], y :: r, _, _, h => absurd ((h y).mpr (List.mem_cons_self ..)) (by simp)
  | x :: l, [], _, _, h => absurd ((h x).mp (List.mem_cons_self ..)) (by simp)
  | x :: l, y :: r, hl, hr, h => by
    obtain ⟨l1, l2⟩ := List.pairwise_cons.mp hl
    obtain ⟨r1, r2⟩ := List.pairwise_cons.mp hr
    have e : x = y := by
      have hx : x = y ∨ x ∈ r := List.mem_cons.mp ((h x).mp (List.mem_cons_self ..))
      have hy : y = x ∨ y ∈ l := List.mem_cons.mp ((h y).mpr (List.mem_cons_self ..))
      rcases hx with q | q
      · exact q
      · rcases hy with q' | q'
        · exact q'.symm
        · have := r1 x q
          have := l1 y q'
          omega
    subst e
    rw [asc_unique l r l2 r2 fun k => ?_]
    constructor
    · intro hk
      rcases List.mem_cons.mp ((h k).mp (List.mem_cons_of_mem _ hk)) with q | q
      · have := l1 k hk
        omega
      · exact q
    · intro hk
      rcases List.mem_cons.mp ((h k).mpr (List.mem_cons_of_mem _ hk)) with q | q
      · have := r1 k hk
        omega
      · exact q
section
variable {K : PySem.W.Frag} {M : List Addr} {F H : Hp} {Q : VK} {w : World} {a : Addr} {l : List Int}
theorem sorted_set (e : Ex F H) (s : F a = some (.lst (l.map V.int))) (hl : l.length < 64) (k : Ret M F H (fun F' _ v => Dq K F' v (eL PyData.int (sortedSet l))) Q) :
    ∃ (a' : Addr) (ns : List Int), [V.ref a] = [.ref a'] ∧ SqL K H a' (ns.map V.int) ∧ ns.length < 64 ∧ ∀ p c, H p = none → c ≤ ns.length → rSortedSet w [.ref p] (upd H p (SetO w p (fun j => decide (j ∈ ns)) c)) Q := by
  refine ⟨a, l, rfl, sq_of (e _ _ s), hl, fun p c hp hc => ⟨p, _, c, rfl, upd_same, by omega, fun ns q asc mem _ hq => ?_⟩⟩
  have g1 : Gm M F H (upd F p (SetO w p (fun j => decide (j ∈ l)) c)) (upd H p (SetO w p (fun j => decide (j ∈ l)) c)) := Gm.new e hp
  have g2 : Gm M (upd F p (SetO w p (fun j => decide (j ∈ l)) c)) (upd H p (SetO w p (fun j => decide (j ∈ l)) c)) _ _ := Gm.new (o := .lst (ns.map V.int)) g1.s hq
  have en : ns = sortedSet l := asc_unique ns _ asc (asc_sortedSet l) fun j => by
    rw [mem, mem_sortedSet]
    simp
  refine k _ _ _ (g1.trans g2) ?_
  rw [← en]
  exact .lst upd_same (ints_all ns)
end
end Wk

set_option Elab.async false
set_option linter.all false
set_option maxRecDepth 100000
set_option maxHeartbeats 1000000
namespace Wk
open PySem L2 Evl
theorem Gm.youngs {F0 H0 : Hp} {M : List Addr} {F H F1 H1 : Hp} (ps : List Addr) (g : Gm M F0 H0 F H) (h0 : ∀ p ∈ ps, H0 p = none) (g2 : Gm (ps ++ M) F H F1 H1) : Gm M F0 H0 F1 H1 :=
  ⟨g.f.trans g2.f, g2.s, fun a o hM h => g2.h a o (fun q => by
      rcases List.mem_append.mp q with q | q
      · rw [h0 a q] at h; cases h
      · exact hM q) (g.h a o hM h), fun a o h hn => by
    obtain ⟨o', h'⟩ := g.m a o h
    exact g2.n a o' h' (g.n a o h hn), fun a o h => by
    obtain ⟨o', h'⟩ := g.m a o h
    exact g2.m a o' h'⟩
/-! ### a draw -/
def seedN (s c : Int) : Int := (s * 48271 + c + 11) % 2147483647
def takenA (scr : List Int) (st : Rw) (many : Int) : Mm (Int × Rw) :=
  if 0 < many ∧ many < 1073741824 ∧ 0 ≤ st.seed ∧ st.seed < 2147483647 ∧ 0 ≤ st.pos ∧ st.pos < 1000000 then
    if st.left > 0 then .ok (st.left % many, ⟨st.pos, st.seed, st.left / many⟩)
    else match scr[st.pos.toNat]? with
      | none => .ok ((seedN st.seed 0 / 7) % many, ⟨st.pos + 1, seedN st.seed 0, st.left⟩)
      | some c => .ok (c % many, ⟨st.pos + 1, seedN st.seed c, if c ≥ 10 ^ 18 then c / many else 0⟩)
  else .bad
def takenB (scr : List Int) (st : Rw) (many : Int) : Mm (Int × Rw) :=
  if 0 < many ∧ many < 1073741824 ∧ 0 ≤ st.seed ∧ st.seed < 2147483647 ∧ 0 ≤ st.pos ∧ st.pos < 1000000 then
    if st.left > 0 then .ok (st.left % many, ⟨st.pos, st.seed, st.left / many⟩)
    else match scr[st.pos.toNat]? with
      | none => .ok ((seedN st.seed 0 / 7) % many, ⟨st.pos + 1, seedN st.seed 0, st.left⟩)
      | some c => .ok (c % many, ⟨st.pos + 1, seedN st.seed c, if c ≥ 10 ^ 18 then c / many else st.left⟩)
  else .bad
def spTaken (tk : List Int → Rw → Int → Mm (Int × Rw)) (K : PySem.W.Frag) : Sp := fun vs H Q _ => ∃ (F : Hp) (sc ra : Addr) (scr : List Int) (st : Rw) (many : Int), vs = [.ref ra, .int many] ∧ Ex F H ∧ RowAt K sc ra scr F H st ∧
  Post (tk scr st many) (fun r => Ret [ra] F H (fun F' H' v => v = .int r.1 ∧ RowAt K sc ra scr F' H' r.2) Q) (fun _ => False)
theorem iteP {c : Bool} {A B : Prop} (h : c = true) (a : A) : if c = true then A else B := by rw [if_pos h]; exact a
theorem iteN {c : Bool} {A B : Prop} (h : c = false) (b : B) : if c = true then A else B := by rw [h, if_neg Bool.false_ne_true]; exact b
theorem cmul_small {i j : Int} (h : i.natAbs < 2 ^ 62) (h' : j.natAbs < 2 ^ 62) : CMulW i j := wide_mul h h' (by decide) (by decide) (by decide)
theorem fmod_pos {i j : Int} (h : 0 < j) : i.fmod j = i % j := Int.fmod_eq_emod_of_nonneg _ (Int.le_of_lt h)
theorem fdiv_pos {i j : Int} (h : 0 < j) : i.fdiv j = i / j := Int.fdiv_eq_ediv_of_nonneg _ (Int.le_of_lt h)
/-- pick one of a list -/
def pickM {α : Type} (tk : List Int → Rw → Int → Mm (Int × Rw)) (scr : List Int) (st : Rw) (l : List α) : Mm (α × Rw) := (tk scr st (l.length : Int)).bd fun b => (getM l b.1).bd fun a => .ok (a, b.2)
def spPick (tk : List Int → Rw → Int → Mm (Int × Rw)) (K : PySem.W.Frag) : Sp := fun vs H Q _ => ∃ (F : Hp) (sc ra : Addr) (scr : List Int) (st : Rw) (α : Type) (en : α → PyData) (v : V) (l : List α), vs = [.ref ra, v] ∧ Ex F H ∧ RowAt K sc ra scr F H st ∧ Dq K F v (eL en l) ∧
  Post (pickM tk scr st l) (fun r => Ret [ra] F H (fun F' H' v => Dq K F' v (en r.1) ∧ RowAt K sc ra scr F' H' r.2) Q) (fun _ => False)
end Wk

set_option Elab.async false
set_option linter.all false
set_option maxRecDepth 100000
set_option maxHeartbeats 1000000
namespace Wk
open PySem L2 Evl
theorem notM_nil {H : Hp} : ∀ D, H D = none → D ∉ ([] : List Addr) := fun _ _ => by simp
theorem notM_cons {H : Hp} {p : Addr} {o : HO} {M : List Addr} (h : H p = some o) (k : ∀ D, H D = none → D ∉ M) : ∀ D, H D = none → D ∉ p :: M := fun D hD q => by
  rcases List.mem_cons.mp q with q | q
  · rw [q, h] at hD; cases hD
  · exact k D hD q
/-! ### own lists whose place is open -/
section
variable {M ps : List Addr} {F0 H0 F H F1 H1 : Hp} {p : Addr} {o u : HO}
theorem Gm.putOr (g : Gm M F0 H0 F H) (y : p ∈ M ∨ H0 p = none) (h : H p = some u) (hf : F p = none) : Gm M F0 H0 F (upd H p o) := by
  rcases y with y | y
  · exact g.putIn y h hf
  · exact g.putYoung h hf y
theorem Gm.outs (ps : List Addr) (hy : ∀ p ∈ ps, p ∈ M ∨ H0 p = none) (g : Gm M F0 H0 F H) (g2 : Gm (ps ++ M) F H F1 H1) : Gm M F0 H0 F1 H1 :=
  ⟨g.f.trans g2.f, g2.s, fun a o hM h => g2.h a o (fun q => by
      rcases List.mem_append.mp q with q | q
      · rcases hy a q with z | z
        · exact hM z
        · rw [z] at h; cases h
      · exact hM q) (g.h a o hM h), fun a o h hn => by
    obtain ⟨o', h'⟩ := g.m a o h
    exact g2.n a o' h' (g.n a o h hn), fun a o h => by
    obtain ⟨o', h'⟩ := g.m a o h
    exact g2.m a o' h'⟩
theorem out_y (hy : ∀ p ∈ ps, p ∈ M ∨ H0 p = none) (g : Gm M F0 H0 F H) (y : p ∈ ps ++ M ∨ H p = none) : p ∈ M ∨ H0 p = none := by
  rcases y with y | y
  · rcases List.mem_append.mp y with q | q
    · exact hy p q
    · exact .inl q
  · exact .inr (g.fresh y)
theorem y_ra {ra : Addr} (y : p ∈ [ra] ∨ H0 p = none) (n : ra ≠ p) : H0 p = none := by
  rcases y with y | y
  · exact absurd (List.mem_singleton.mp y).symm n
  · exact y
theorem y_no (y : p ∈ ([] : List Addr) ∨ H0 p = none) : H0 p = none := by
  rcases y with y | y
  · cases y
  · exact y
end
section
variable {K : PySem.W.Frag} {F H : Hp} {Q : VK} {xs ys : List V} {α : Type} {en : α → PyData} {l l' : List α} {a b : Addr}
theorem own_of (e : Ex F H) (k : ∀ p H', Gm [] F H F H' → H p = none → (H' p = some (.lst xs) ∧ F p = none) → Q (.ref p) H') : ∀ p, H p = none → Q (.ref p) (upd H p (.lst xs)) := fun p hp => k p _ (Gm.newM e hp) hp ⟨upd_same, by
    cases q : F p with
    | none => rfl
    | some u => rw [e p u q] at hp; cases hp⟩
/-- list(x) that may change -/
theorem to_own (e : Ex F H) (s : SqL K H a xs ∨ SqT K H a xs) (k : ∀ p H', Gm [] F H F H' → H p = none → (H' p = some (.lst xs) ∧ F p = none) → Q (.ref p) H') : ∃ p ys, [V.ref a] = [.ref p] ∧ (SqL K H p ys ∨ SqT K H p ys) ∧ ∀ l, H l = none → Q (.ref l) (upd H l (.lst ys)) :=
  ⟨a, xs, rfl, s, own_of e k⟩
end
/-! ### isinstance of an int -/
section
variable {X : Cx}
theorem call_isiI : CallR X (.builtin "isinstance") (fun xs H Q => ∃ (i : Int) (n : String) (b : Bool), xs = [.int i, .ty n] ∧ ((n = "int" ∧ b = true) ∨ (n = "bool" ∧ b = false)) ∧ Q (.bl b) H) := by
  intro pins s σ H vs us Q I r h
  obtain ⟨i, n, b, rfl, hn, q⟩ := h
  rcases hn with ⟨rfl, rfl⟩ | ⟨rfl, rfl⟩
  · exact call_isi pins s σ H _ us Q I r ⟨_, _, _, _, true, rfl, .ty _, .base (.int i), kit_ty (by decide +kernel), q⟩
  · exact call_isi pins s σ H _ us Q I r ⟨_, _, _, _, false, rfl, .ty _, .base (.int i), kit_ty (by decide +kernel), q⟩
end
/-! ### tuples of unlike items, empty or not -/
section
variable {K : PySem.W.Frag} {M : List Addr} {F H : Hp} {Q : VK} {α β : Type} {en : α → PyData} {en' : β → PyData} {l : List α} {l' : List β} {xs ys : List V} {a b : Addr}
theorem cat_tupD (e : Ex F H) (s : SqT K F a xs) (h : DqAll K F xs (l.map en)) (s' : SqT K F b ys) (h' : DqAll K F ys (l'.map en')) (hl : l.length + l'.length ≤ 100000) (k : Ret M F H (fun F' _ v => Dq K F' v (.tuple (l.map en ++ l'.map en'))) Q) : rCatM K (.ref a) (.ref b) H Q := by
  have n1 : xs.length = l.length := by rw [h.len, List.length_map]
  have n2 : ys.length = l'.length := by rw [h'.len, List.length_map]
  refine ⟨a, b, xs, ys, rfl, rfl, ex_t e s, ex_t e s', sz_of (by omega), fun q => ?_, fun _ q => ?_, fun _ _ p hp => ?_⟩
  · subst q
    have hl0 : l = [] := List.length_eq_zero_iff.mp n1.symm
    exact k _ _ _ (Gm.refl e) (by rw [hl0]; exact .tup s' h')
  · subst q
    have hl0 : l' = [] := List.length_eq_zero_iff.mp n2.symm
    exact k _ _ _ (Gm.refl e) (by rw [hl0, List.map_nil, List.append_nil]; exact .tup s h)
  · have g : Gm M F H (upd F p (.tup (xs ++ ys))) (upd H p (.tup (xs ++ ys))) := Gm.new e hp
    exact k _ _ _ g (.tup (st_of upd_same) ((h.app h').up g.f))
end
section
variable {X : Cx} {α β : Type} [DecidableEq α] [DecidableEq β] {f : α → PyData} {g : β → PyData} {n m : Nat}
theorem lay_app : ∀ (l r : List PyData), PyData.canLayAll0 l = true → PyData.canLayAll0 r = true → PyData.canLayAll0 (l ++ r) = true
  | [], r, _, h => h
  | x :: l, r, h, h' => by
    simp only [PyData.canLayAll0, Bool.and_eq_true] at h
    simp only [List.cons_append, PyData.canLayAll0, Bool.and_eq_true]
    exact ⟨h.1, lay_app l r h.2 h'⟩
theorem dep_app : ∀ (l r : List PyData) (k : Nat), PyData.depthAll l ≤ k → PyData.depthAll r ≤ k → PyData.depthAll (l ++ r) ≤ k
  | [], r, _, _, h => h
  | x :: l, r, k, h, h' => by
    simp only [PyData.depthAll] at h
    simp only [List.cons_append, PyData.depthAll]
    have := dep_app l r k (by omega) h'
    omega
theorem shaped_cat (s : Sh f n) (s' : Sh g m) (l : List α) (r : List β) (h : max n m + 1 ≤ 64 := by decide) : SeqAt.shaped (.tuple (l.map f ++ r.map g)) = true := by
  unfold SeqAt.shaped
  have d := dep_app (l.map f) (r.map g) (max n m) (Nat.le_trans (dep_map s l) (Nat.le_max_left ..)) (Nat.le_trans (dep_map s' r) (Nat.le_max_right ..))
  simp only [PyData.canLay0, lay_app _ _ (lay_map s l) (lay_map s' r), PyData.depth, Bool.true_and]
  exact decide_eq_true (by omega)
/-- t != (), t == () -/
def rNilM (K : PySem.W.Frag) (neg : Bool) : R2 := fun x y H Q => ∃ (ds : List PyData) (b : Bool), Dp K H x (.tuple ds) ∧ Dp K H y (.tuple []) ∧ SeqAt.shaped (.tuple ds) = true ∧ ds.isEmpty = b ∧ Q (.bl (if neg = true then !b else b)) H
theorem eqv_nil (ds : List PyData) : PyData.eqv (.tuple ds) (.tuple []) = ds.isEmpty := by
  cases ds <;> rfl
theorem op_neNil (hu : X.A.units + 64 < cLine) : OpR X (compareOp .NotEq) (rNilM X.K true) := by
  intro pins st σ H x y v u Q I rx ry h
  obtain ⟨ds, b, hd, he, sd, rfl, q⟩ := h
  exact op_neD hu pins st σ H x y v u Q I rx ry ⟨.tuple ds, .tuple [], hd, he, sd, by decide, by rw [eqv_nil]; exact q⟩
theorem op_eqNil (hu : X.A.units + 64 < cLine) : OpR X (compareOp .Eq) (rNilM X.K false) := by
  intro pins st σ H x y v u Q I rx ry h
  obtain ⟨ds, b, hd, he, sd, rfl, q⟩ := h
  exact op_eqD hu pins st σ H x y v u Q I rx ry ⟨.tuple ds, .tuple [], hd, he, sd, by decide, by rw [eqv_nil]; exact q⟩
theorem isEmpty_cat (l : List α) (r : List β) : (l.map f ++ r.map g).isEmpty = (l.isEmpty && r.isEmpty) := by
  cases l <;> cases r <;> rfl
end
/-! ### weightings -/
abbrev Ms := List (Int × Int)
abbrev Ss := List (Int × Int × Int)
abbrev Wt := Ms × Ss
abbrev eM : Ms → PyData := eV (e2 PyData.int PyData.int)
abbrev eS : Ss → PyData := eV (e3 PyData.int PyData.int PyData.int)
def wf (m s : V) : List (Str × V) := putF "_stretches" s (putF "_masses" m [])
theorem wf_eq (m s : V) : wf m s = ([("_masses", m), ("_stretches", s)] : List (Str × V)) := by
  have n : ¬ (("_masses" : Str) = "_stretches") := by decide +kernel
  show (if ("_masses" : Str) = "_stretches" then [(("_masses" : Str), s)] else (("_masses" : Str), m) :: putF "_stretches" s []) = ([("_masses", m), ("_stretches", s)] : List (Str × V))
  rw [if_neg n]
  rfl
theorem wf_m (m s : V) : (wf m s).lookup ("_masses" : Str) = some m := by
  unfold wf
  rw [lookup_putF, if_neg (by decide +kernel), lookup_putF, if_pos rfl]
theorem wf_s (m s : V) : (wf m s).lookup ("_stretches" : Str) = some s := by
  unfold wf
  rw [lookup_putF, if_pos rfl]
/-- v is a weighting that stands fixed -/
structure IsW (K : PySem.W.Frag) (C : Addr) (F : Hp) (v : V) (w : Wt) : Prop where
  ex : ∃ a dx m s, v = .ref a ∧ F a = some (.ins C dx (wf m s)) ∧ Dq K F m (eM w.1) ∧ Dq K F s (eS w.2)
theorem IsW.up {K : PySem.W.Frag} {C : Addr} {F F' : Hp} {v : V} {w : Wt} (h : IsW K C F v w) (e : Ex F F') : IsW K C F' v w := by
  obtain ⟨a, dx, m, s, rfl, h1, h2, h3⟩ := h.ex
  exact ⟨a, dx, m, s, rfl, e _ _ h1, h2.up e, h3.up e⟩
/-- a property of a class, by its name and its field -/
structure KnP (P : Program) (w : World) (K : PySem.W.Frag) (mg : Str → Option Value) (base : Heap) (C : Addr) (f fld : Str) : Prop where
  ex : ∃ p g fd, PropOf K C f p g ∧ FnOk P w K mg base CX0 1 g fd ["self"] (getSp C fld) ∧ Binds K fd ["self"] []
  cl : Cls K C
section
variable {X : Cx} {C : Addr} {f fld : Str} {e : Expr} {ta : TE} {pos : Pos}
theorem pe_propK (G : KnP X.prog X.w X.K X.mg X.base C f fld) (hr : Room 2 X.A) (he : PE X e ta) (hab : attributeBase e f X.env (eval e X.env) = eval e X.env := by rfl) : PE X (.Attribute e f pos) (tProp C (getSp C fld) [] E0 ta) := by
  obtain ⟨p, g, fd, hp, F, hb⟩ := G.ex
  exact pe_prop he G.cl hp F hr hb .nil pass0 hab
end
/-- a class that is called: by the name x its __init__ with the promise sp -/
structure KnC (P : Program) (w : World) (K : PySem.W.Frag) (mg : Str → Option Value) (base : Heap) (CX : CXT) (x : Str) (C : Addr) (k : Nat) (ps : List Str) (sp : Sp) : Prop where
  ex : ∃ f fd, Mk K C f ∧ FnOk P w K mg base CX k f fd ps sp ∧ Binds K fd ps []
  mg : mg x = some (.ref C)
section
variable {X : Cx} {C : Addr} {x : Str} {k : Nat} {ps : List Str} {sp : Sp} {e : Expr} {es : List Expr} {t : TA} {p pos : Pos} {CX : CXT} {E : XK}
theorem pe_knC (G : KnC X.prog X.w X.K X.mg X.base CX x C k ps sp) (hr : Room (k + 1) X.A) (hx : Passes CX X E) (ha : PA X (e :: es) t) (hg : Gl X x := by rfl) (hdb : (x == ("__debug__" : Str)) = false := by decide)
    (he : starEach (e :: es) X.env = (false, eval e X.env) :: starEach es X.env := by rfl) (hpl : (backTo pos (starEach es X.env)).any (·.1) = false := by rfl) : PE X (.Call (.Name x p) (e :: es) [] pos) (tMake C sp [] E t) := by
  obtain ⟨f, fd, M, F, hb⟩ := G.ex
  exact pe_make M F hr hg G.mg hb .nil hx ha hdb he hpl
end
/-- Weighting.__init__: chk tells whether the parts may be so -/
def spW0 (chk : Ms → Ss → Mm Wt) (K : PySem.W.Frag) (C : Addr) : Sp := fun vs H Q _ => ∃ (F : Hp) (x dx : Addr) (vm vs' : V) (m : Ms) (s : Ss), vs = [.ref x, vm, vs'] ∧ Ex F H ∧ H x = some (.ins C dx []) ∧ F x = none ∧
  Dq K F vm (eM m) ∧ Dq K F vs' (eS s) ∧ Post (chk m s) (fun w => ∀ F' H' a b, Gm [x] F H F' H' → H' x = some (.ins C dx (wf a b)) → F' x = none → Dq K F' a (eM w.1) → Dq K F' b (eS w.2) → Q .non H') (fun _ => False)
theorem make_W {chk : Ms → Ss → Mm Wt} {K : PySem.W.Frag} {C : Addr} {F H : Hp} {vm vs : V} {m : Ms} {s : Ss} {Q : VK} {E : XK} (e : Ex F H) (hm : Dq K F vm (eM m)) (hs : Dq K F vs (eS s))
    (k : Post (chk m s) (fun w => Ret [] F H (fun F' _ v => IsW K C F' v w) Q) (fun _ => False)) :
    ∀ x dx, H x = none → H dx = none → dx ≠ x → spW0 chk K C (.ref x :: ([vm, vs] ++ [])) (upd (upd H dx (.own x)) x (.ins C dx [])) (fun v H2 => v = .non ∧ Q (.ref x) H2) E := by
  intro x dx hx hdx hne
  have g1 : Gm [] F H (upd F dx (.own x)) (upd H dx (.own x)) := Gm.new e hdx
  have hx1 : (upd H dx (.own x)) x = none := by rw [upd_ne hne.symm]; exact hx
  have g2 : Gm [] (upd F dx (.own x)) (upd H dx (.own x)) (upd F dx (.own x)) (upd (upd H dx (.own x)) x (.ins C dx [])) := Gm.newM g1.s hx1
  have fx : (upd F dx (.own x)) x = none := by
    cases q : (upd F dx (.own x)) x with
    | none => rfl
    | some u => rw [g1.s _ _ q] at hx1; cases hx1
  refine ⟨upd F dx (.own x), x, dx, vm, vs, m, s, rfl, g2.s, upd_same, fx, hm.up g1.f, hs.up g1.f, k.mono (fun w k F' H' a b g h1 h2 ha hb => ⟨rfl, ?_⟩) fun _ z => z⟩
  have gg : Gm [] F H F' H' := by
    refine Gm.young (g1.trans g2) hx g
  have g3 := gg.fix h1 h2 hx
  have up : Ex F' (upd F' x (.ins C dx (wf a b))) := Ex.new h2
  exact k _ _ _ g3 ⟨x, dx, a, b, rfl, upd_same, ha.up up, hb.up up⟩
end Wk

set_option Elab.async false
set_option linter.all false
namespace Wk
open PySem L2 Evl
theorem new_row {K : PySem.W.Frag} {H : Hp} {sc : Addr} {scr : List Int} {Q : VK} (hs : SqL K H sc (scr.map V.int)) (k : ∀ ra H', Ex H H' → RowAt K sc ra scr H H' ⟨0, 0, 0⟩ → Q (.ref ra) H') : [V.ref sc, V.int 0, V.int 0, V.int 0].length ≤ sizeLine ∧ ∀ p, H p = none → Q (.ref p) (upd H p (.lst [V.ref sc, V.int 0, V.int 0, V.int 0])) :=
  ⟨sz_of (by show 4 ≤ 100000; decide), fun p hp => k p _ (Ex.new hp) ⟨upd_same, hp, hs⟩⟩
end Wk

set_option Elab.async false
set_option linter.all false
set_option maxRecDepth 100000
set_option maxHeartbeats 2000000
namespace Wk
open PySem PySem.W L2 He
/-! ### properties by their names -/
def propG (x f : Str) (K : Frag) : Addr := match recIn K (ma K (ga K x) f) "property" with
  | some (.ref g :: _) => g
  | _ => 0
def propB (x f : Str) (K : Frag) : Bool := eqO (findIn K (.ref (ga K x)) f) (some (some (.ref (ma K (ga K x) f)))) && (eqO (specialIn K (.ref (ma K (ga K x) f)) "__get__") (some (some (.builtin "property.__get__"))) &&
  (decide (takesIn K (.ref (ma K (ga K x) f)) = some true) && (match recIn K (ma K (ga K x) f) "property" with
    | some (.ref _ :: _) => true
    | _ => false)))
theorem propB_ok {K : Frag} {x f : Str} (h : propB x f K = true) : PropOf K (ga K x) f (ma K (ga K x) f) (propG x f K) := by
  obtain ⟨h1, h⟩ := ba h
  obtain ⟨h2, h⟩ := ba h
  obtain ⟨h3, h4⟩ := ba h
  refine ⟨eqO_ok h1, eqO_ok h2, of_decide_eq_true h3, ?_⟩
  unfold propG
  split at h4
  · rename_i g r e
    exact ⟨r, by rw [e]⟩
  · cases h4
/-- a def of a class -/
def initAt (x m : Str) (K : Frag) : Addr := ma K (ga K x) m
/-- a name that is a built-in function -/
def bltB (x : Str) (id : String) (K : Frag) : Bool := eqO (nsIn K mainGlobals x) (some (some (.builtin id)))
theorem bltB_ok {K : Frag} {h : Heap} {mg : Str → Option Value} (X : K.In h) (G : h.Ns mainGlobals mg) {x : Str} {id : String} (c : bltB x id K = true) : mg x = some (.builtin id) := mg_of X G (eqO_ok c)
/-! ### the Hook: facts, defs, what else a Bool tells -/
def obsX (fa : List Fa) (fn : List He5.DefA) (ex : Frag → Bool) (K : Frag) : He.AlD := ((fa.all fun f => f.ok K) && ((fn.all fun d => d.ok K) && ex K), fn.map fun d => He5.fnA K (d.at_ K))
def valX (fn : List He5.DefA) : He.AlD := (true, fn.map He5.DefA.val)
def SaysX (fa : List Fa) (fn : List He5.DefA) (ex : Frag → Bool) (K : Frag) : Prop := obsX fa fn ex K = valX fn
def obsXG (n : Nat) (fa : List Fa) (fn : List He5.DefA) (ex : Frag → Bool) (g : Addr → Option Obj) : He.AlD := obsX fa fn ex (frG g (He5.asA g n))
def hookX (n : Nat) (fa : List Fa) (fn : List He5.DefA) (ex : Frag → Bool) : PySem.W.Hook where
  α := He.AlD
  obs := fun s => obsXG n fa fn ex s.heap.get?
  val := fun _ => valX fn
  says := fun _ h => ∃ K : Frag, K.In h ∧ SaysX fa fn ex K
  of := fun _ _ e => ⟨_, frG_in, e⟩
  keeps := fun _ _ _ ⟨K, hK, c⟩ k => ⟨K, Frag.In.keeps hK k, c⟩
theorem obsXG_eq {n : Nat} {fa : List Fa} {fn : List He5.DefA} {ex : Frag → Bool} {g : Addr → Option Obj} {s : Shared} (h : ∀ a, g a = s.heap.get? a) : obsXG n fa fn ex g = (hookX n fa fn ex).obs s := by
  have e : g = s.heap.get? := funext h
  rw [e] <;> rfl
section
variable {fa : List Fa} {fn : List He5.DefA} {ex : Frag → Bool} {K : Frag}
theorem SaysX.bool (c : SaysX fa fn ex K) : (((fa.all fun f => f.ok K) && ((fn.all fun d => d.ok K) && ex K)) : Bool) = true := congrArg (fun z : He.AlD => z.1) c
theorem SaysX.fact (c : SaysX fa fn ex K) (i : Nat) {f : Fa} (h : fa[i]? = some f := by rfl) : f.ok K = true :=
  List.all_eq_true.mp (ba c.bool).1 f (List.mem_of_getElem? h)
theorem SaysX.ext (c : SaysX fa fn ex K) : ex K = true := (ba (ba c.bool).2).2
theorem SaysX.def_ (c : SaysX fa fn ex K) (i : Nat) {d : He5.DefA} (h : fn[i]? = some d := by rfl) : ∃ fd, L2.FunD K d.name d.qual d.params d.body d.scope (d.dvs K) (d.kws K) (d.at_ K) fd := by
  have c2 := (ba (ba c.bool).2).1
  have e : fn.map (fun d => He5.fnA K (d.at_ K)) = fn.map He5.DefA.val := congrArg (fun z : He.AlD => z.2) c
  have e2 : (fn.map fun d => He5.fnA K (d.at_ K))[i]? = (fn.map He5.DefA.val)[i]? := by rw [e]
  rw [List.getElem?_map, List.getElem?_map, h] at e2
  exact He5.DefA.funD (Option.some.inj e2) (List.all_eq_true.mp c2 d (List.mem_of_getElem? h))
end
/-- a global's def -/
def gAt (x : Str) (K : Frag) : Addr := ga K x
theorem knP_of {P : Program} {w : World} {K : Frag} {mg : Str → Option Value} {base : Heap} {x f fld qual : Str} {params : Arguments} {body : List Stmt} {scope : Scope} {fd : FuncData} {p1 p2 p3 : Pos} (hp : propB x f K = true) (cl : Cls K (ga K x)) (n : NoAttr K (ga K x) fld)
    (F : FunD K f qual params body scope [] [] (propG x f K) fd) (S : FnScope ["self"] ["self"] scope) (hb : body = [.Return (some (.Attribute (.Name "self" p1) fld p2)) p3])
    (bi : ∀ (kV doc pm : Value) (an : Option Addr) (cdv ct : Value) (us : List Value), us.length = 1 → bindArgs (PySem.W.fnOf f qual params body scope .none kV doc pm an cdv ct) ⟨us, []⟩ = pure ([("self" : Str)].zip us)) : KnP P w K mg base (ga K x) f fld := by
  have b := F.bindsN (ps := ["self"]) bi
  obtain ⟨oc, od, dV, kV, doc, pm, an, cdv, ct, osl, rfl, lk, hcd, _, _⟩ := F.ex
  exact ⟨⟨_, _, _, propB_ok hp, fn_getter lk hcd S rfl hb cl n, b⟩, cl⟩
end Wk

set_option Elab.async false
set_option linter.all false
set_option maxRecDepth 100000
namespace Wk
open PySem L2
/-! ### outcomes that are values -/
def Yes {α : Type} (m : Mm α) (p : α → Prop) : Prop := ∃ a, m = .ok a ∧ p a
section
variable {α β γ S : Type} {m : Mm α} {f : α → Mm β} {p : α → Prop} {q : β → Prop}
theorem Yes.ok {a : α} (h : p a) : Yes (.ok a) p := ⟨a, rfl, h⟩
theorem Yes.bd (h : Yes m p) (k : ∀ a, p a → Yes (f a) q) : Yes (m.bd f) q := by
  obtain ⟨a, rfl, h⟩ := h
  exact k a h
theorem Yes.eq {a : α} (h : m = .ok a) (k : Yes (f a) q) : Yes (m.bd f) q := by
  subst h
  exact k
theorem Yes.mono {p' : α → Prop} (h : Yes m p) (k : ∀ a, p a → p' a) : Yes m p' := by
  obtain ⟨a, e, h⟩ := h
  exact ⟨a, e, k a h⟩
theorem Yes.guard {c : Prop} [Decidable c] {f : Unit → Mm β} (h : c) (k : Yes (f ()) q) : Yes ((guardM c).bd f) q := by
  unfold guardM
  rw [if_pos h]
  exact k
theorem bd_eq {a : α} (h : m = .ok a) : m.bd f = f a := by subst h; rfl
theorem bd_guard {c : Prop} [Decidable c] {f : Unit → Mm β} (h : c) : (guardM c).bd f = f () := by unfold guardM; rw [if_pos h]; rfl
theorem mapMm_eq {f : α → Mm γ} {g : α → γ} : ∀ l : List α, (∀ x ∈ l, f x = .ok (g x)) → mapMm f l = .ok (l.map g)
  | [], _ => rfl
  | x :: l, h => by
    unfold mapMm
    rw [h x (List.mem_cons_self ..), mapMm_eq l fun y hy => h y (List.mem_cons_of_mem _ hy)]
    rfl
theorem foldM_eq {f : S → α → Mm S} {g : S → α → S} (I : S → List α → Prop) : ∀ (l : List α) (s : S), I s l → (∀ s x l, I s (x :: l) → f s x = .ok (g s x) ∧ I (g s x) l) → foldM f s l = .ok (l.foldl g s)
  | [], s, _, _ => rfl
  | x :: l, s, h, k => by
    obtain ⟨e, h2⟩ := k s x l h
    unfold foldM
    rw [e]
    exact foldM_eq I l _ h2 k
theorem yes_fold {f : S → α → Mm S} (I : S → List α → Prop) : ∀ (l : List α) (s : S), I s l → (∀ s x l, I s (x :: l) → Yes (f s x) fun s' => I s' l) → Yes (foldM f s l) fun s' => I s' []
  | [], s, h, _ => ⟨s, rfl, h⟩
  | x :: l, s, h, k => by
    obtain ⟨s', e, h2⟩ := k s x l h
    unfold foldM
    rw [e]
    exact yes_fold I l s' h2 k
inductive All2 {α γ : Type} (p : α → γ → Prop) : List α → List γ → Prop
  | nil : All2 p [] []
  | cons {x : α} {y : γ} {l : List α} {r : List γ} : p x y → All2 p l r → All2 p (x :: l) (y :: r)
theorem All2.len {p : α → γ → Prop} {l : List α} {r : List γ} (h : All2 p l r) : r.length = l.length := by
  induction h with
  | nil => rfl
  | cons _ _ ih => simp [ih]
theorem All2.right {p : α → γ → Prop} {q : γ → Prop} {l : List α} {r : List γ} (h : All2 p l r) (k : ∀ x y, p x y → q y) : ∀ y ∈ r, q y := by
  induction h with
  | nil => simp
  | cons a _ ih =>
    intro y hy
    rcases List.mem_cons.mp hy with rfl | hy
    · exact k _ _ a
    · exact ih y hy
theorem All2.fst {g : γ → α} {p : α → γ → Prop} {l : List α} {r : List γ} (h : All2 p l r) (k : ∀ x y, p x y → g y = x) : r.map g = l := by
  induction h with
  | nil => rfl
  | cons a _ ih => rw [List.map_cons, k _ _ a, ih]
theorem yes_mapSt {f : S → α → Mm (γ × S)} (I : S → Prop) (p : α → γ → Prop) : ∀ (l : List α) (s : S), I s → (∀ s x, x ∈ l → I s → Yes (f s x) fun y => p x y.1 ∧ I y.2) → Yes (mapSt f s l) fun r => All2 p l r.1 ∧ I r.2
  | [], s, h, _ => ⟨_, rfl, .nil, h⟩
  | x :: l, s, h, k => by
    obtain ⟨y, e, h1, h2⟩ := k s x (List.mem_cons_self ..) h
    obtain ⟨r, e2, h3, h4⟩ := yes_mapSt I p l y.2 h2 fun s z hz => k s z (List.mem_cons_of_mem _ hz)
    unfold mapSt
    rw [e]
    show Yes ((mapSt f y.2 l).bd _) _
    rw [e2]
    exact ⟨_, rfl, .cons h1 h3, h4⟩
end
theorem range_ok {j : Int} (h : -(2 ^ 62) ≤ j) (h2 : j < 2 ^ 62) : rangeM j = .ok (rangeL 0 j.toNat) := by unfold rangeM; rw [if_pos ⟨h, h2⟩]
theorem mul_ok {i j : Int} {a b : Nat} (ha : i.natAbs < 2 ^ a) (hb : j.natAbs < 2 ^ b) (h : a + b ≤ 900000) : mulM i j = .ok (i * j) := by
  unfold mulM
  refine if_pos (wide_mul (a := a + 1) (b := b + 1) ?_ ?_ (by omega) (by omega) (by omega))
  · rw [Nat.pow_succ]; omega
  · rw [Nat.pow_succ]; omega
theorem div_any {i j : Int} {b : Nat} (h : j ≠ 0) (hb : j.natAbs < 2 ^ b) (h2 : b < 9000) : divM i j = .ok (i.fdiv j) := by
  unfold divM
  have hb' : j.natAbs < 2 ^ (b + 1) := by rw [Nat.pow_succ]; omega
  exact if_pos ⟨h, Nat.lt_of_lt_of_le (PySem.Flt.log2_lt_of (by omega) hb') (by omega)⟩
theorem div_ok {i j : Int} {b : Nat} (h : 0 < j) (hb : j.natAbs < 2 ^ b) (h2 : b < 9000) : divM i j = .ok (i / j) := by
  rw [div_any (by omega) hb h2, Int.fdiv_eq_ediv_of_nonneg _ (Int.le_of_lt h)]
theorem mod_ok {i j : Int} (h : 0 < j) : modM i j = .ok (i % j) := by
  unfold modM
  rw [if_pos (by omega), Int.fmod_eq_emod_of_nonneg _ (Int.le_of_lt h)]
theorem mod_ne {i j : Int} (h : j ≠ 0) : modM i j = .ok (i.fmod j) := by
  unfold modM
  rw [if_pos h]
/-! ### fractions -/
def fr (q : Rat) : Int × Int := (q.num, (q.den : Int))
def Sq (n : Nat) (q : Rat) : Prop := q.num.natAbs < 2 ^ n ∧ q.den < 2 ^ n
theorem fr_nat (a : Int) {d : Nat} (h : d ≠ 0) : fr ((a : Rat) / (d : Rat)) = (a / ((Nat.gcd a.natAbs d : Nat) : Int), ((d / Nat.gcd a.natAbs d : Nat) : Int)) := by
  unfold fr
  rw [← Rat.mkRat_eq_div, Rat.num_mkRat, Rat.den_mkRat, if_neg h, if_neg h, Nat.gcd_comm]
theorem fr_int (a : Int) {b : Int} (h : 0 < b) : fr ((a : Rat) / (b : Rat)) = (a / ((Nat.gcd a.natAbs b.natAbs : Nat) : Int), b / ((Nat.gcd a.natAbs b.natAbs : Nat) : Int)) := by
  obtain ⟨d, rfl⟩ := Int.eq_ofNat_of_zero_le (Int.le_of_lt h)
  have hd : d ≠ 0 := by omega
  have := fr_nat a hd
  rw [Int.natAbs_natCast, ← Int.natCast_ediv]
  exact this
theorem gcd_pos_int {a b : Int} (h : 0 < b) : 0 < ((Nat.gcd a.natAbs b.natAbs : Nat) : Int) := by
  have : 0 < Nat.gcd a.natAbs b.natAbs := Nat.gcd_pos_of_pos_right _ (by omega)
  omega
theorem gcd_le_int {a b : Int} (h : 0 < b) : ((Nat.gcd a.natAbs b.natAbs : Nat) : Int).natAbs ≤ b.natAbs := by
  rw [Int.natAbs_natCast]
  exact Nat.gcd_le_right _ (by omega)
theorem den_posI (q : Rat) : 0 < (q.den : Int) := by
  have := q.den_nz
  omega
theorem fr_val (q : Rat) : ((fr q).1 : Rat) / ((fr q).2 : Rat) = q := by
  have h := Rat.mkRat_eq_div q.num q.den
  rw [Rat.mkRat_self] at h
  unfold fr
  rw [show (((q.den : Nat) : Int) : Rat) = ((q.den : Nat) : Rat) from rfl]
  exact h.symm
theorem sq_div {n : Nat} {a b : Int} (h : 0 < b) (ha : a.natAbs < 2 ^ n) (hb : b.natAbs < 2 ^ n) : Sq n ((a : Rat) / (b : Rat)) := by
  have e := fr_int a h
  unfold fr at e
  simp only [Prod.mk.injEq] at e
  obtain ⟨e1, e2⟩ := e
  unfold Sq
  have g0 := gcd_pos_int (a := a) h
  constructor
  · rw [e1]
    exact Nat.lt_of_le_of_lt (Int.natAbs_ediv_le_natAbs _ _) ha
  · have : ((a : Rat) / (b : Rat)).den = (((a : Rat) / (b : Rat)).den : Int).natAbs := by omega
    rw [this, e2]
    exact Nat.lt_of_le_of_lt (Int.natAbs_ediv_le_natAbs _ _) hb
theorem two_le (n : Nat) : 1 ≤ 2 ^ n := Nat.one_le_two_pow
theorem add_lt {x y : Int} {a b n : Nat} (ha : x.natAbs < 2 ^ a) (hb : y.natAbs < 2 ^ b) (h : a < n) (h' : b < n) : (x + y).natAbs < 2 ^ n := by
  have e1 : 2 ^ a ≤ 2 ^ (n - 1) := Nat.pow_le_pow_right (by decide) (by omega)
  have e2 : 2 ^ b ≤ 2 ^ (n - 1) := Nat.pow_le_pow_right (by decide) (by omega)
  have e3 : 2 ^ n = 2 * 2 ^ (n - 1) := by
    rw [← Nat.pow_succ']
    congr 1
    omega
  omega
theorem sub_lt {x y : Int} {a b n : Nat} (ha : x.natAbs < 2 ^ a) (hb : y.natAbs < 2 ^ b) (h : a < n) (h' : b < n) : (x - y).natAbs < 2 ^ n := by
  have := add_lt (x := x) (y := -y) ha (by omega) h h'
  rwa [Int.sub_eq_add_neg]
theorem mul_lt {x y : Int} {a b n : Nat} (ha : x.natAbs < 2 ^ a) (hb : y.natAbs < 2 ^ b) (h : a + b ≤ n) : (x * y).natAbs < 2 ^ n :=
  Nat.lt_of_lt_of_le (wide_lt ha hb) (Nat.pow_le_pow_right (by decide) h)
theorem up_lt {x : Int} {a n : Nat} (ha : x.natAbs < 2 ^ a) (h : a ≤ n) : x.natAbs < 2 ^ n := Nat.lt_of_lt_of_le ha (Nat.pow_le_pow_right (by decide) h)
theorem Sq.up {q : Rat} {a n : Nat} (h : Sq a q) (l : a ≤ n) : Sq n q := ⟨up_lt h.1 l, Nat.lt_of_lt_of_le h.2 (Nat.pow_le_pow_right (by decide) l)⟩
theorem Sq.d {q : Rat} {a : Nat} (h : Sq a q) : ((q.den : Nat) : Int).natAbs < 2 ^ a := by rw [Int.natAbs_natCast]; exact h.2
theorem rat_add (p q : Rat) : p + q = ((p.num * (q.den : Int) + q.num * (p.den : Int) : Int) : Rat) / (((p.den : Int) * (q.den : Int) : Int) : Rat) := by
  have a := fr_val p
  have b := fr_val q
  unfold fr at a b
  have x : ((p.den : Int) : Rat) ≠ 0 := by
    have := den_posI p
    intro z
    have := Rat.intCast_inj.mp (show ((p.den : Int) : Rat) = ((0 : Int) : Rat) from z)
    omega
  have y : ((q.den : Int) : Rat) ≠ 0 := by
    have := den_posI q
    intro z
    have := Rat.intCast_inj.mp (show ((q.den : Int) : Rat) = ((0 : Int) : Rat) from z)
    omega
  push_cast
  push_cast at a b x y
  grind
theorem rat_mul (p q : Rat) : p * q = ((p.num * q.num : Int) : Rat) / (((p.den : Int) * (q.den : Int) : Int) : Rat) := by
  have a := fr_val p
  have b := fr_val q
  unfold fr at a b
  push_cast
  push_cast at a b
  grind
theorem rat_div (p q : Rat) : p / q = ((p.num * (q.den : Int) : Int) : Rat) / (((p.den : Int) * q.num : Int) : Rat) := by
  have a := fr_val p
  have b := fr_val q
  unfold fr at a b
  push_cast
  push_cast at a b
  grind
theorem sq_add {p q : Rat} {a b n : Nat} (ha : Sq a p) (hb : Sq b q) (h : a + b < n) : Sq n (p + q) := by
  rw [rat_add]
  refine sq_div (Int.mul_pos (den_posI p) (den_posI q)) ?_ (mul_lt ha.d hb.d (by omega))
  exact add_lt (mul_lt ha.1 hb.d (Nat.le_refl _)) (mul_lt hb.1 ha.d (Nat.le_refl _)) (by omega) (by omega)
theorem sq_mul {p q : Rat} {a b n : Nat} (ha : Sq a p) (hb : Sq b q) (h : a + b ≤ n) : Sq n (p * q) := by
  rw [rat_mul]
  exact sq_div (Int.mul_pos (den_posI p) (den_posI q)) (mul_lt ha.1 hb.1 h) (mul_lt ha.d hb.d h)
theorem num_pos' {q : Rat} (h : 0 < q) : 0 < q.num := by
  have := Rat.num_nonneg (q := q)
  have h1 : 0 ≤ q.num := this.mpr (Rat.le_of_lt h)
  have h2 : q.num ≠ 0 := fun z => by
    have : q = 0 := Rat.num_eq_zero.mp z
    rw [this] at h
    exact absurd h (by decide)
  omega
theorem sq_quo {p q : Rat} {a b n : Nat} (ha : Sq a p) (hb : Sq b q) (hq : 0 < q) (h : a + b ≤ n) : Sq n (p / q) := by
  rw [rat_div]
  exact sq_div (Int.mul_pos (den_posI p) (num_pos' hq)) (mul_lt ha.1 hb.d h) (mul_lt ha.d hb.1 h)
theorem fr_inj {p q : Rat} (h : fr p = fr q) : p = q := by
  have a := fr_val p
  rw [h, fr_val] at a
  exact a.symm
end Wk

set_option Elab.async false
set_option linter.all false
set_option maxRecDepth 100000
namespace Wk
open PySem L2 Evl
section
variable {K : PySem.W.Frag} {M : List Addr} {F F' H H' : Hp} {Q : VK} {α : Type} {en : α → PyData} {l l' : List α} {xs ys : List V} {a b p : Addr} {v : V} {ds : List PyData}
/-! ### None or a value -/
theorem sh_eO [DecidableEq α] {f : α → PyData} {n : Nat} (s : Sh f n) (h1 : ∀ a, PyData.eqv .none (f a) = false := by intro a; rfl) (h2 : ∀ a, PyData.eqv (f a) .none = false := by intro a; rfl) : Sh (eO f) (n + 1) :=
  ⟨fun o => by cases o with
    | none => rfl
    | some a => exact s.lay a, fun o => by cases o with
    | none => simp [eO, PyData.depth]
    | some a => exact Nat.le_succ_of_le (s.dep a), fun o o' => by
      cases o with
      | none => cases o' with
        | none => simp [eO, PyData.eqv]
        | some b => rw [show eO f none = .none from rfl, show eO f (some b) = f b from rfl, h1]; simp
      | some a => cases o' with
        | none => rw [show eO f none = .none from rfl, show eO f (some a) = f a from rfl, h2]; simp
        | some b => rw [show eO f (some a) = f a from rfl, show eO f (some b) = f b from rfl, s.eq]; simp⟩
theorem isN_go {o : Option α} {Q : VK} (h : Dq K F v (eO en o)) (q : Q (.bl o.isNone) H) (hn : ∀ a, en a ≠ .none := by intro a; exact fun h => nomatch h) : (fun (x : V) (H1 : Hp) => Q (.bl (decide (x = V.non))) H1) v H := by
  show Q (.bl (decide (v = V.non))) H
  rw [none_O h hn]
  exact q
def getO {α : Type} (o : Option α) : Mm α := match o with
  | some a => .ok a
  | none => .bad
theorem post_getO {β : Type} {f : α → Mm β} {r : β → Prop} {q : Er → Prop} {o : Option α} (h : Post ((getO o).bd f) r q) : ∃ a, o = some a ∧ Post (f a) r q := by
  cases o with
  | none => exact h.h.elim
  | some a => exact ⟨a, rfl, ⟨h.h⟩⟩
theorem dq_some {o : Option α} {x : α} (d : Dq K F v (eO en o)) (h : o = some x) : Dq K F v (en x) := by
  subst h
  exact d
/-! ### a list display with a list in it -/
theorem new_star {pre : List V} {pm : List α} (e : Ex F H) (a : DqAll K F pre (pm.map en)) (b : DqAll K F xs (l.map en)) (hl : pm.length + l.length ≤ 100000) (k : Ret M F H (fun F' _ v => Dq K F' v (eL en (pm ++ l))) Q) :
    (pre ++ (xs ++ [])).length ≤ sizeLine ∧ ∀ p, H p = none → Q (.ref p) (upd H p (.lst (pre ++ (xs ++ [])))) := by
  rw [List.append_nil]
  refine new_lst e (ds := (pm ++ l).map en) ?_ ?_ k
  · rw [List.map_append]
    exact a.app b
  · rw [List.length_append, a.len, b.len, List.length_map, List.length_map]
    exact hl
/-- a tuple of any values -/
theorem new_tupR (e : Ex F H) (hl : xs.length ≤ 100000) (k : ∀ p F' H', Gm M F H F' H' → SqT K F' p xs → Q (.ref p) H') : xs.length ≤ sizeLine ∧ ∀ p, H p = none → Q (.ref p) (upd H p (.tup xs)) :=
  ⟨sz_of hl, fun p hp => k p _ _ (Gm.new e hp) (st_of upd_same)⟩
/-! ### an item is set -/
def setM {α : Type} (l : List α) (i : Int) (v : α) : Mm (List α) := match ixN l.length i with
  | some j => .ok (l.set j v)
  | none => .bad
theorem post_set {β : Type} {f : List α → Mm β} {r : β → Prop} {q : Er → Prop} {i : Int} {x : α} (h : Post ((setM l i x).bd f) r q) : ∃ m j, ixN l.length i = some j ∧ l.set j x = m ∧ Post (f m) r q := by
  unfold setM at h
  cases e : ixN l.length i with
  | none =>
    rw [e] at h
    exact h.h.elim
  | some j =>
    rw [e] at h
    exact ⟨_, j, rfl, rfl, ⟨h.h⟩⟩
theorem all_ix {i : Int} {j : Nat} (a : DqAll K F xs (l.map en)) (h : ixN l.length i = some j) : ixN xs.length i = some j := by
  rw [a.len, List.length_map]
  exact h
theorem dqAll_set {v : V} {d : PyData} : ∀ {xs : List V} {ds : List PyData} (j : Nat), DqAll K F xs ds → Dq K F v d → DqAll K F (xs.set j v) (ds.set j d)
  | _, _, j, .nil, _ => .nil
  | _, _, 0, .cons _ b, h => .cons h b
  | _, _, j + 1, .cons a b, h => .cons a (dqAll_set j b h)
theorem all_set {j : Nat} {x : α} {m : List α} (a : DqAll K F xs (l.map en)) (h : Dq K F v (en x)) (e : l.set j x = m) : DqAll K F (xs.set j v) (m.map en) := by
  subst e
  rw [List.map_set]
  exact dqAll_set j a h
end
section
variable {K : PySem.W.Frag} {M : List Addr} {F H : Hp} {σ : L2.St} {g : TG} {tt : TT} {te : TE} {vs : List Nat} {α β γ : Type} {l : List α} {ok : β → Prop} {ex : Er → Prop} {J : It} {R : Hp → V → α → Prop} {Q : VK}
theorem lc_fil {f : α → Mm (Option γ)} {rest : List γ → Mm β} (w : Wlk M F H J l R) (en : γ → PyData) (k : Post ((filMm f l).bd rest) ok ex) (e : Ex F H) (hz : l.length ≤ 50000) (hM : ∀ D, H D = none → D ∉ M)
    (hb : ∀ x v F1 H1 F2 H2, Gm M F H F1 H1 → Gm [] F1 H1 F2 H2 → R F2 v x → ∀ Q' : Option V → Hp → Prop, Post (f x) (fun o => ∀ F3 H3 v, Gm M F1 H1 F3 H3 → (match o with
        | some y => ∃ u, v = some u ∧ Dq K F3 u (en y)
        | none => v = none) → Q' v H3) (fun _ => False) →
      g v (wipe σ vs) H2 fun σ2 H3 => wipe σ2 vs = wipe σ vs ∧ tt σ2 H3 fun b H4 => if b = true then te σ2 H4 fun y H5 => Q' (some y) H5 else Q' none H4)
    (hx : ∀ e, ¬ ex e) (kk : ∀ (r : List γ) v F' H', Gm M F H F' H' → Dq K F' v (eL en r) → Post (rest r) ok ex → Q v H') (mono : GMon g) :
    ∀ D, H D = none → ∃ W : Nat → Nat → Hp → Prop, (∃ m, W 0 m (upd H D (.lst []))) ∧ ∀ i m H, W i m H →
      (J.stop i H ∧ Q (.ref D) H) ∨ (J.go i H ∧ ∃ Nx : Hp → Prop, (∀ H', Nx H' → ∃ m', m' < m ∧ W (i + 1) m' H') ∧ ∀ x H', J.yld i H x H' → g x (wipe σ vs) H' fun σ2 H2 => wipe σ2 vs = wipe σ vs ∧ tt σ2 H2 fun b H3 =>
        if b = true then te σ2 H3 fun y H4 => ∃ acc, H4 D = some (.lst acc) ∧ acc.length < sizeLine ∧ Nx (upd H4 D (.lst (acc ++ [y]))) else Nx H3) := by
  obtain ⟨n, G, Y, w, hn, hG, hY⟩ := w.ex
  rw [filMm_comp, bd_assoc] at k
  refine lc_mir w en (fun _ _ _ => True) k e trivial stab_t hn hz hG hM (fun i s x v F' H' H'' g' _ hx y Q' k' => ?_) hx (fun r v F' H' g' _ d k' => kk r.1 v F' H' g' d k')
  obtain ⟨F'', g2, r⟩ := hY i x v F' H' H'' g' hx y
  exact hb x v F' H' F'' H'' g' g2 r Q' ((post_bd k').mono (fun o q F3 H3 v g3 d => q.h F3 H3 v g3 trivial (by cases o <;> exact d)) fun _ z => z)
end
end Wk

set_option Elab.async false
set_option linter.all false
set_option maxRecDepth 100000
set_option maxHeartbeats 2000000
namespace Wk
open PySem L2 Evl
theorem cdv_small {i j : Int} (h : j ≠ 0 ∧ j.natAbs < 1073741824) : CDv i j := by
  have e : j.natAbs < 2 ^ 30 := by have : (2 : Nat) ^ 30 = 1073741824 := by decide
                                   omega
  exact ⟨h.1, Nat.lt_of_lt_of_le (PySem.Flt.log2_lt_of (by decide) e) (by decide)⟩
/-! ### and, or: the second operand draws -/
section
variable {M : List Addr} {F H : Hp} {σ : L2.St} {α S : Type} {a : Bool} {Y : Mm (Bool × S)} {rest : Bool × S → Mm α} {st : S} {ok : α → Prop} {ex : Er → Prop} {Q : Bool → Hp → Prop} {u : TT} {QV : VK} {uE : TE}
theorem and_jS (W : S → Hp → Hp → Prop) (e : Ex F H) (h0 : W st F H) (k : Post ((cond a Y (.ok (false, st))).bd rest) ok ex)
    (hu : a = true → ∀ Q' : Bool → Hp → Prop, Post Y (fun b => ∀ F' H', Gm M F H F' H' → W b.2 F' H' → Q' b.1 H') ex → u σ H Q')
    (kk : ∀ b F' H', Gm M F H F' H' → W b.2 F' H' → Post (rest b) ok ex → Q b.1 H') : if a = true then u σ H Q else Q false H := by
  cases a with
  | false => rw [if_neg Bool.false_ne_true]; exact kk (false, st) F H (Gm.refl e) h0 ⟨k.h⟩
  | true => rw [if_pos rfl]; exact hu rfl Q ((post_bd k).mono (fun b q F' H' g s => kk b F' H' g s q) fun _ z => z)
theorem or_jS (W : S → Hp → Hp → Prop) (e : Ex F H) (h0 : W st F H) (k : Post ((cond a (.ok (true, st)) Y).bd rest) ok ex)
    (hu : a = false → ∀ Q' : Bool → Hp → Prop, Post Y (fun b => ∀ F' H', Gm M F H F' H' → W b.2 F' H' → Q' b.1 H') ex → u σ H Q')
    (kk : ∀ b F' H', Gm M F H F' H' → W b.2 F' H' → Post (rest b) ok ex → Q b.1 H') : if a = true then Q true H else u σ H Q := by
  cases a with
  | true => rw [if_pos rfl]; exact kk (true, st) F H (Gm.refl e) h0 ⟨k.h⟩
  | false => rw [if_neg Bool.false_ne_true]; exact hu rfl Q ((post_bd k).mono (fun b q F' H' g s => kk b F' H' g s q) fun _ z => z)
/-- as values -/
theorem andV_jS (W : S → Hp → Hp → Prop) (e : Ex F H) (h0 : W st F H) (k : Post ((cond a Y (.ok (false, st))).bd rest) ok ex)
    (hu : a = true → ∀ Q' : VK, Post Y (fun b => ∀ F' H', Gm M F H F' H' → W b.2 F' H' → Q' (.bl b.1) H') ex → uE σ H Q')
    (kk : ∀ b F' H', Gm M F H F' H' → W b.2 F' H' → Post (rest b) ok ex → QV (.bl b.1) H') : if a = true then uE σ H QV else QV (.bl false) H := by
  cases a with
  | false => rw [if_neg Bool.false_ne_true]; exact kk (false, st) F H (Gm.refl e) h0 ⟨k.h⟩
  | true => rw [if_pos rfl]; exact hu rfl QV ((post_bd k).mono (fun b q F' H' g s => kk b F' H' g s q) fun _ z => z)
theorem orV_jS (W : S → Hp → Hp → Prop) (e : Ex F H) (h0 : W st F H) (k : Post ((cond a (.ok (true, st)) Y).bd rest) ok ex)
    (hu : a = false → ∀ Q' : VK, Post Y (fun b => ∀ F' H', Gm M F H F' H' → W b.2 F' H' → Q' (.bl b.1) H') ex → uE σ H Q')
    (kk : ∀ b F' H', Gm M F H F' H' → W b.2 F' H' → Post (rest b) ok ex → QV (.bl b.1) H') : if a = true then QV (.bl true) H else uE σ H QV := by
  cases a with
  | true => rw [if_pos rfl]; exact kk (true, st) F H (Gm.refl e) h0 ⟨k.h⟩
  | false => rw [if_neg Bool.false_ne_true]; exact hu rfl QV ((post_bd k).mono (fun b q F' H' g s => kk b F' H' g s q) fun _ z => z)
end
/-! ### own lists: as data, repeated, popped -/
section
variable {K : PySem.W.Frag} {M : List Addr} {F F' H H' : Hp} {Q : VK} {α : Type} {en : α → PyData} {l m : List α} {xs ys : List V} {a p : Addr} {v : V} {j : Int}
theorem own_dp (h : H p = some (.lst xs)) (a : DqAll K F xs (l.map en)) (e : Ex F H) : Dp K H (.ref p) (eL en l) := .lst (sq_of h) (dqAll_dp _ _ (a.up e))
def repM {α : Type} (l : List α) (k : Int) : Mm (List α) := if -(2 ^ 63) ≤ k ∧ k < 2 ^ 63 ∧ l.length * k.toNat ≤ 100000 then .ok (List.replicate k.toNat l).flatten else .bad
theorem post_rep {β : Type} {f : List α → Mm β} {r : β → Prop} {q : Er → Prop} (h : Post ((repM l j).bd f) r q) : ∃ m, (-(2 ^ 63) ≤ j ∧ j < 2 ^ 63 ∧ l.length * j.toNat ≤ 100000) ∧ (List.replicate j.toNat l).flatten = m ∧ Post (f m) r q := by
  unfold repM at h
  split at h
  · exact ⟨_, ‹_›, rfl, ⟨h.h⟩⟩
  · exact h.h.elim
theorem all_rep (d : DqAll K F xs (l.map en)) : ∀ n : Nat, DqAll K F (List.replicate n xs).flatten ((List.replicate n l).flatten.map en)
  | 0 => .nil
  | n + 1 => by
    rw [List.replicate_succ, List.replicate_succ, List.flatten_cons, List.flatten_cons, List.map_append]
    exact d.app (all_rep d n)
theorem rep_sz (d : DqAll K F xs (l.map en)) {n : Nat} (h : l.length * n ≤ 100000) : xs.length * n ≤ sizeLine := sz_of (by rw [d.len, List.length_map]; exact h)
theorem rep_lst (e : Ex F H) (s : H a = some (.lst xs)) (d : DqAll K F xs (l.map en)) (h : -(2 ^ 63) ≤ j ∧ j < 2 ^ 63 ∧ l.length * j.toNat ≤ 100000) (hm : (List.replicate j.toNat l).flatten = m) (k : Ret M F H (fun F' _ v => Dq K F' v (eL en m)) Q) : rRep (.ref a) (.int j) H Q := by
  subst hm
  refine ⟨a, j, xs, rfl, rfl, s, h.1, h.2.1, rep_sz d h.2.2, fun p hp => ?_⟩
  have g : Gm M F H (upd F p (.lst (List.replicate j.toNat xs).flatten)) (upd H p (.lst (List.replicate j.toNat xs).flatten)) := Gm.new e hp
  exact k _ _ _ g (.lst upd_same ((all_rep d _).up g.f))
theorem rep_own (e : Ex F H) (s : H a = some (.lst xs)) (d : DqAll K F xs (l.map en)) (h : -(2 ^ 63) ≤ j ∧ j < 2 ^ 63 ∧ l.length * j.toNat ≤ 100000) (k : ∀ p H', Gm [] F H F H' → H p = none → (H' p = some (.lst (List.replicate j.toNat xs).flatten) ∧ F p = none) → Q (.ref p) H') : rRep (.ref a) (.int j) H Q :=
  ⟨a, j, xs, rfl, rfl, s, h.1, h.2.1, rep_sz d h.2.2, own_of e k⟩
theorem all_repM (d : DqAll K F xs (l.map en)) (hm : (List.replicate j.toNat l).flatten = m) : DqAll K F (List.replicate j.toNat xs).flatten (m.map en) := by
  subst hm
  exact all_rep d _
def popN {α : Type} (l : List α) : Mm (List α) := match l with
  | [] => .bad
  | x :: r => .ok (x :: r).dropLast
theorem post_pop {β : Type} {f : List α → Mm β} {r : β → Prop} {q : Er → Prop} (h : Post ((popN l).bd f) r q) : l ≠ [] ∧ Post (f l.dropLast) r q := by
  cases l with
  | nil => exact h.h.elim
  | cons x l => exact ⟨by simp, ⟨h.h⟩⟩
theorem all_pop (d : DqAll K F xs (l.map en)) : DqAll K F xs.dropLast (l.dropLast.map en) := by
  have e1 : xs.dropLast = xs.take (xs.length - 1) := List.dropLast_eq_take
  have e2 : l.dropLast.map en = (l.map en).take (xs.length - 1) := by
    rw [List.dropLast_eq_take, List.map_take, d.len, List.length_map]
  rw [e1, e2]
  exact d.take _
theorem pop_at (d : DqAll K F xs (l.map en)) (h : l ≠ []) : ∃ y, xs[xs.length - 1]? = some y := by
  have n : xs.length = l.length := by rw [d.len, List.length_map]
  have : 0 < l.length := List.length_pos_iff.mpr h
  exact ⟨_, List.getElem?_eq_getElem (by omega)⟩
end
/-! ### range that goes down -/
def rangeDn (lo : Int) (n : Nat) : List Int := (List.range n).map fun (i : Nat) => lo - (i : Int)
def rangeM3 (i j : Int) : Mm (List Int) := if -(2 ^ 62) ≤ i ∧ i < 2 ^ 62 ∧ -(2 ^ 62) ≤ j ∧ j < 2 ^ 62 then .ok (rangeDn i (i - j).toNat) else .bad
section
variable {β : Type} {r : β → Prop} {q : Er → Prop} {i j : Int} {f : List Int → Mm β}
theorem post_range3 (h : Post ((rangeM3 i j).bd f) r q) : RgC i j (-1) (i - j).toNat ∧ Post (f (rangeDn i (i - j).toNat)) r q := by
  unfold rangeM3 at h
  split at h
  · rename_i c
    exact ⟨RgC.neg c.1 c.2.1 c.2.2.1 c.2.2.2, ⟨h.h⟩⟩
  · exact h.h.elim
theorem rangeDn_at {lo : Int} {n i : Nat} {x : Int} (h : (rangeDn lo n)[i]? = some x) : x = lo - i := by
  unfold rangeDn at h
  rw [List.getElem?_map] at h
  cases e : (List.range n)[i]? with
  | none => rw [e] at h; cases h
  | some j =>
    rw [e] at h
    obtain ⟨h1, h2⟩ := List.getElem?_eq_some_iff.mp e
    rw [List.getElem_range] at h2
    subst h2
    exact (Option.some.inj h).symm
theorem wlk_rangeDn {M : List Addr} {F H : Hp} {lo : Int} {n : Nat} : Wlk M F H (Itc lo (-1) n) (rangeDn lo n) (fun _ v x => v = V.int x) := by
  refine ⟨_, _, _, walk_rangeC (lo := lo) (c := -1) (n := n), by simp [rangeDn], fun _ _ _ => trivial, fun i x v F' H' H'' g' hx y => ?_⟩
  obtain ⟨rfl, hv⟩ := y
  rw [rangeDn_at hx]
  have e2 : lo + (i : Int) * (-1) = lo - (i : Int) := by omega
  rw [← e2]
  exact ⟨F', Gm.refl g'.s, hv⟩
end
/-! ### comprehensions whose list may change -/
section
variable {K : PySem.W.Frag} {M : List Addr} {F H : Hp} {σ : L2.St} {g : TG} {tt : TT} {te : TE} {vs : List Nat} {α β γ S : Type} {l : List α} {f : S → α → Mm (Option γ × S)} {rest : List γ × S → Mm β} {ok : β → Prop} {ex : Er → Prop} {s0 : S} {J : It} {n : Nat} {G : Hp → Prop} {Y : Nat → Hp → V → Hp → Prop} {Q : VK}
theorem lc_mirO (w : Walk J n G Y) (en : γ → PyData) (I : S → Hp → Hp → Prop) (k : Post ((compM f s0 l).bd rest) ok ex) (e : Ex F H) (h0 : I s0 F H) (st : Stab I H) (hn : l.length = n) (hz : l.length ≤ 50000) (hG : ∀ F' H', Gm M F H F' H' → G H')
    (hM : ∀ D, H D = none → D ∉ M)
    (hb : ∀ i s x v F' H' H'', Gm M F H F' H' → I s F' H' → l[i]? = some x → Y i H' v H'' → ∀ Q : Option V → Hp → Prop,
      Post (f s x) (fun o => ∀ F2 H2 v, Gm M F' H' F2 H2 → I o.2 F2 H2 → (match o.1 with
        | some y => ∃ u, v = some u ∧ Dq K F2 u (en y)
        | none => v = none) → Q v H2) (fun _ => False) →
      g v (wipe σ vs) H'' fun σ2 H2 => wipe σ2 vs = wipe σ vs ∧ tt σ2 H2 fun b H3 => if b = true then te σ2 H3 fun y H4 => Q (some y) H4 else Q none H3)
    (hx : ∀ e, ¬ ex e)
    (kk : ∀ (r : List γ × S) D xs F' H', Gm M F H F' H' → I r.2 F' H' → H D = none → (H' D = some (.lst xs) ∧ F' D = none) → DqAll K F' xs (r.1.map en) → Post (rest r) ok ex → Q (.ref D) H') :
    ∀ D, H D = none → ∃ W : Nat → Nat → Hp → Prop, (∃ m, W 0 m (upd H D (.lst []))) ∧ ∀ i m H, W i m H →
      (J.stop i H ∧ Q (.ref D) H) ∨ (J.go i H ∧ ∃ Nx : Hp → Prop, (∀ H', Nx H' → ∃ m', m' < m ∧ W (i + 1) m' H') ∧ ∀ x H', J.yld i H x H' → g x (wipe σ vs) H' fun σ2 H2 => wipe σ2 vs = wipe σ vs ∧ tt σ2 H2 fun b H3 =>
        if b = true then te σ2 H3 fun y H4 => ∃ acc, H4 D = some (.lst acc) ∧ acc.length < sizeLine ∧ Nx (upd H4 D (.lst (acc ++ [y]))) else Nx H3) := by
  intro D hD
  have k0 : Post ((compM f s0 (l.drop 0)).bd fun r => rest ([] ++ r.1, r.2)) ok ex := by simpa using k
  refine lc_it w (fun i H' => ∃ (s : S) (acc : List γ) (xs : List V) (F' : Hp), Gm M F H F' H' ∧ I s F' H' ∧ H' D = some (.lst xs) ∧ F' D = none ∧ DqAll K F' xs (acc.map en) ∧ xs.length ≤ i ∧ Post ((compM f s (l.drop i)).bd fun r => rest (acc ++ r.1, r.2)) ok ex)
    ⟨s0, [], [], F, Gm.newM e hD, st.put s0 F H D _ h0 hD, upd_same, ?_, .nil, Nat.le_refl _, k0⟩ (fun i H' _ ⟨s, acc, xs, F', g', _⟩ => hG F' H' g') ?_ ?_
  · cases q : F D with
    | none => rfl
    | some u => rw [e D u q] at hD; cases hD
  · rintro i v H' H'' hi ⟨s, acc, xs, F', g', i', hL, fL, ha, hlen, k'⟩ y
    have hl : i < l.length := by omega
    have e1 : l.drop i = l[i] :: l.drop (i + 1) := List.drop_eq_getElem_cons hl
    rw [e1] at k'
    have k2 := comp_post k'
    have hDM : D ∉ M := hM D hD
    have z := hb i s l[i] v F' H' H'' g' i' (List.getElem?_eq_getElem hl) y (fun o H4 => match o with
      | some y => ∃ acc', H4 D = some (.lst acc') ∧ acc'.length < sizeLine ∧ ∃ (s : S) (acc : List γ) (xs : List V) (F' : Hp), Gm M F H F' (upd H4 D (.lst (acc' ++ [y]))) ∧ I s F' (upd H4 D (.lst (acc' ++ [y]))) ∧ (upd H4 D (.lst (acc' ++ [y]))) D = some (.lst xs) ∧ F' D = none ∧ DqAll K F' xs (acc.map en) ∧ xs.length ≤ i + 1 ∧ Post ((compM f s (l.drop (i + 1))).bd fun r => rest (acc ++ r.1, r.2)) ok ex
      | none => ∃ (s : S) (acc : List γ) (xs : List V) (F' : Hp), Gm M F H F' H4 ∧ I s F' H4 ∧ H4 D = some (.lst xs) ∧ F' D = none ∧ DqAll K F' xs (acc.map en) ∧ xs.length ≤ i + 1 ∧ Post ((compM f s (l.drop (i + 1))).bd fun r => rest (acc ++ r.1, r.2)) ok ex)
      (k2.mono (fun o q F2 H2 v2 g2 i2 hv => ?_) fun e z => (hx e z).elim)
    · exact z
    · obtain ⟨h2L, f2L⟩ := g2.own hDM hL fL
      obtain ⟨o1, o2⟩ := o
      cases o1 with
      | some y =>
        obtain ⟨u, rfl, hu⟩ := hv
        refine ⟨xs, h2L, sz_lt (by omega), o2, acc ++ [y], xs ++ [u], F2, ?_, st.put _ _ _ _ _ i2 hD, upd_same, f2L, ?_, ?_, ?_⟩
        · exact (g'.trans g2).putYoung h2L f2L hD
        · rw [List.map_append]; exact (ha.up g2.f).app (.cons hu .nil)
        · rw [List.length_append, List.length_singleton]; omega
        · simpa using q
      | none =>
        subst hv
        refine ⟨o2, acc, xs, F2, g'.trans g2, i2, h2L, f2L, ha.up g2.f, by omega, ?_⟩
        simpa using q
  · rintro H' ⟨s, acc, xs, F', g', i', hL, fL, ha, hlen, k'⟩
    rw [← hn, List.drop_length] at k'
    exact kk (acc, s) D xs F' H' g' i' hD ⟨hL, fL⟩ ha (by simpa [compM] using k')
end
section
variable {K : PySem.W.Frag} {M : List Addr} {F H : Hp} {σ : L2.St} {g : TG} {tt : TT} {te : TE} {vs : List Nat} {α β γ S : Type} {l : List α} {ok : β → Prop} {ex : Er → Prop} {s0 : S} {J : It} {R : Hp → V → α → Prop} {Q : VK}
theorem lc_mapO {f : α → Mm γ} {rest : List γ → Mm β} (w : Wlk M F H J l R) (en : γ → PyData) (k : Post ((mapMm f l).bd rest) ok ex) (e : Ex F H) (hz : l.length ≤ 50000) (hM : ∀ D, H D = none → D ∉ M)
    (hb : ∀ x v F1 H1 F2 H2, Gm M F H F1 H1 → Gm [] F1 H1 F2 H2 → R F2 v x → ∀ Q : VK, Post (f x) (fun y => Ret M F1 H1 (fun F3 _ u => Dq K F3 u (en y)) Q) (fun _ => False) →
      g v (wipe σ vs) H2 fun σ2 H3 => wipe σ2 vs = wipe σ vs ∧ te σ2 H3 Q)
    (hx : ∀ e, ¬ ex e) (kk : ∀ (r : List γ) D xs F' H', Gm M F H F' H' → H D = none → (H' D = some (.lst xs) ∧ F' D = none) → DqAll K F' xs (r.map en) → Post (rest r) ok ex → Q (.ref D) H') (mono : GMon g) :
    ∀ D, H D = none → ∃ W : Nat → Nat → Hp → Prop, (∃ m, W 0 m (upd H D (.lst []))) ∧ ∀ i m H, W i m H →
      (J.stop i H ∧ Q (.ref D) H) ∨ (J.go i H ∧ ∃ Nx : Hp → Prop, (∀ H', Nx H' → ∃ m', m' < m ∧ W (i + 1) m' H') ∧ ∀ x H', J.yld i H x H' → g x (wipe σ vs) H' fun σ2 H2 => wipe σ2 vs = wipe σ vs ∧ tYes σ2 H2 fun b H3 =>
        if b = true then te σ2 H3 fun y H4 => ∃ acc, H4 D = some (.lst acc) ∧ acc.length < sizeLine ∧ Nx (upd H4 D (.lst (acc ++ [y]))) else Nx H3) := by
  obtain ⟨n, G, Y, w, hn, hG, hY⟩ := w.ex
  rw [mapMm_comp, bd_assoc] at k
  refine lc_mirO w en (fun _ _ _ => True) k e trivial stab_t hn hz hG hM (fun i s x v F' H' H'' g' _ hx y Q' k' => ?_) hx (fun r D xs F' H' g' _ hD o d k' => kk r.1 D xs F' H' g' hD o d k')
  obtain ⟨F'', g2, r⟩ := hY i x v F' H' H'' g' hx y
  refine mono _ _ _ _ _ (fun σ2 H3 z => ⟨z.1, ?_⟩) (hb x v F' H' F'' H'' g' g2 r (fun u H4 => Q' (some u) H4) ((post_bd k').mono (fun y q u F3 H3 g3 d => q.h F3 H3 _ g3 trivial ⟨u, rfl, d⟩) fun _ z => z))
  exact tYes_of (iteT z.2)
theorem lc_stO {f : Rw → α → Mm (γ × Rw)} {s0 : Rw} {rest : List γ × Rw → Mm β} {sc ra : Addr} {scr : List Int} (w : Wlk [ra] F H J l R) (en : γ → PyData) (k : Post ((mapSt f s0 l).bd rest) ok ex) (e : Ex F H) (hz : l.length ≤ 50000) (h0 : RowAt K sc ra scr F H s0)
    (hb : ∀ s x v F1 H1 F2 H2, Gm [ra] F H F1 H1 → RowAt K sc ra scr F1 H1 s → Gm [] F1 H1 F2 H2 → R F2 v x → ∀ Q : VK, Post (f s x) (fun y => Ret [ra] F1 H1 (fun F3 H3 u => Dq K F3 u (en y.1) ∧ RowAt K sc ra scr F3 H3 y.2) Q) (fun _ => False) →
      g v (wipe σ vs) H2 fun σ2 H3 => wipe σ2 vs = wipe σ vs ∧ te σ2 H3 Q)
    (hx : ∀ e, ¬ ex e) (kk : ∀ (r : List γ × Rw) D xs F' H', Gm [ra] F H F' H' → H D = none → (H' D = some (.lst xs) ∧ F' D = none) → DqAll K F' xs (r.1.map en) → RowAt K sc ra scr F' H' r.2 → Post (rest r) ok ex → Q (.ref D) H') (mono : GMon g) :
    ∀ D, H D = none → ∃ W : Nat → Nat → Hp → Prop, (∃ m, W 0 m (upd H D (.lst []))) ∧ ∀ i m H, W i m H →
      (J.stop i H ∧ Q (.ref D) H) ∨ (J.go i H ∧ ∃ Nx : Hp → Prop, (∀ H', Nx H' → ∃ m', m' < m ∧ W (i + 1) m' H') ∧ ∀ x H', J.yld i H x H' → g x (wipe σ vs) H' fun σ2 H2 => wipe σ2 vs = wipe σ vs ∧ tYes σ2 H2 fun b H3 =>
        if b = true then te σ2 H3 fun y H4 => ∃ acc, H4 D = some (.lst acc) ∧ acc.length < sizeLine ∧ Nx (upd H4 D (.lst (acc ++ [y]))) else Nx H3) := by
  obtain ⟨n, G, Y, w, hn, hG, hY⟩ := w.ex
  rw [mapSt_comp] at k
  refine lc_mirO w en (fun s F H => RowAt K sc ra scr F H s) k e h0 (stab_row h0) hn hz hG (row_notM h0) (fun i s x v F' H' H'' g' i' hx y Q' k' => ?_) hx (fun r D xs F' H' g' i' hD o d k' => kk r D xs F' H' g' hD o d i' k')
  obtain ⟨F'', g2, r⟩ := hY i x v F' H' H'' g' hx y
  refine mono _ _ _ _ _ (fun σ2 H3 z => ⟨z.1, ?_⟩) (hb s x v F' H' F'' H'' g' i' g2 r (fun u H4 => Q' (some u) H4) ((post_bd k').mono (fun y q u F3 H3 g3 d => q.h F3 H3 _ g3 d.2 ⟨u, rfl, d.1⟩) fun _ z => z))
  exact tYes_of (iteT z.2)
end
end Wk

set_option Elab.async false
set_option linter.all false
set_option maxRecDepth 100000
set_option maxHeartbeats 4000000
namespace Wk
open PySem L2 Evl PySem.Spec PyProof.Rows
/-! ### zip of a tuple and a list -/
/-- the tuple at a and the list at b, side by side -/
def ItzM (K : PySem.W.Frag) (a b : Addr) : It :=
  ⟨fun n H => ∃ (us vs : List V) (u v : V), (SqT K H a us ∧ us[n]? = some u) ∧ SqL K H b vs ∧ vs[n]? = some v,
   fun n H r H' => ∃ c u v, r = .ref c ∧ H c = none ∧ H' = upd H c (.tup [u, v]) ∧ (∀ l, SqT K H a l → l[n]? = some u) ∧ ∀ l, SqL K H b l → l[n]? = some v,
   fun n H => ∃ us vs : List V, (SqT K H a us ∧ SqL K H b vs) ∧ (n ≤ us.length ∧ n ≤ vs.length) ∧ (n = us.length ∨ n = vs.length)⟩
/-- where such a zip stands -/
structure StM (z TI TO i1 i2 a b : Addr) (n : Nat) (h : Heap) : Prop where
  hz : IsZip h z TI TO .none
  hi : IsTupOf2 h TI (.ref i1) (.ref i2)
  ho : ∃ p q, IsTupOf2 h TO p q
  h1 : h.IsTupleIter i1 a n
  h2 : h.IsListIter i2 b n
theorem five {α : Type} {c z TI TO i1 i2 : α} (h : c ∈ [z, TI, TO, i1, i2]) : c = z ∨ c = TI ∨ c = TO ∨ c = i1 ∨ c = i2 := by simpa using h
theorem turn_zipM {P : Program} {w : World} {K : PySem.W.Frag} {es : List Expr} {kk : Nat} {tp : Pos} {a b z TI TO i1 i2 : Addr} (S : ZipSep2 z TI TO i1 i2 [i1, a] [i2, b]) (na : a ≠ i1) (nb : b ≠ i2) :
    Turn P w K (.Tuple es kk tp) (ItzM K a b) [z, TI, TO, i1, i2] z (StM z TI TO i1 i2 a b) where
  mem := by simp
  obj := fun n h st c hc => by
    obtain ⟨hz, hi, ⟨p, q, ho⟩, ⟨o1, e1, _, d1⟩, ⟨o2, e2, _, d2⟩⟩ := st
    rcases five hc with rfl | rfl | rfl | rfl | rfl
    · exact ⟨_, hz, fun _ k => nomatch k⟩
    · exact ⟨_, hi, fun _ k => nomatch k⟩
    · exact ⟨_, ho, fun _ k => nomatch k⟩
    · exact ⟨o1, e1, fun _ k => by rw [d1] at k; cases k⟩
    · exact ⟨o2, e2, fun _ k => by rw [d2] at k; cases k⟩
  keep := fun n h h' st k => by
    obtain ⟨hz, hi, ⟨p, q, ho⟩, h1, h2⟩ := st
    exact ⟨k z (by simp) _ hz, k TI (by simp) _ hi, ⟨p, q, k TO (by simp) _ ho⟩, h1.at fun o e => k i1 (by simp) o e, h2.at fun o e => k i2 (by simp) o e⟩
  item := by
    intro X hP hw hK hc n pins s σ H E I hf st hg
    subst hP hw hK
    obtain ⟨hz, hi, ⟨p0, q0, ho⟩, h1, h2⟩ := st
    obtain ⟨us, vs, u, v, ⟨qa, ga⟩, qb, gb⟩ := hg
    obtain ⟨A1, ra, pa, _⟩ := I.tuple qa
    obtain ⟨A2, rb, pb, _⟩ := I.list qb
    obtain ⟨x, hx, rx⟩ := ra.get ga
    obtain ⟨y, hy, ry⟩ := rb.get gb
    have lz : z < s.heap.objs.size := Heap.lt_size hz
    have pT : s.heap.IsTuple a A1.toArray := pa
    have pL : s.heap.IsList b A2.toArray := pb.isList
    have hand : X.A.in1.handled = none := I.ok.hd hc
    have D1 := Draws.tuple (prog := X.prog) (w := X.w) (A := X.A.in1) hand i1 a na A1.toArray
    have D2 := Draws.list (prog := X.prog) (w := X.w) (A := X.A.in1) hand i2 b nb A2.toArray
    have n1 : n < A1.toArray.size := by
      have := (List.getElem?_eq_some_iff.mp hx).1
      simpa using this
    have n2 : n < A2.toArray.size := by
      have := (List.getElem?_eq_some_iff.mp hy).1
      simpa using this
    refine wpAny_pyNext_zipD2_item S D1 D2 hz hi ho ⟨h1, pT⟩ ⟨h2, pL⟩ n1 n2 fun x' y' h' tk ex ey z' o' s1' s2' hT hsz hk => ?_
    have e1 : x = x' := by
      have k : A1.toArray[n]? = some x := by simpa using hx
      exact Option.some.inj (k.symm.trans ex)
    have e2 : y = y' := by
      have k : A2.toArray[n]? = some y := by simpa using hy
      exact Option.some.inj (k.symm.trans ey)
    subst e1 e2
    refine ⟨_, rfl, wpAny_letOwnedTupleGo_zip (s := { s with heap := h', toks := tk }) z' fun h'' z'' sb => ?_⟩
    have cell : h''.get? s.heap.objs.size = some { cls := .type "tuple", data := .seq #[x, y] } := (sb.2 _ (Nat.ne_of_gt lz)).trans hT
    have new : ObjOk X.prog X.w (upd H s.heap.objs.size (.tup [u, v])) h'' s.heap.objs.size (.tup [u, v]) := by
      refine ⟨?_, [x, y], .cons rx (.cons ry .nil), _, cell, rfl, _, rfl⟩
      show 2 ≤ sizeLine
      decide
    have same : ∀ c o, c ∉ [z, TI, TO, i1, i2] → s.heap.get? c = some o → h''.get? c = some o := fun c o hn e => by
      simp only [List.mem_cons, List.not_mem_nil, or_false, not_or] at hn
      exact (sb.2 c hn.1).trans (hk c o hn.1 hn.2.2.1 hn.2.2.2.1 hn.2.2.2.2 e)
    have J := I.turnedNew (t' := tk) (ch := [z, TI, TO, i1, i2]) same hf (Nat.le_refl _) new
    obtain ⟨it1, _⟩ := s1'
    obtain ⟨it2, _⟩ := s2'
    have dz : i1 ≠ z := fun e => S.zi1 e.symm
    have dz2 : i2 ≠ z := fun e => S.zi2 e.symm
    refine ⟨.ref s.heap.objs.size, _, J, rfl, ⟨_, u, v, rfl, I.hok.fresh (Nat.le_refl _), rfl, fun l hl => ?_, fun l hl => ?_⟩, ⟨z'', ?_, ⟨x, y, ?_⟩, it1.at fun o q => (sb.2 _ dz).trans q, it2.at fun o q => (sb.2 _ dz2).trans q⟩, fun c hc' => ?_⟩
    · rw [I.tuple_inj hl qa]
      exact ga
    · rw [I.list_inj hl qb]
      exact gb
    · exact (sb.2 _ S.TIz).trans (hk _ _ S.TIz S.TITO S.TIi1 S.TIi2 hi)
    · exact (sb.2 _ S.TOz).trans o'
    · have lt : c < s.heap.objs.size := by
        rcases five hc' with rfl | rfl | rfl | rfl | rfl
        · exact lz
        · exact Heap.lt_size hi
        · exact Heap.lt_size ho
        · obtain ⟨_, q, _⟩ := h1
          exact Heap.lt_size q
        · obtain ⟨_, q, _⟩ := h2
          exact Heap.lt_size q
      rw [upd_ne (Nat.ne_of_lt lt)]
      exact (hf c hc').1
  done := by
    intro X hP hw hK hc n pins s σ H E I hf st hg
    subst hP hw hK
    obtain ⟨hz, hi, ⟨p0, q0, ho⟩, h1, h2⟩ := st
    obtain ⟨us, vs, ⟨qa, qb⟩, ⟨l1, l2⟩, hend⟩ := hg
    obtain ⟨A1, ra, pa, _⟩ := I.tuple qa
    obtain ⟨A2, rb, pb, _⟩ := I.list qb
    have w1 := ra.length
    have w2 := rb.length
    have pT : s.heap.IsTuple a A1.toArray := pa
    have pL : s.heap.IsList b A2.toArray := pb.isList
    have hand : X.A.in1.handled = none := I.ok.hd hc
    have D1 := Draws.tuple (prog := X.prog) (w := X.w) (A := X.A.in1) hand i1 a na A1.toArray
    have D2 := Draws.list (prog := X.prog) (w := X.w) (A := X.A.in1) hand i2 b nb A2.toArray
    have m1 : A1.toArray.size = us.length := by simp only [List.size_toArray]; omega
    have m2 : A2.toArray.size = vs.length := by simp only [List.size_toArray]; omega
    refine wpAny_pyNext_zipD2_end S D1 D2 hz hi ho ⟨h1, pT⟩ ⟨h2, pL⟩ (by omega) (by omega) (by omega) fun h' tk hk => ⟨rfl, I.turnedL (t' := tk) (ch := [z, TI, TO, i1, i2]) (fun c o hn e => ?_) hf⟩
    simp only [List.mem_cons, List.not_mem_nil, or_false, not_or] at hn
    exact hk c o hn.1 hn.2.2.1 hn.2.2.2.1 hn.2.2.2.2 e
  self := fun A i s Q E st h => wpAny_pyIter_zip st.hz h
def iZipM (K : PySem.W.Frag) (ta : TA) : TI := fun σ H R => ta σ H fun rs H1 => ∃ a b us vs, rs = [.ref a, .ref b] ∧ (SqT K H1 a us ∧ SqL K H1 b vs) ∧ R (ItzM K a b) H1
theorem pi_zipM {X : Cx} {e e2 : Expr} {ta : TA} {p pos tp : Pos} {es : List Expr} {kk : Nat} (hg : Gl X "zip") (hm : X.mg "zip" = none) (ha : PA X [e, e2] ta)
    (hs : starEach [e, e2] X.env = (false, eval e X.env) :: starEach [e2] X.env := by rfl) (hp : (backTo pos (starEach [e2] X.env)).any (·.1) = false := by rfl) :
    PI X (.Tuple es kk tp) (.Call (.Name "zip" p) [e, e2] [] pos) (iZipM X.K ta) := by
  refine ⟨fun pins s σ H R I h => Call_ (ld_blt I hg hm PyProof.Rows.boot_zip (PyProof.Rows.callWith_type1 (thn (ha.run pos pins s σ H _ I h) fun rs s1 got => ?_) hs hp))⟩
  obtain ⟨vs', H1, I1, rel, a, b, us, vs, rfl, ⟨qa, qb⟩, q⟩ := got
  cases rel with
  | cons r1 rel =>
    cases rel with
    | cons r2 rel =>
      cases rel
      cases r1
      cases r2
      obtain ⟨A1, ra, pa, _⟩ := I1.tuple qa
      obtain ⟨A2, rb, pb, _⟩ := I1.list qb
      have pT : s1.heap.IsTuple a A1.toArray := pa
      have pL : s1.heap.IsList b A2.toArray := pb.isList
      have la : a < s1.heap.objs.size := by
        obtain ⟨o, g, _⟩ := pT
        exact Heap.lt_size g
      have lb : b < s1.heap.objs.size := by
        obtain ⟨o, g, _⟩ := pL
        exact Heap.lt_size g
      refine zip_begins2 (begins_tuple a A1.toArray) (begins_list b A2.toArray) pT pL fun h' hz hi ho g1 g2 hsz hk => wpAny_pyIter_zip hz ?_
      have I2 : Inv X pins σ H1 { s1 with heap := h' } := I1.kept (t' := s1.toks) hk
      have S := zip_sep2 (N := s1.heap.objs.size) (fp1 := [a]) (fp2 := [b]) (fun c hc => by rw [List.mem_singleton.mp hc]; exact la) (fun c hc => by rw [List.mem_singleton.mp hc]; exact lb)
      refine ⟨_, _, _, _, H1, rfl, I2, turn_zipM (a := a) (b := b) S (Nat.ne_of_lt la) (Nat.ne_of_lt (Nat.lt_succ_of_lt lb)), ⟨hz, hi, ⟨_, _, ho⟩, ⟨_, g1, rfl, rfl⟩, ⟨_, g2, rfl, rfl⟩⟩, fun c hc => ?_, q⟩
      have le : s1.heap.objs.size ≤ c := by
        rcases five hc with rfl | rfl | rfl | rfl | rfl
        · exact Nat.le_add_right _ _
        · exact Nat.le_add_right _ _
        · exact Nat.le_add_right _ _
        · exact Nat.le_refl _
        · exact Nat.le_add_right _ _
      exact I1.fpOk le (I1.hok.fresh le)
section
variable {K : PySem.W.Frag} {M : List Addr} {F H : Hp} {α α' : Type} {us vs : List V} {l : List α} {l' : List α'} {en : α → PyData} {en' : α' → PyData} {a b : Addr}
theorem wlk_zipM (e : Ex F H) (h : SqT K F a us) (da : DqAll K F us (l.map en)) (h' : F b = some (.lst vs)) (da' : DqAll K F vs (l'.map en')) : Wlk M F H (ItzM K a b) (l.zip l') (fun F v x => Dq K F v (e2 en en' x)) := by
  have hl : us.length = l.length := by rw [da.len, List.length_map]
  have hl' : vs.length = l'.length := by rw [da'.len, List.length_map]
  refine ⟨min us.length vs.length, fun H => SqT K H a us ∧ SqL K H b vs, YPair (fun i => us[i]?) (fun i => vs[i]?), ⟨fun i _ hi q => ⟨us, vs, us[i], vs[i], ⟨q.1, by simp⟩, q.2, by simp⟩, fun _ q => ⟨us, vs, q, by omega, by omega⟩, fun i H v H' _ q y => ?_⟩, by rw [List.length_zip, hl, hl'], fun F' H' g' => ⟨ex_t g'.s (ex_t g'.f h), sq_of (g'.s _ _ (g'.f _ _ h'))⟩, fun i x v F' H' H'' g' hx y => ?_⟩
  · obtain ⟨T, x, y, h1, h2, h3, h4, h5⟩ := y
    exact ⟨T, x, y, h1, h2, h3, h4 us q.1, h5 vs q.2⟩
  · obtain ⟨c, u, w, rfl, hc, rfl, h1, h2⟩ := y
    obtain ⟨d1, k1, q1⟩ := (da.up g'.f).getV h1
    obtain ⟨d2, k2, q2⟩ := (da'.up g'.f).getV h2
    obtain ⟨x1, x2⟩ := x
    obtain ⟨hx1, hx2⟩ := List.getElem?_zip_eq_some.mp hx
    have f1 : l[i]? = some x1 := hx1
    have f2 : l'[i]? = some x2 := hx2
    rw [List.getElem?_map, f1] at k1
    rw [List.getElem?_map, f2] at k2
    cases k1
    cases k2
    have g2 : Gm [] F' H' (upd F' c (.tup [u, w])) (upd H' c (.tup [u, w])) := Gm.new g'.s hc
    refine ⟨_, g2, .tup (st_of upd_same) (.cons (q1.up g2.f) (.cons (q2.up g2.f) .nil))⟩
end
end Wk

set_option Elab.async false
set_option linter.all false
set_option maxRecDepth 100000
set_option maxHeartbeats 2000000
namespace Wk
open PySem L2 Evl
section
variable {K : PySem.W.Frag} {M : List Addr} {F H : Hp} {Q : VK} {j : Int}
/-- list(range(j)) -/
theorem lst_rg (e : Ex F H) (h : 0 ≤ j ∧ j ≤ 100000) (k : Ret M F H (fun F' _ v => Dq K F' v (eL PyData.int (rangeL 0 j.toNat))) Q) : RgOk 0 j ∧ ∀ q, H q = none → Q (.ref q) (upd H q (.lst (rgV 0 j))) :=
  ⟨RgOk.of_le (by omega) (by omega) (by omega) (by omega), fun p hp => by
    have g : Gm M F H (upd F p (.lst (rgV 0 j))) (upd H p (.lst (rgV 0 j))) := Gm.new e hp
    have e1 : rgV 0 j = (rangeL 0 j.toNat).map V.int := by
      unfold rgV rangeL
      rw [List.map_map, Int.sub_zero]
      rfl
    refine k _ _ _ g (.lst upd_same ?_)
    rw [e1]
    exact ints_all _⟩
end
/-! ### an int in a tuple of ints -/
section
variable {X : Cx}
def rInV (K : PySem.W.Frag) : R2 := fun x y H Q => ∃ (a : Int) (l : List Int), Dp K H x (.int a) ∧ Dp K H y (eV PyData.int l) ∧ Q (.bl (hasM l a)) H
def rNotInV (K : PySem.W.Frag) : R2 := fun x y H Q => ∃ (a : Int) (l : List Int), Dp K H x (.int a) ∧ Dp K H y (eV PyData.int l) ∧ Q (.bl (!hasM l a)) H
theorem dpAll_ints {K : PySem.W.Frag} {H : Hp} : ∀ {l : List Int} {xs : List V}, DpAll K H xs (l.map PyData.int) → xs = l.map V.int
  | [], _, h => by cases h; rfl
  | i :: l, _, h => by
    cases h with
    | cons h hr =>
      cases h
      rw [dpAll_ints hr]
      rfl
theorem flat_ints : ∀ l : List Int, (l.map V.int).all flatV = true
  | [] => rfl
  | i :: l => by rw [List.map_cons, List.all_cons, flat_ints l]; rfl
theorem inV_ints (a : Int) : ∀ l : List Int, inV (V.int a) (l.map V.int) = hasM l a
  | [] => rfl
  | i :: l => by
    have e := inV_ints a l
    unfold inV hasM at e ⊢
    rw [List.map_cons, List.any_cons, e, List.contains_cons]
    congr 1
    show decide (i = a) = decide (a = i)
    exact decide_eq_decide.mpr ⟨Eq.symm, Eq.symm⟩
theorem op_inV : OpR X (compareOp .In) (rInV X.K) := by
  intro pins s σ H x y v u Q I rx ry h
  obtain ⟨a, l, hx, hy, q⟩ := h
  cases hx
  cases hy with
  | tup st da =>
    obtain rfl := dpAll_ints da
    refine op_in_seq pins s σ H _ _ v u Q I rx ry ⟨_, _, rfl, .inr st, rfl, flat_ints l, ?_⟩
    rw [if_neg Bool.false_ne_true, inV_ints]
    exact q
theorem op_notInV : OpR X (compareOp .NotIn) (rNotInV X.K) := by
  intro pins s σ H x y v u Q I rx ry h
  obtain ⟨a, l, hx, hy, q⟩ := h
  cases hx
  cases hy with
  | tup st da =>
    obtain rfl := dpAll_ints da
    refine op_notIn_seq pins s σ H _ _ v u Q I rx ry ⟨_, _, rfl, .inr st, rfl, flat_ints l, ?_⟩
    rw [if_pos rfl, inV_ints]
    exact q
end
/-! ### the run's equation, part by part -/
section
open PySem.W PySem.Calls PyProof.Rows HandSHeadRun
theorem runI_of3 {r : OpenRow} {q : Program} {H : Hook} {ob : SharedT → H.α} {M : Nat} {loose : List PySem.Str} {w : World}
    (h1 : (wholeF (fun p => stepQ (denQ tabQ) p w) fenceQ M r.prog).map (fun x => looksF r.prog x.1.heap x.2.abs) = some true)
    (h2 : (wholeF (fun p => stepQ (denQ tabQ) p w) fenceQ M r.prog).map (fun x => seenQ q loose (importedModules r.prog.main.body) (fun s => xlAt q [] s && recOk r.toRowW.records s) x.2.abs) = some (openGood q loose))
    (h3 : (wholeF (fun p => stepQ (denQ tabQ) p w) fenceQ M r.prog).map (fun x => ob x.2) = some (H.val w)) : RunEqI r q H ob M loose w := by
  unfold RunEqI
  generalize wholeF (fun p => stepQ (denQ tabQ) p w) fenceQ M r.prog = o at h1 h2 h3 ⊢
  cases o with
  | none => cases h1
  | some x =>
    have e1 := Option.some.inj h1
    have e2 := Option.some.inj h2
    have e3 := Option.some.inj h3
    exact congrArg some (Prod.ext e1 (Prod.ext e2 e3))
end
end Wk

set_option Elab.async false
set_option linter.all false
set_option maxRecDepth 100000
set_option maxHeartbeats 4000000
namespace Wk
open PySem L2 Evl PySem.Spec PyProof.Rows
theorem tuple_mulW1 (l : Addr) (items : Array Value) (n : Nat) (dd : Option Addr) (sl : Array (Option Value)) (u : Tok) :
    Meets (Builtin.«tuple.__mul__» ⟨[.ref l, .int 1 u], []⟩) (fun _ R s => s.heap.get? l = some { cls := .type "tuple", dict := dd, data := .seq items n, slots := sl } ∧ R (.ok (.ret (Value.ref l))) s) :=
  .of_wp fun prog w A R s h => by
    obtain ⟨hp, g, d, tk, os⟩ := s
    obtain ⟨hl, h⟩ := h
    have f1 := AutoSeq1.idx_int
    have c0 : (decide ((1 : Int) < -(2 ^ 63)) || decide ((1 : Int) ≥ 2 ^ 63)) = false := by decide
    have c1 : (items.isEmpty || (1 : Int) == 1) = true := by simp
    wp_walk using wpAny_loadPart' hl
    repeat (first
      | (refine wpAny_ite_false (decide_eq_false (by rw [c0]; exact Bool.false_ne_true)) ?_; wp_walk using wpAny_loadPart' hl)
      | (refine wpAny_ite_true (decide_eq_true (by rw [c1])) ?_; wp_walk using wpAny_loadPart' hl))
    exact ⟨_, rfl, h⟩
def rRepTM (K : PySem.W.Frag) : R2 := fun x y H Q => ∃ l k xs, x = .ref l ∧ y = .int k ∧ SqT K H l xs ∧ xs ≠ [] ∧ 1 ≤ k ∧ k ≤ 1000 ∧ xs.length ≤ 1000 ∧ (k = 1 → Q (.ref l) H) ∧ (2 ≤ k → ∀ p, H p = none → Q (.ref p) (upd H p (.tup (List.replicate k.toNat xs).flatten)))
theorem op_repTM {X : Cx} : OpR X (binaryOp .Mult) (rRepTM X.K) := by
  intro pins s σ H x y v u Q I rx ry h
  obtain ⟨l, k, xs, rfl, rfl, hT, hne, h1, h2, hz, q1, q2⟩ := h
  by_cases e : k = 1
  · subst e
    cases rx
    obtain ⟨t, rfl⟩ := ry
    obtain ⟨its, r, ⟨⟨cls, dd, data, sl⟩, ho, hc, n, hd⟩, hs⟩ := I.tuple hT
    simp only at hc hd
    subst hc hd
    refine wpAny_binaryOp_repeat_ref (T := "tuple") (U := "int") (by decide) ⟨_, ho, rfl⟩ (fun s' => typeIs_int s' 1 t) noFill_tuple_mul F.fills_int_mul F.slot_int_rmul repeat_tuple F.slot_int_index.lookup
      (call_meets F.slot_int_rmul (typeIs_int s 1 t) F.entry_int_rmul (F.args_int_rmul_2 _ _) (int_rmul_tuple 1 t l its.toArray n dd sl)
        ⟨ho, rfl, ⟨_, ho, rfl⟩, call_meets F.slot_tuple_mul ⟨_, ho, rfl⟩ F.entry_tuple_mul (F.args_tuple_mul_2 _ _) (tuple_mulW1 l its.toArray n dd sl t) ⟨ho, ?_⟩⟩)
    exact ⟨.ref l, H, I, rfl, q1 rfl⟩
  · exact op_repT pins s σ H _ _ v u Q I rx ry ⟨l, k, xs, rfl, rfl, hT, hne, by omega, h2, hz, q2 (by omega)⟩
section
variable {K : PySem.W.Frag} {M : List Addr} {F H : Hp} {Q : VK} {α : Type} {en : α → PyData} {l : List α} {xs : List V} {a : Addr} {j : Int}
/-- a tuple, repeated -/
theorem rep_tup (e : Ex F H) (s : SqT K F a xs) (d : DqAll K F xs (l.map en)) (h : 1 ≤ l.length ∧ l.length ≤ 1000 ∧ 1 ≤ j ∧ j ≤ 1000) (k : Ret M F H (fun F' _ v => Dq K F' v (eV en (List.replicate j.toNat l).flatten)) Q) : rRepTM K (.ref a) (.int j) H Q := by
  have hl : xs.length = l.length := by rw [d.len, List.length_map]
  refine ⟨a, j, xs, rfl, rfl, ex_t e s, fun z => ?_, h.2.2.1, h.2.2.2, by omega, fun z => ?_, fun _ p hp => ?_⟩
  · rw [z] at hl
    simp only [List.length_nil] at hl
    omega
  · have e1 : (List.replicate j.toNat l).flatten = l := by
      rw [z]
      simp
    rw [e1] at k
    exact k _ _ _ (Gm.refl e) (.tup s d)
  · have g : Gm M F H (upd F p (.tup (List.replicate j.toNat xs).flatten)) (upd H p (.tup (List.replicate j.toNat xs).flatten)) := Gm.new e hp
    exact k _ _ _ g (.tup (st_of upd_same) ((all_rep d _).up g.f))
end
end Wk

set_option Elab.async false
set_option linter.all false
set_option maxRecDepth 100000
set_option maxHeartbeats 2000000
namespace Wk
open PySem PySem.W L2 He
/-! ### the Hook over a written list of addresses -/
def obsXL (as : List Addr) (fa : List Fa) (fn : List He5.DefA) (ex : Frag → Bool) (g : Addr → Option Obj) : He.AlD := obsX fa fn ex (frG g as)
def hookXL (as : List Addr) (fa : List Fa) (fn : List He5.DefA) (ex : Frag → Bool) : PySem.W.Hook where
  α := He.AlD
  obs := fun s => obsXL as fa fn ex s.heap.get?
  val := fun _ => valX fn
  says := fun _ h => ∃ K : Frag, K.In h ∧ SaysX fa fn ex K
  of := fun _ _ e => ⟨_, frG_in, e⟩
  keeps := fun _ _ _ ⟨K, hK, c⟩ k => ⟨K, Frag.In.keeps hK k, c⟩
theorem obsXL_eq {as : List Addr} {fa : List Fa} {fn : List He5.DefA} {ex : Frag → Bool} {g : Addr → Option Obj} {s : Shared} (h : ∀ a, g a = s.heap.get? a) : obsXL as fa fn ex g = (hookXL as fa fn ex).obs s := by
  have e : g = s.heap.get? := funext h
  rw [e] <;> rfl
end Wk

set_option Elab.async false
set_option linter.all false
set_option maxRecDepth 100000
set_option maxHeartbeats 4000000
namespace WNe
open PySem PySem.Spec PyProof.Rows
section
variable {M : Model} {prog : Program} {w : World} {A : Around} {E : Value → Shared → Prop} {s : Shared} {K : PySem.W.Frag} {x y C D f : Addr} {ox : Obj} {od : Option Obj}
theorem ifBound_objNe {args : List Value} {Q : Option Value → Shared → Prop} (X : K.In s.heap) (I : PySem.W.InstAt s.heap x ox C od) (hs : PySem.W.findIn K (.ref C) "__ne__" = some (some (.builtin "object.__ne__")))
    (h : wpAny M A (call (.builtin "object.__ne__") (.ref x :: args)) (fun v => Q (some v)) E s) : wpAny M A (callSpecialIfBound? (.ref x) "__ne__" args) Q E s := by
  simp only [callSpecialIfBound?, bindSpecialIfBound?]
  refine wpAny_holding (wpAny_bind (wpAny_bind (wpAny_bind (I.type.here ((PySem.W.looks_findIn X hs).here ?_)))))
  refine wpAny_bind (wpAny_askSetting (wpAny_ite ?_))
  have fin : wpAny M A (call (.builtin "object.__ne__") ([.ref x] ++ args) >>= fun v => pure (some v)) Q E s := wpAny_bind (wpAny_mono h (fun v s' h' => wpAny_pure h') fun _ _ h' => h')
  split
  · exact wpAny_bind (wpAny_of_eq (F.cmp_object.ne.bind _) (wpAny_pure (by exact fin)))
  · exact wpAny_tryCatch (wpAny_bind (wpAny_of_eq (F.cmp_object.ne.bind _) (wpAny_pure (by exact fin))))
theorem entry_ne (X : K.In s.heap) (I : PySem.W.InstAt s.heap x ox C od) (hs : PySem.W.findIn K (.ref C) "__eq__" = some (some (.ref f))) (hf : PySem.W.isFn K (.ref f) = true) (hu : A.units < cLine) {Q : Fin → Shared → Prop}
    (hcall : wpAny (model prog w) A (call (.ref f) [.ref x, .ref y]) (fun v s' => ∃ b, v = .bool b ∧ Q (.done (.ret (.bool (!b)))) s') E s) :
    wpAny (model prog w) A (Builtin.«object.__ne__» ⟨[.ref x, .ref y], []⟩) Q E s := by
  unfold Builtin.«object.__ne__»
  repeat (first
    | with_reducible refine wpAny_cRoomFor hu ?_
    | (refine wpAny_bind (m := callSpecialIfBound? (.ref x) (Str.ofString "__eq__") [.ref y])
        (PySem.W.ifBound_K X I hs hf (wpAny_mono hcall (fun r s' hr => by
          obtain ⟨b, rfl, hq⟩ := hr
          repeat (first | exact hq | exact wpAny_pure hq | exact wpAny_truthy_bool hq | (refine wpAny_bind (m := truthy (.bool _)) (wpAny_truthy_bool ?_)) | wp_step)) fun _ _ e => e)))
    | wp_step)
theorem ne_K {Q : Value → Shared → Prop} (hu : A.units + 1 < cLine) (X : K.In s.heap) (I : PySem.W.InstAt s.heap x ox C od) (hb : PySem.W.Looks (model prog w) s.heap (typeOf (.ref y)) (.ref C))
    (hm : PySem.W.mroIn K C (.type "object") = some true) (hn : PySem.W.findIn K (.ref C) "__ne__" = some (some (.builtin "object.__ne__")))
    (hs : PySem.W.findIn K (.ref C) "__eq__" = some (some (.ref f))) (hf : PySem.W.isFn K (.ref f) = true)
    (hcall : wpAny (model prog w) A.in1 (call (.ref f) [.ref x, .ref y]) (fun v s' => ∃ b, v = .bool b ∧ Q (.bool (!b)) s') E s) : wpAny (model prog w) A (richCompare .NotEq (.ref x) (.ref y)) Q E s := by
  have one : wpAny (model prog w) A (tryCompare (.ref x) "__ne__" (.ref y)) (fun r s' => ∃ v, r = some v ∧ Q v s') E s := by
    unfold tryCompare
    refine wpAny_bind (ifBound_objNe X I hn (wpAny_call (codeAny_call_builtin F.cmp_object.ne.plain F.cmpEntry_ne (PySem.W.check_slot F.cmpKind_ne F.cmpSplit_ne (I.type.andThen (PySem.W.looks_mroIn X hm)) (F.cmpArgs_ne _ _)
      (entry_ne X I hs hf (by exact hu) (wpAny_mono hcall (fun v s' hv => ?_) fun _ _ e => e))))))
    obtain ⟨b, rfl, hq⟩ := hv
    exact ⟨b, rfl, wpAny_pure ⟨_, rfl, hq⟩⟩
  unfold richCompare
  simp only [oneThing_ref]
  refine wpAny_holding (wpAny_bind (wpAny_cRoomFor (by omega) ?_))
  rw [cmpInfo_NotEq]
  dsimp only
  refine wpAny_bind (I.type.here (wpAny_bind (hb.here ?_)))
  rw [show (Value.ref C != Value.ref C) = false from by simp]
  simp only [Bool.false_eq_true, if_false]
  refine wpAny_bind (wpAny_pure ?_)
  simp only [Bool.false_eq_true, if_false]
  refine wpAny_bind (wpAny_mono one (fun r s' z => ?_) fun _ _ e => e)
  obtain ⟨v, rfl, hq⟩ := z
  exact wpAny_pure hq
end

end WNe
namespace Wk
open PySem L2 Evl PySem.Spec PyProof.Rows
/-- two instances of C compared by C's own ==, which promises sp -/
def rOwnE (C : Addr) (sp : Sp) : R2 := fun x y H Q => ∃ a b dx dy fs gs, x = .ref a ∧ y = .ref b ∧ H a = some (.ins C dx fs) ∧ H b = some (.ins C dy gs) ∧ sp [.ref a, .ref b] H (fun v H' => ∃ r, v = .bl r ∧ Q (.bl r) H') E0
def rOwnN (C : Addr) (sp : Sp) : R2 := fun x y H Q => ∃ a b dx dy fs gs, x = .ref a ∧ y = .ref b ∧ H a = some (.ins C dx fs) ∧ H b = some (.ins C dy gs) ∧ sp [.ref a, .ref b] H (fun v H' => ∃ r, v = .bl r ∧ Q (.bl (!r)) H') E0
/-- the class's own == with its promise, and no != of its own -/
structure KnE (P : Program) (w : World) (K : PySem.W.Frag) (mg : Str → Option Value) (base : Heap) (C : Addr) (k : Nat) (ps : List Str) (sp : Sp) : Prop where
  ex : ∃ f fd, FnOk P w K mg base CX0 k f fd ps sp ∧ PySem.W.findIn K (.ref C) "__eq__" = some (some (.ref f)) ∧ PySem.W.isFn K (.ref f) = true ∧ Binds K fd ps []
  ne : PySem.W.findIn K (.ref C) "__ne__" = some (some (.builtin "object.__ne__"))
  ob : PySem.W.mroIn K C (.type "object") = some true
section
variable {X : Cx} {C : Addr} {n : Nat} {ps : List Str} {sp : Sp}
theorem own_call {f : Addr} {fd : FuncData} (F : FnOk X.prog X.w X.K X.mg X.base CX0 n f fd ps sp) (hb : Binds X.K fd ps []) {A : Around} (sb : Sub X n A) {pins : List (Addr × Obj)} {s : Shared} {σ : L2.St} {H : Hp} {a b : Addr} {Q : VK} (I : Inv X pins σ H s)
    (hsp : sp [.ref a, .ref b] H Q E0) : wpAny (model X.prog X.w) A (call (.ref f) [.ref a, .ref b]) (fun v s' => ∃ z H', Inv X pins σ H' s' ∧ RelV z v ∧ Q z H') X.xe s := by
  have e0 : Env0 X.prog X.w X.K X.mg X.base A X.stack s H := by
    have e := I.env0
    exact ⟨by rw [sb.fr]; exact e.frames, e.mod, e.bs, e.bsz, e.funs, e.frf, e.hok, e.bare⟩
  have hl := F.len _ _ _ _ hsp
  have r2 : Vals [V.ref a, V.ref b] [Value.ref a, Value.ref b] := .cons rfl (.cons rfl .nil)
  refine wpAny_call (codeAny_mono (F.run A X.stack s H ⟨[.ref a, .ref b], []⟩ [.ref a, .ref b] [.ref a, .ref b] _ E0 sb.room e0 (by
    have := hb s [.ref a, .ref b] I.kIn (by simpa using hl)
    simpa using this) r2 hsp) fun r s' hq => ?_)
  cases r with
  | error e => exact pass0 pins σ H s e s' I hq
  | ok fl =>
    cases fl with
    | ret w =>
      obtain ⟨z, H', I', rz, ez⟩ := I.after hq
      exact ⟨z, H', I', rz, ez⟩
    | next => exact False.elim hq
    | brk => exact False.elim hq
    | cont => exact False.elim hq
theorem op_neOwn (G : KnE X.prog X.w X.K X.mg X.base C n ps sp) (hr : Room (n + 1) X.A) : OpR X (compareOp .NotEq) (rOwnN C sp) := by
  intro pins s σ H x y v u Q I rx ry h
  obtain ⟨f, fd, F, hs, hf, hb⟩ := G.ex
  obtain ⟨a, b, dx, dy, fs, gs, rfl, rfl, ha, hb', hsp⟩ := h
  cases rx
  cases ry
  obtain ⟨mA, J, _⟩ := ins_get I.hok ha
  obtain ⟨mB, J', _⟩ := ins_get I.hok hb'
  obtain ⟨od, J, _⟩ := J.look
  obtain ⟨od', J', _⟩ := J'.look
  have un := hr.un
  refine WNe.ne_K (by omega) I.kIn J J'.type G.ob G.ne hs hf (wpAny_mono (own_call F hb (A := X.A.in1) ⟨hr.in1, rfl⟩ I hsp) (fun v s' q => ?_) fun _ _ e => e)
  obtain ⟨z, H', I', rz, r, rfl, q⟩ := q
  cases rz
  exact ⟨r, rfl, .bl (!r), H', I', rfl, q⟩
theorem op_eqOwn (G : KnE X.prog X.w X.K X.mg X.base C n ps sp) (hr : Room (n + 1) X.A) : OpR X (compareOp .Eq) (rOwnE C sp) := by
  intro pins s σ H x y v u Q I rx ry h
  obtain ⟨f, fd, F, hs, hf, hb⟩ := G.ex
  obtain ⟨a, b, dx, dy, fs, gs, rfl, rfl, ha, hb', hsp⟩ := h
  cases rx
  cases ry
  obtain ⟨mA, J, _⟩ := ins_get I.hok ha
  obtain ⟨mB, J', _⟩ := ins_get I.hok hb'
  obtain ⟨od, J, _⟩ := J.look
  obtain ⟨od', J', _⟩ := J'.look
  have un := hr.un
  obtain ⟨m, hF⟩ := I.fr
  refine PySem.W.cmp_K (op := .Eq) (tb := .ref C) (by omega) hF I.ok.mod.kin J J'.type (by simp [PySem.W.notFirst]) hs hf (wpAny_mono (own_call F hb (A := X.A) ⟨hr.mono (by omega), rfl⟩ I hsp) (fun v s' q => ?_) fun _ _ e => e)
  obtain ⟨z, H', I', rz, r, rfl, q⟩ := q
  cases rz
  exact ⟨.bl r, H', I', rfl, q⟩
end
end Wk

set_option Elab.async false
set_option linter.all false
set_option maxRecDepth 100000
set_option maxHeartbeats 2000000
namespace Wk
open PySem L2 Evl
/-- a list that a call reads, and nothing of it stays -/
theorem Gm.lend {F H F' H' : Hp} {p : Addr} {o : HO} (e : Ex F H) (g : Gm [] (upd F p o) H F' H') : Gm [] F H F H' :=
  ⟨Ex.refl _, fun a u ha => g.h a u (by simp) (e a u ha), g.h, fun _ _ _ hn => hn, g.m⟩
theorem ex_fix {F H : Hp} {p : Addr} {o : HO} (e : Ex F H) (h : H p = some o) : Ex (upd F p o) H := fun a u ha => by
  by_cases q : a = p
  · subst q
    rw [upd_same] at ha
    cases ha
    exact h
  · rw [upd_ne q] at ha
    exact e a u ha
/-! ### what an own == asks of the class, as the head tells it -/
section
open PySem.W He
variable {K : Frag}
def insB (x : Str) (K : Frag) : Bool := eqO (findIn K (.ref (ga K x)) "__class__") (some (some (.builtin "object.__class__"))) && (eqO (specialIn K (.builtin "object.__class__") "__get__") (some (some (.builtin "getset_descriptor.__get__"))) &&
  (decide (takesIn K (.builtin "object.__class__") = some true) && (decide (mroIn K (ga K x) (.type "object") = some true) && decide (kitOne K (.ref (ga K x)) (.ref (ga K x)) = some true))))
theorem insB_ok {x : Str} (cl : Cls K (ga K x)) (h : insB x K = true) : C8.InsC K (ga K x) := by
  obtain ⟨h1, h⟩ := ba h
  obtain ⟨h2, h⟩ := ba h
  obtain ⟨h3, h⟩ := ba h
  obtain ⟨h4, h5⟩ := ba h
  exact ⟨cl, eqO_ok h1, eqO_ok h2, of_decide_eq_true h3, of_decide_eq_true h4, of_decide_eq_true h5⟩
def neB (x : Str) (K : Frag) : Bool := eqO (findIn K (.ref (ga K x)) "__ne__") (some (some (.builtin "object.__ne__"))) && decide (mroIn K (ga K x) (.type "object") = some true)
theorem knE_of {P : Program} {w : World} {mg : Str → Option Value} {base : Heap} {x : Str} {fd : FuncData} {k : Nat} {ps : List Str} {sp : Sp} (M : Meth K (ga K x) "__eq__" (ma K (ga K x) "__eq__")) (h : neB x K = true)
    (F : FnOk P w K mg base CX0 k (ma K (ga K x) "__eq__") fd ps sp) (hb : Binds K fd ps []) : KnE P w K mg base (ga K x) k ps sp := by
  obtain ⟨h1, h2⟩ := ba h
  exact ⟨⟨_, fd, F, M.1, M.2, hb⟩, eqO_ok h1, of_decide_eq_true h2⟩
end
end Wk

set_option Elab.async false
set_option linter.all false
set_option maxRecDepth 100000
set_option maxHeartbeats 1000000
set_option exponentiation.threshold 100
namespace Wk
open PySem L2
theorem bdo {α β : Type} {a : α} {f : α → Mm β} : (Mm.ok a).bd f = f a := rfl
theorem cF {α : Type} {c : Bool} {x y : α} (h : c = false) : cond c x y = y := by subst h; rfl
theorem cT {α : Type} {c : Bool} {x y : α} (h : c = true) : cond c x y = x := by subst h; rfl
theorem guard_ok {c : Prop} [Decidable c] (h : c) : guardM c = .ok () := if_pos h
theorem intc_ne {n : Int} (h : n ≠ 0) : ((n : Int) : Rat) ≠ 0 := fun z => h (Rat.intCast_inj.mp (show ((n : Int) : Rat) = ((0 : Int) : Rat) from z))
theorem fr_zero : fr 0 = (0, 1) := by decide
theorem fr_one : fr 1 = (1, 1) := by decide
theorem fr_of_int (n : Int) : fr ((n : Int) : Rat) = (n, 1) := by
  unfold fr
  rw [Rat.num_intCast, Rat.den_intCast]
  rfl
theorem sq_int {n : Int} {a : Nat} (h : n.natAbs < 2 ^ a) (h0 : 0 < a) : Sq a ((n : Int) : Rat) := by
  unfold Sq
  rw [Rat.num_intCast, Rat.den_intCast]
  exact ⟨h, Nat.one_lt_two_pow (by omega)⟩
theorem zero_sq : Sq 1 0 := by unfold Sq; decide
theorem one_sq : Sq 1 1 := by unfold Sq; decide
theorem zero_sqn {a : Nat} (h : 0 < a) : Sq a 0 := zero_sq.up h
/-- a fraction by any terms -/
theorem fr_flip (a b : Int) : (a : Rat) / (b : Rat) = (((-a : Int) : Rat) / ((-b : Int) : Rat)) := by
  push_cast
  grind
theorem fdiv_neg_dvd {g a : Int} (h : 0 < g) (d : g ∣ a) : a.fdiv (-g) = (-a) / g := by
  obtain ⟨c, rfl⟩ := d
  have e : g * c = (-g) * (-c) := by rw [Int.neg_mul_neg]
  have e2 : -(g * c) = g * (-c) := by rw [Int.mul_neg]
  rw [e2, Int.mul_ediv_cancel_left _ (by omega), e, Int.mul_fdiv_cancel_left _ (by omega)]
theorem gcd_posZ {a b : Int} (h : b ≠ 0) : 0 < ((Nat.gcd a.natAbs b.natAbs : Nat) : Int) := by
  have : 0 < Nat.gcd a.natAbs b.natAbs := Nat.gcd_pos_of_pos_right _ (by omega)
  omega
theorem gcd_leZ {a b : Int} (h : b ≠ 0) : ((Nat.gcd a.natAbs b.natAbs : Nat) : Int).natAbs ≤ b.natAbs := by
  rw [Int.natAbs_natCast]
  exact Nat.gcd_le_right _ (by omega)
theorem fr_pos {a b : Int} (h : 0 < b) : fr ((a : Rat) / (b : Rat)) = (a.fdiv ((Nat.gcd a.natAbs b.natAbs : Nat) : Int), b.fdiv ((Nat.gcd a.natAbs b.natAbs : Nat) : Int)) := by
  have g0 := gcd_posZ (a := a) (b := b) (by omega)
  rw [Int.fdiv_eq_ediv_of_nonneg _ (Int.le_of_lt g0), Int.fdiv_eq_ediv_of_nonneg _ (Int.le_of_lt g0)]
  exact fr_int a h
theorem fr_neg {a b : Int} (h : b < 0) : fr ((a : Rat) / (b : Rat)) = (a.fdiv (-((Nat.gcd a.natAbs b.natAbs : Nat) : Int)), b.fdiv (-((Nat.gcd a.natAbs b.natAbs : Nat) : Int))) := by
  have g0 := gcd_posZ (a := a) (b := b) (by omega)
  rw [fdiv_neg_dvd g0 (Int.ofNat_dvd_left.mpr (Nat.gcd_dvd_left _ _)), fdiv_neg_dvd g0 (Int.ofNat_dvd_left.mpr (Nat.gcd_dvd_right _ _)), fr_flip, fr_int (-a) (show 0 < -b by omega), Int.natAbs_neg, Int.natAbs_neg]
theorem sq_any {n : Nat} {a b : Int} (h : b ≠ 0) (ha : a.natAbs < 2 ^ n) (hb : b.natAbs < 2 ^ n) : Sq n ((a : Rat) / (b : Rat)) := by
  by_cases q : 0 < b
  · exact sq_div q ha hb
  · rw [fr_flip]
    exact sq_div (by omega) (by omega) (by omega)
/-- x stands for q, in any terms -/
structure Rx (n : Nat) (x : Int × Int) (q : Rat) : Prop where
  nz : x.2 ≠ 0
  t : x.1.natAbs < 2 ^ n
  b : x.2.natAbs < 2 ^ n
  v : (x.1 : Rat) / (x.2 : Rat) = q
theorem Rx.sq {n : Nat} {x : Int × Int} {q : Rat} (h : Rx n x q) : Sq n q := by
  rw [← h.v]
  exact sq_any h.nz h.t h.b
theorem Rx.up {n m : Nat} {x : Int × Int} {q : Rat} (h : Rx n x q) (l : n ≤ m) : Rx m x q := ⟨h.nz, up_lt h.t l, up_lt h.b l, h.v⟩
theorem rx_fr {n : Nat} {q : Rat} (h : Sq n q) : Rx n (fr q) q := ⟨by have := den_posI q; show ((q.den : Nat) : Int) ≠ 0; omega, h.1, h.d, fr_val q⟩
theorem rx_int {n : Nat} {i : Int} (h : i.natAbs < 2 ^ n) (h0 : 0 < n) : Rx n (i, 1) (i : Rat) := by
  rw [← fr_of_int]
  exact rx_fr (sq_int h h0)
theorem mul_nz {a b : Int} (h : a ≠ 0) (h2 : b ≠ 0) : a * b ≠ 0 := Int.mul_ne_zero h h2
theorem rx_add {x y : Int × Int} {p q : Rat} {a b : Nat} (hx : Rx a x p) (hy : Rx b y q) : ((x.1 * y.2 + y.1 * x.2 : Int) : Rat) / ((x.2 * y.2 : Int) : Rat) = p + q := by
  rw [← hx.v, ← hy.v]
  have h1 := intc_ne hx.nz
  have h2 := intc_ne hy.nz
  push_cast
  grind
theorem rx_sub {x y : Int × Int} {p q : Rat} {a b : Nat} (hx : Rx a x p) (hy : Rx b y q) : ((x.1 * y.2 - y.1 * x.2 : Int) : Rat) / ((x.2 * y.2 : Int) : Rat) = p - q := by
  rw [← hx.v, ← hy.v]
  have h1 := intc_ne hx.nz
  have h2 := intc_ne hy.nz
  push_cast
  grind
theorem rx_mul {x y : Int × Int} {p q : Rat} {a b : Nat} (hx : Rx a x p) (hy : Rx b y q) : ((x.1 * y.1 : Int) : Rat) / ((x.2 * y.2 : Int) : Rat) = p * q := by
  rw [← hx.v, ← hy.v]
  have h1 := intc_ne hx.nz
  have h2 := intc_ne hy.nz
  push_cast
  grind
theorem Rx.top {x : Int × Int} {q : Rat} {n : Nat} (h : Rx n x q) (hq : q ≠ 0) : x.1 ≠ 0 := fun z => by
  have := h.v
  rw [z] at this
  have e : ((0 : Int) : Rat) / (x.2 : Rat) = 0 := by
    push_cast
    grind
  exact hq (by rw [← this, e])
theorem rx_div {x y : Int × Int} {p q : Rat} {a b : Nat} (hx : Rx a x p) (hy : Rx b y q) (hq : q ≠ 0) : ((x.1 * y.2 : Int) : Rat) / ((x.2 * y.1 : Int) : Rat) = p / q := by
  have h0 := intc_ne (hy.top hq)
  have h1 := intc_ne hx.nz
  have h2 := intc_ne hy.nz
  rw [← hx.v, ← hy.v]
  push_cast
  grind
theorem sq_subB {p q : Rat} {a b n : Nat} (ha : Sq a p) (hb : Sq b q) (h : a + b < n) : Sq n (p - q) := by
  rw [← rx_sub (rx_fr ha) (rx_fr hb)]
  refine sq_div (Int.mul_pos (den_posI p) (den_posI q)) ?_ (mul_lt ha.d hb.d (by omega))
  exact sub_lt (mul_lt ha.1 hb.d (Nat.le_refl _)) (mul_lt hb.1 ha.d (Nat.le_refl _)) (by omega) (by omega)
theorem sq_negB {q : Rat} {a : Nat} (h : Sq a q) : Sq a (-q) := by
  unfold Sq
  rw [Rat.neg_num, Rat.neg_den, Int.natAbs_neg]
  exact h
theorem sq_divB {p q : Rat} {a b n : Nat} (ha : Sq a p) (hb : Sq b q) (hq : q ≠ 0) (h : a + b ≤ n) : Sq n (p / q) := by
  rw [← rx_div (rx_fr ha) (rx_fr hb) hq]
  exact sq_any (mul_nz (rx_fr ha).nz ((rx_fr hb).top hq)) (mul_lt ha.1 hb.d h) (mul_lt ha.d hb.1 h)
theorem fr_negv (q : Rat) : ((0 : Int) - (fr q).1, (fr q).2) = fr (-q) := by
  unfold fr
  rw [Rat.neg_num, Rat.neg_den, Int.zero_sub]
def Sqs (a : Nat) (l : List Rat) : Prop := ∀ q ∈ l, Sq a q
theorem Sqs.up {a b : Nat} {l : List Rat} (h : Sqs a l) (k : a ≤ b) : Sqs b l := fun q hq => (h q hq).up k
/-! ### folds -/
theorem foldM_map {α β S : Type} {f : S → β → Mm S} {g : α → β} : ∀ (l : List α) (s : S), foldM f s (l.map g) = foldM (fun s x => f s (g x)) s l
  | [], s => rfl
  | x :: l, s => by
    rw [List.map_cons]
    show (f s (g x)).bd _ = (f s (g x)).bd _
    congr 1
    funext s'
    exact foldM_map l s'
theorem mapMm_map {α β γ : Type} {f : β → Mm γ} {g : α → β} : ∀ l : List α, mapMm f (l.map g) = mapMm (fun x => f (g x)) l
  | [] => rfl
  | x :: l => by
    rw [List.map_cons]
    unfold mapMm
    rw [mapMm_map l]
theorem zero_add' (q : Rat) : 0 + q = q := by grind
theorem fold_fr {α : Type} {f : Int × Int → α → Mm (Int × Int)} {v : α → Rat} {c : Nat} : ∀ (l : List α), (∀ x ∈ l, Sq c (v x) ∧ ∀ p a, Sq a p → a + c < 8999 → f (fr p) x = .ok (fr (p + v x))) → ∀ (p : Rat) (a : Nat), Sq a p → a + (c + 1) * l.length < 8998 →
    foldM f (fr p) l = .ok (fr (p + (l.map v).sum)) ∧ Sq (a + (c + 1) * l.length) (p + (l.map v).sum)
  | [], _, p, a, ha, _ => by
    have e : p + ([].map v).sum = p := by
      show p + 0 = p
      grind
    rw [e]
    exact ⟨rfl, ha⟩
  | x :: l, h, p, a, ha, hl => by
    have e1 : (c + 1) * (x :: l).length = (c + 1) * l.length + (c + 1) := by rw [List.length_cons, Nat.mul_succ]
    obtain ⟨sx, hx⟩ := h x (List.mem_cons_self ..)
    obtain ⟨h1, h2⟩ := fold_fr l (fun y hy => h y (List.mem_cons_of_mem _ hy)) (p + v x) (a + c + 1) (sq_add ha sx (by omega)) (by omega)
    have e2 : p + ((x :: l).map v).sum = p + v x + (l.map v).sum := by
      rw [List.map_cons, List.sum_cons]
      grind
    rw [e2]
    refine ⟨?_, h2.up (by omega)⟩
    unfold foldM
    rw [hx p a ha (by omega)]
    exact h1
/-- a sum that begins with 0 -/
theorem fold_fr0 {α : Type} {f : Int × Int → α → Mm (Int × Int)} {v : α → Rat} {c : Nat} (l : List α) (h : ∀ x ∈ l, Sq c (v x) ∧ ∀ p a, Sq a p → a + c < 8999 → f (fr p) x = .ok (fr (p + v x))) (hl : (c + 1) * l.length < 8996) :
    foldM f ((0, 1) : Int × Int) l = .ok (fr (l.map v).sum) ∧ Sq (1 + (c + 1) * l.length) (l.map v).sum := by
  have := fold_fr l h 0 1 zero_sq (by omega)
  rw [zero_add', fr_zero] at this
  exact this
/-! ### polynomials -/
def ev : List Rat → Rat → Rat
  | [], _ => 0
  | c :: l, x => c + x * ev l x
theorem ev_sq {p : Rat} {b c : Nat} (hp : Sq b p) : ∀ l : List Rat, Sqs c l → Sq ((b + c + 1) * l.length + 1) (ev l p)
  | [], _ => zero_sqn (by omega)
  | x :: l, h => by
    have ih := ev_sq hp l fun q hq => h q (List.mem_cons_of_mem _ hq)
    have e : (b + c + 1) * (x :: l).length = (b + c + 1) * l.length + (b + c + 1) := by rw [List.length_cons, Nat.mul_succ]
    exact sq_add (h x (List.mem_cons_self ..)) (sq_mul hp ih (Nat.le_refl _)) (by omega)
theorem foldM_app {α S : Type} {f : S → α → Mm S} : ∀ (l r : List α) (s : S), foldM f s (l ++ r) = (foldM f s l).bd fun s' => foldM f s' r
  | [], r, s => rfl
  | x :: l, r, s => by
    show (f s x).bd (fun s' => foldM f s' (l ++ r)) = ((f s x).bd fun s' => foldM f s' l).bd fun s' => foldM f s' r
    rw [bd_assoc]
    congr 1
    funext s'
    exact foldM_app l r s'
/-- Horner's way -/
theorem horner {f : Int × Int → Rat → Mm (Int × Int)} {p : Rat} {b c : Nat} (hp : Sq b p) (N : Nat) (hf : ∀ x, Sq c x → ∀ q a, Sq a q → a + b + c + 1 ≤ N → f (fr q) x = .ok (fr (q * p + x))) : ∀ (l : List Rat), Sqs c l → (b + c + 1) * l.length + 1 ≤ N → foldM f ((0, 1) : Int × Int) l.reverse = .ok (fr (ev l p))
  | [], _, _ => by
    show Mm.ok _ = _
    rw [← fr_zero]
    rfl
  | x :: l, h, hN => by
    have e : (b + c + 1) * (x :: l).length = (b + c + 1) * l.length + (b + c + 1) := by rw [List.length_cons, Nat.mul_succ]
    have hl : Sqs c l := fun q hq => h q (List.mem_cons_of_mem _ hq)
    rw [List.reverse_cons, foldM_app, horner hp N hf l hl (by omega)]
    show (f _ x).bd _ = _
    rw [hf x (h x (List.mem_cons_self ..)) _ _ (ev_sq hp l hl) (by omega)]
    show Mm.ok _ = _
    congr 2
    show _ = x + p * ev l p
    grind
/-! ### numbered lists, items -/
def numL {α : Type} : Int → List α → List (Int × α)
  | _, [] => []
  | k, x :: l => (k, x) :: numL (k + 1) l
theorem rangeL_succ (k : Int) (n : Nat) : rangeL k (n + 1) = k :: rangeL (k + 1) n := by
  unfold rangeL
  rw [List.range_succ_eq_map, List.map_cons, List.map_map]
  congr 1
  · omega
  · refine List.map_congr_left fun i _ => ?_
    show k + ((i + 1 : Nat) : Int) = k + 1 + (i : Int)
    omega
theorem rangeL_len (k : Int) (n : Nat) : (rangeL k n).length = n := by simp [rangeL]
theorem enum_num {α : Type} : ∀ (l : List α) (k : Int), (rangeL k l.length).zip l = numL k l
  | [], k => rfl
  | x :: l, k => by
    rw [List.length_cons, rangeL_succ, List.zip_cons_cons, enum_num l]
    rfl
theorem enumL_eq {α : Type} (l : List α) : enumL l = numL 0 l := enum_num l 0
theorem numL_len {α : Type} : ∀ (l : List α) (k : Int), (numL k l).length = l.length
  | [], k => rfl
  | x :: l, k => by
    unfold numL
    rw [List.length_cons, numL_len l, List.length_cons]
theorem numL_mem {α : Type} : ∀ (l : List α) (k : Int) (x : Int × α), x ∈ numL k l → k ≤ x.1 ∧ x.1 < k + l.length ∧ x.2 ∈ l
  | [], k, x, h => by cases h
  | y :: l, k, x, h => by
    rcases List.mem_cons.mp h with rfl | h
    · refine ⟨Int.le_refl _, ?_, List.mem_cons_self ..⟩
      show k < k + ((l.length + 1 : Nat) : Int)
      omega
    · obtain ⟨a, b, c⟩ := numL_mem l (k + 1) x h
      refine ⟨by omega, ?_, List.mem_cons_of_mem _ c⟩
      show x.1 < k + ((l.length + 1 : Nat) : Int)
      omega
theorem numL_map {α β : Type} (f : α → β) : ∀ (l : List α) (k : Int), numL k (l.map f) = (numL k l).map fun x => (x.1, f x.2)
  | [], k => rfl
  | x :: l, k => by
    rw [List.map_cons]
    unfold numL
    rw [numL_map f l, List.map_cons]
theorem getM_mid {α : Type} (l r : List α) (x : α) : getM (l ++ x :: r) (l.length : Int) = .ok x := by
  unfold getM
  rw [atI_nat (j := l.length) (v := x) (by simp)]
theorem getM_nat {α : Type} {l : List α} {i : Nat} {x : α} (h : l[i]? = some x) : getM l (i : Int) = .ok x := by
  unfold getM
  rw [atI_nat (j := i) (v := x) h]
theorem getM_last {α : Type} (l : List α) (x : α) : getM (l ++ [x]) (-(1 : Int)) = .ok x := by
  unfold getM
  rw [atI_last]
theorem getM_ok {α : Type} {l : List α} {i : Int} (h : 0 ≤ i) (h2 : i < l.length) : ∃ x, x ∈ l ∧ getM l i = .ok x := by
  have e : i = ((i.toNat : Nat) : Int) := by omega
  have lt : i.toNat < l.length := by omega
  have q := getM_nat (List.getElem?_eq_getElem lt)
  rw [← e] at q
  exact ⟨l[i.toNat], List.getElem_mem lt, q⟩
theorem rangeM_ok {n : Nat} (h : n < 1000000) : rangeM (n : Int) = .ok (rangeL 0 n) := by
  have := range_ok (j := (n : Int)) (by omega) (by omega)
  rw [this, Int.toNat_natCast]
theorem rangeDn_rev (n : Nat) : rangeDn ((n : Int) - 1) n = (rangeL 0 n).reverse := by
  unfold rangeDn rangeL
  rw [← List.map_reverse]
  apply List.ext_getElem
  · simp
  · intro i h1 h2
    simp only [List.length_map, List.length_range] at h1
    simp only [List.getElem_map, List.getElem_range, List.getElem_reverse, List.length_range]
    omega
theorem fold_getR {α S : Type} {h : S → α → Mm S} (L : List α) : ∀ (n : Nat) (l post : List α) (s : S), l.length = n → L = l ++ post → foldM (fun s i => (getM L i).bd fun v => h s v) s (rangeL 0 l.length).reverse = foldM h s l.reverse
  | 0, l, post, s, hn, e => by
    have : l = [] := List.length_eq_zero_iff.mp hn
    subst this
    rfl
  | n + 1, l, post, s, hn, e => by
    rcases List.eq_nil_or_concat l with q | ⟨l', x, q⟩
    · rw [q] at hn
      cases hn
    · rw [List.concat_eq_append] at q
      subst q
      have e1 : rangeL 0 (l' ++ [x]).length = rangeL 0 l'.length ++ [(l'.length : Int)] := by
        unfold rangeL
        rw [List.length_append, List.length_singleton, List.range_succ, List.map_append, List.map_cons, List.map_nil, Int.zero_add]
      have e2 : L = l' ++ x :: post := by rw [e]; simp
      rw [e1, List.reverse_append, List.reverse_append, foldM_app, foldM_app]
      show Mm.bd (Mm.bd (Mm.bd (getM L (l'.length : Int)) _) _) _ = Mm.bd (Mm.bd (h s x) _) _
      have g : getM L (l'.length : Int) = .ok x := by rw [e2]; exact getM_mid _ _ _
      rw [g]
      show Mm.bd (Mm.bd (h s x) _) _ = _
      congr 1
      funext s'
      exact fold_getR L n l' (x :: post) s' (by simpa using hn) e2
theorem fold_get {α S : Type} {h : S → Int → α → Mm S} (L : List α) : ∀ (l pre : List α) (s : S), L = pre ++ l → foldM (fun s i => (getM L i).bd fun v => h s i v) s (rangeL (pre.length : Int) l.length) = foldM (fun s (x : Int × α) => h s x.1 x.2) s (numL (pre.length : Int) l)
  | [], pre, s, _ => rfl
  | x :: l, pre, s, e => by
    rw [List.length_cons, rangeL_succ]
    unfold foldM numL
    rw [e, getM_mid, ← e]
    show (h s _ x).bd _ = (h s _ x).bd _
    congr 1
    funext s'
    have := fold_get (h := h) L l (pre ++ [x]) s' (by rw [e]; simp)
    rw [List.length_append, List.length_singleton] at this
    have e2 : ((pre.length + 1 : Nat) : Int) = (pre.length : Int) + 1 := by omega
    rw [e2] at this
    exact this
/-! ### draws -/
def Rk (N : Nat) (st : Rw) : Prop := 0 ≤ st.seed ∧ st.seed < 2147483647 ∧ 0 ≤ st.pos ∧ st.pos ≤ N
theorem Rk.up {N M : Nat} {st : Rw} (h : Rk N st) (k : N ≤ M) : Rk M st := ⟨h.1, h.2.1, h.2.2.1, by have := h.2.2.2; omega⟩
theorem seedN_ok (s c : Int) : 0 ≤ seedN s c ∧ seedN s c < 2147483647 := by
  unfold seedN
  omega
theorem takenA_ok {scr : List Int} {st : Rw} {many : Int} {N : Nat} (r : Rk N st) (h0 : 0 < many) (h1 : many < 1073741824) (hN : N < 999999) : Yes (takenA scr st many) fun r => (0 ≤ r.1 ∧ r.1 < many) ∧ Rk (N + 1) r.2 := by
  obtain ⟨r1, r2, r3, r4⟩ := r
  unfold takenA
  rw [if_pos ⟨h0, h1, r1, r2, r3, by omega⟩]
  split
  · refine ⟨_, rfl, ⟨Int.emod_nonneg _ (by omega), Int.emod_lt_of_pos _ h0⟩, r1, r2, r3, ?_⟩
    show st.pos ≤ _
    omega
  · split
    · obtain ⟨s1, s2⟩ := seedN_ok st.seed 0
      exact ⟨_, rfl, ⟨Int.emod_nonneg _ (by omega), Int.emod_lt_of_pos _ h0⟩, s1, s2, by show 0 ≤ st.pos + 1; omega, by show st.pos + 1 ≤ _; omega⟩
    · rename_i c _
      obtain ⟨s1, s2⟩ := seedN_ok st.seed c
      exact ⟨_, rfl, ⟨Int.emod_nonneg _ (by omega), Int.emod_lt_of_pos _ h0⟩, s1, s2, by show 0 ≤ st.pos + 1; omega, by show st.pos + 1 ≤ _; omega⟩
theorem takenB_ok {scr : List Int} {st : Rw} {many : Int} {N : Nat} (r : Rk N st) (h0 : 0 < many) (h1 : many < 1073741824) (hN : N < 999999) : Yes (takenB scr st many) fun r => (0 ≤ r.1 ∧ r.1 < many) ∧ Rk (N + 1) r.2 := by
  obtain ⟨r1, r2, r3, r4⟩ := r
  unfold takenB
  rw [if_pos ⟨h0, h1, r1, r2, r3, by omega⟩]
  split
  · refine ⟨_, rfl, ⟨Int.emod_nonneg _ (by omega), Int.emod_lt_of_pos _ h0⟩, r1, r2, r3, ?_⟩
    show st.pos ≤ _
    omega
  · split
    · obtain ⟨s1, s2⟩ := seedN_ok st.seed 0
      exact ⟨_, rfl, ⟨Int.emod_nonneg _ (by omega), Int.emod_lt_of_pos _ h0⟩, s1, s2, by show 0 ≤ st.pos + 1; omega, by show st.pos + 1 ≤ _; omega⟩
    · rename_i c _
      obtain ⟨s1, s2⟩ := seedN_ok st.seed c
      exact ⟨_, rfl, ⟨Int.emod_nonneg _ (by omega), Int.emod_lt_of_pos _ h0⟩, s1, s2, by show 0 ≤ st.pos + 1; omega, by show st.pos + 1 ≤ _; omega⟩
theorem yes_mapS {α γ S : Type} {f : S → α → Mm (γ × S)} (I : S → Nat → Prop) (p : α → γ → Prop) : ∀ (l : List α) (s : S), I s l.length → (∀ s x n, x ∈ l → I s (n + 1) → Yes (f s x) fun y => p x y.1 ∧ I y.2 n) → Yes (mapSt f s l) fun r => All2 p l r.1 ∧ I r.2 0
  | [], s, h, _ => ⟨_, rfl, .nil, h⟩
  | x :: l, s, h, k => by
    obtain ⟨y, e, h1, h2⟩ := k s x l.length (List.mem_cons_self ..) h
    obtain ⟨r, e2, h3, h4⟩ := yes_mapS I p l y.2 h2 fun s z n hz => k s z n (List.mem_cons_of_mem _ hz)
    unfold mapSt
    rw [e]
    show Yes ((mapSt f y.2 l).bd _) _
    rw [e2]
    exact ⟨_, rfl, .cons h1 h3, h4⟩
/-- draws of a row of things: cost each -/
theorem yes_draws {α γ : Type} {f : Rw → α → Mm (γ × Rw)} (c : Nat) (p : γ → Prop) (l : List α) (s : Rw) (N : Nat) (h : Rk N s) (hN : N + c * l.length < 900000) (k : ∀ s x M, x ∈ l → Rk M s → M < 900000 → Yes (f s x) fun y => p y.1 ∧ Rk (M + c) y.2) : Yes (mapSt f s l) fun r => (r.1.length = l.length ∧ ∀ y ∈ r.1, p y) ∧ Rk (N + c * l.length) r.2 := by
  refine (yes_mapS (fun s n => ∃ k, Rk k s ∧ k + c * n ≤ N + c * l.length) (fun _ y => p y) l s ⟨N, h, Nat.le_refl _⟩ fun s x n hx hs => ?_).mono fun r hr => ⟨⟨hr.1.len, hr.1.right fun _ _ h => h⟩, ?_⟩
  · obtain ⟨M, rk, hM⟩ := hs
    have e : c * (n + 1) = c * n + c := Nat.mul_succ ..
    exact (k s x M hx rk (by omega)).mono fun y hy => ⟨hy.1, M + c, hy.2, by omega⟩
  · obtain ⟨M, rk, hM⟩ := hr.2
    exact rk.up (by omega)
theorem All2.app {α γ : Type} {p : α → γ → Prop} {x : α} {y : γ} : ∀ {l : List α} {r : List γ}, All2 p l r → p x y → All2 p (l ++ [x]) (r ++ [y])
  | _, _, .nil, h => .cons h .nil
  | _, _, .cons a b, h => .cons a (All2.app b h)
theorem All2.map_eq {α β γ : Type} {p : α → γ → Prop} {f : γ → Mm β} {g : α → β} {l : List α} {r : List γ} (h : All2 p l r) (k : ∀ x y, x ∈ l → p x y → f y = .ok (g x)) : mapMm f r = .ok (l.map g) := by
  induction h with
  | nil => rfl
  | cons a _ ih =>
    unfold mapMm
    rw [k _ _ (List.mem_cons_self ..) a, bdo, ih fun x y hx => k x y (List.mem_cons_of_mem _ hx), bdo]
    rfl
theorem All2.left {α γ : Type} {p : α → γ → Prop} {q : α → Prop} {l : List α} {r : List γ} (h : All2 p l r) (k : ∀ x y, p x y → q x) : ∀ x ∈ l, q x := by
  induction h with
  | nil => simp
  | cons a _ ih =>
    intro y hy
    rcases List.mem_cons.mp hy with rfl | hy
    · exact k _ _ a
    · exact ih y hy
theorem All2.self {α γ : Type} {p : α → γ → Prop} {g : α → γ} : ∀ l : List α, (∀ x ∈ l, p x (g x)) → All2 p l (l.map g)
  | [], _ => .nil
  | x :: l, h => .cons (h x (List.mem_cons_self ..)) (All2.self l fun y hy => h y (List.mem_cons_of_mem _ hy))
theorem All2.mono {α γ : Type} {p q : α → γ → Prop} {l : List α} {r : List γ} (h : All2 p l r) (k : ∀ x y, p x y → q x y) : All2 q l r := by
  induction h with
  | nil => exact .nil
  | cons a _ ih => exact .cons (k _ _ a) ih
/-- loops that may be left, but are not -/
theorem yes_foldL {α R S : Type} {f : S → α → Mm (Fl R S)} (I : S → Nat → Prop) : ∀ (l : List α) (s : S), I s l.length → (∀ s x n, x ∈ l → I s (n + 1) → Yes (f s x) fun o => ∃ s', o = .go s' ∧ I s' n) → Yes (foldL f s l) fun o => ∃ s', o = .go s' ∧ I s' 0
  | [], s, h, _ => ⟨_, rfl, s, rfl, h⟩
  | x :: l, s, h, k => by
    obtain ⟨o, e, s', rfl, h2⟩ := k s x l.length (List.mem_cons_self ..) h
    obtain ⟨o2, e2, s2, rfl, h3⟩ := yes_foldL I l s' h2 fun s z n hz => k s z n (List.mem_cons_of_mem _ hz)
    unfold foldL
    rw [e]
    show Yes (foldL f s' l) _
    rw [e2]
    exact ⟨_, rfl, s2, rfl, h3⟩
end Wk
namespace Wk
open PySem L2
/-- Euclid's way -/
theorem euclid : ∀ (n : Nat) (x y : Int), 0 ≤ x → 0 ≤ y → y.toNat < n → foldW (fun (b6 : (Int × Int)) => Mm.ok (decide (b6.2 > (0 : Int)))) (fun (b7 : (Int × Int)) => (modM b7.1 b7.2).bd fun m24 => Mm.ok (b7.2, m24)) n (x, y) = .ok (((Nat.gcd x.natAbs y.natAbs : Nat) : Int), 0)
  | 0, _, _, _, _, h => absurd h (by omega)
  | n + 1, x, y, hx, hy, h => by
    unfold foldW
    by_cases q : y > 0
    · show (match decide (y > 0) with | true => _ | false => _) = _
      rw [decide_eq_true q]
      show ((modM x y).bd _).bd _ = _
      rw [mod_ok q]
      show foldW _ _ n (y, x % y) = _
      have h1 := Int.emod_nonneg x (b := y) (by omega)
      have h2 := Int.emod_lt_of_pos x q
      rw [euclid n y (x % y) hy h1 (by omega)]
      congr 3
      rw [Int.natAbs_emod_of_nonneg hx, Nat.gcd_comm, ← Nat.gcd_rec, Nat.gcd_comm]
    · show (match decide (y > 0) with | true => _ | false => _) = _
      rw [decide_eq_false q]
      have : y = 0 := by omega
      subst this
      show Mm.ok (x, (0 : Int)) = _
      rw [Int.natAbs_zero, Nat.gcd_zero_right]
      congr 2
      omega
theorem abs_nn (x : Int) : 0 ≤ absI x := by unfold absI; split <;> omega
theorem abs_na (x : Int) : (absI x).natAbs = x.natAbs := by unfold absI; split <;> omega
end Wk
namespace Wk
open PySem L2
/-! ### loops over indexes -/
theorem fold_ixR {α S : Type} {f : S → Int → Mm S} {h : S → α → Mm S} (L : List α) (hf : ∀ s (i : Nat) v, L[i]? = some v → f s (i : Int) = h s v) : ∀ s, foldM f s (rangeL 0 L.length).reverse = foldM h s L.reverse := by
  have k : ∀ (n : Nat) (l post : List α) (s : S), l.length = n → L = l ++ post → foldM f s (rangeL 0 l.length).reverse = foldM h s l.reverse := by
    intro n
    induction n with
    | zero =>
      intro l post s hn e
      have : l = [] := List.length_eq_zero_iff.mp hn
      subst this
      rfl
    | succ n ih =>
      intro l post s hn e
      rcases List.eq_nil_or_concat l with q | ⟨l', x, q⟩
      · rw [q] at hn
        cases hn
      · rw [List.concat_eq_append] at q
        subst q
        have e1 : rangeL 0 (l' ++ [x]).length = rangeL 0 l'.length ++ [(l'.length : Int)] := by
          unfold rangeL
          rw [List.length_append, List.length_singleton, List.range_succ, List.map_append, List.map_cons, List.map_nil, Int.zero_add]
        have e2 : L = l' ++ x :: post := by rw [e]; simp
        rw [e1, List.reverse_append, List.reverse_append, foldM_app, foldM_app]
        show Mm.bd (Mm.bd (f s (l'.length : Int)) _) _ = Mm.bd (Mm.bd (h s x) _) _
        rw [hf s l'.length x (by rw [e2]; simp)]
        show Mm.bd (Mm.bd (h s x) _) _ = _
        congr 1
        funext s'
        exact ih l' (x :: post) s' (by simpa using hn) e2
  intro s
  exact k L.length L [] s rfl (by simp)
theorem fold_ixN {α S : Type} {f : S → Int → Mm S} {h : S → Nat → α → Mm S} (L : List α) (hf : ∀ s (i : Nat) v, L[i]? = some v → f s (i : Int) = h s i v) : ∀ (l pre : List α) (s : S), L = pre ++ l → foldM f s (rangeL (pre.length : Int) l.length) = foldM (fun s (x : Int × α) => h s x.1.toNat x.2) s (numL (pre.length : Int) l)
  | [], pre, s, _ => rfl
  | x :: l, pre, s, e => by
    rw [List.length_cons, rangeL_succ]
    unfold foldM numL
    rw [hf s pre.length x (by rw [e]; simp)]
    show (h s _ x).bd _ = (h s _ x).bd _
    rw [Int.toNat_natCast]
    congr 1
    funext s'
    have := fold_ixN L hf l (pre ++ [x]) s' (by rw [e]; simp)
    rw [List.length_append, List.length_singleton] at this
    have e2 : ((pre.length + 1 : Nat) : Int) = (pre.length : Int) + 1 := by omega
    rw [e2] at this
    exact this
theorem fold_num {α S : Type} {h : S → α → Mm S} : ∀ (l : List α) (k : Int) (s : S), foldM (fun s (x : Int × α) => h s x.2) s (numL k l) = foldM h s l
  | [], _, _ => rfl
  | x :: l, k, s => by
    unfold numL foldM
    show (h s x).bd _ = (h s x).bd _
    congr 1
    funext s'
    exact fold_num l (k + 1) s'
theorem fold_ix {α S : Type} {f : S → Int → Mm S} {h : S → α → Mm S} (L : List α) (hf : ∀ s (i : Nat) v, L[i]? = some v → f s (i : Int) = h s v) (s : S) : foldM f s (rangeL 0 L.length) = foldM h s L := by
  have := fold_ixN (h := fun s _ v => h s v) L hf L [] s rfl
  rw [show ((([] : List α).length : Nat) : Int) = 0 from rfl] at this
  rw [this, fold_num]
theorem map_ix {α γ : Type} {f : Int → Mm γ} {h : α → Mm γ} (L : List α) (hf : ∀ (i : Nat) v, L[i]? = some v → f (i : Int) = h v) : mapMm f (rangeL 0 L.length) = mapMm h L := by
  have k : ∀ (l pre : List α), L = pre ++ l → mapMm f (rangeL (pre.length : Int) l.length) = mapMm h l := by
    intro l
    induction l with
    | nil => intro pre _; rfl
    | cons x l ih =>
      intro pre e
      rw [List.length_cons, rangeL_succ]
      unfold mapMm
      rw [hf pre.length x (by rw [e]; simp)]
      have := ih (pre ++ [x]) (by rw [e]; simp)
      rw [List.length_append, List.length_singleton] at this
      have e2 : ((pre.length + 1 : Nat) : Int) = (pre.length : Int) + 1 := by omega
      rw [e2] at this
      rw [this]
  exact k L [] rfl
theorem zip_at {α β : Type} {l : List α} {r : List β} {i : Nat} {v : α × β} (h : (l.zip r)[i]? = some v) : l[i]? = some v.1 ∧ r[i]? = some v.2 := by
  rw [List.getElem?_zip_eq_some] at h
  exact h
theorem getM_map {α β : Type} {l : List α} {f : α → β} {i : Nat} {x : α} (h : l[i]? = some x) : getM (l.map f) (i : Int) = .ok (f x) := getM_nat (by rw [List.getElem?_map, h]; rfl)
theorem All2.at {α γ : Type} {p : α → γ → Prop} {l : List α} {r : List γ} (h : All2 p l r) : ∀ {i : Nat} {x : α}, l[i]? = some x → ∃ y, r[i]? = some y ∧ p x y := by
  induction h with
  | nil => intro i x e; cases i <;> cases e
  | cons a _ ih =>
    intro i x e
    cases i with
    | zero => cases e; exact ⟨_, rfl, a⟩
    | succ i => exact ih e
end Wk
namespace Wk
open PySem L2
def rv (x : Int × Int) : Rat := (x.1 : Rat) / (x.2 : Rat)
theorem all2_rv {n : Nat} {ps : List Rat} {pl : List (Int × Int)} (h : All2 (fun p x => Rx n x p) ps pl) : ps = pl.map rv := by
  induction h with
  | nil => rfl
  | cons a _ ih => rw [List.map_cons, ← ih, ← a.v]; rfl
theorem all2_at {n : Nat} {ps : List Rat} {pl : List (Int × Int)} (h : All2 (fun p x => Rx n x p) ps pl) {i : Nat} {x : Int × Int} (hx : pl[i]? = some x) : Rx n x (rv x) := by
  have := h.right (q := fun x => Rx n x (rv x)) (fun p x r => by have e := r.v; unfold rv; rw [e]; exact r) x (List.mem_of_getElem? hx)
  exact this
/-- sums with something that goes along -/
theorem fold_frP {α R : Type} {f : (Int × Int) × R → α → Mm ((Int × Int) × R)} {v : α → Rat} {c : Nat} : ∀ (l : List α), (∀ x ∈ l, Sq c (v x) ∧ ∀ p a r, Sq a p → a + c < 8999 → f (fr p, r) x = .ok (fr (p + v x), r)) → ∀ (p : Rat) (a : Nat) (r : R), Sq a p → a + (c + 1) * l.length < 8998 →
    foldM f (fr p, r) l = .ok (fr (p + (l.map v).sum), r) ∧ Sq (a + (c + 1) * l.length) (p + (l.map v).sum)
  | [], _, p, a, r, ha, _ => by
    have e : p + ([].map v).sum = p := by
      show p + 0 = p
      grind
    rw [e]
    exact ⟨rfl, ha⟩
  | x :: l, h, p, a, r, ha, hl => by
    have e1 : (c + 1) * (x :: l).length = (c + 1) * l.length + (c + 1) := by rw [List.length_cons, Nat.mul_succ]
    obtain ⟨sx, hx⟩ := h x (List.mem_cons_self ..)
    obtain ⟨h1, h2⟩ := fold_frP l (fun y hy => h y (List.mem_cons_of_mem _ hy)) (p + v x) (a + c + 1) r (sq_add ha sx (by omega)) (by omega)
    have e2 : p + ((x :: l).map v).sum = p + v x + (l.map v).sum := by
      rw [List.map_cons, List.sum_cons]
      grind
    rw [e2]
    refine ⟨?_, h2.up (by omega)⟩
    unfold foldM
    rw [hx p a r ha (by omega)]
    exact h1
/-- the same over the indexes of a list -/
theorem fold_frI {α R : Type} {f : (Int × Int) × R → Int → Mm ((Int × Int) × R)} {v : α → Rat} {c : Nat} (L : List α) (h : ∀ (i : Nat) x, L[i]? = some x → Sq c (v x) ∧ ∀ p a r, Sq a p → a + c < 8999 → f (fr p, r) (i : Int) = .ok (fr (p + v x), r)) (p : Rat) (a : Nat) (r : R) (ha : Sq a p) (hl : a + (c + 1) * L.length < 8998) :
    foldM f (fr p, r) (rangeL 0 L.length) = .ok (fr (p + (L.map v).sum), r) ∧ Sq (a + (c + 1) * L.length) (p + (L.map v).sum) := by
  have k : ∀ (l pre : List α) (p : Rat) (a : Nat), L = pre ++ l → Sq a p → a + (c + 1) * l.length < 8998 → foldM f (fr p, r) (rangeL (pre.length : Int) l.length) = .ok (fr (p + (l.map v).sum), r) ∧ Sq (a + (c + 1) * l.length) (p + (l.map v).sum) := by
    intro l
    induction l with
    | nil =>
      intro pre p a _ ha _
      have e : p + ([].map v).sum = p := by
        show p + 0 = p
        grind
      rw [e]
      exact ⟨rfl, ha⟩
    | cons x l ih =>
      intro pre p a e ha hl
      have e1 : (c + 1) * (x :: l).length = (c + 1) * l.length + (c + 1) := by rw [List.length_cons, Nat.mul_succ]
      obtain ⟨sx, hx⟩ := h pre.length x (by rw [e]; simp)
      have q := ih (pre ++ [x]) (p + v x) (a + c + 1) (by rw [e]; simp) (sq_add ha sx (by omega)) (by omega)
      rw [List.length_append, List.length_singleton] at q
      have e2 : ((pre.length + 1 : Nat) : Int) = (pre.length : Int) + 1 := by omega
      rw [e2] at q
      have e3 : p + ((x :: l).map v).sum = p + v x + (l.map v).sum := by
        rw [List.map_cons, List.sum_cons]
        grind
      rw [e3, List.length_cons, rangeL_succ]
      refine ⟨?_, q.2.up (by rw [Nat.mul_succ]; omega)⟩
      unfold foldM
      rw [hx p a r ha (by omega)]
      exact q.1
  exact k L [] p a (by simp) ha hl
/-- the same with nothing that goes along -/
theorem fold_frJ {α : Type} {f : Int × Int → Int → Mm (Int × Int)} {v : α → Rat} {c : Nat} (L : List α) (h : ∀ (i : Nat) x, L[i]? = some x → Sq c (v x) ∧ ∀ p a, Sq a p → a + c < 8999 → f (fr p) (i : Int) = .ok (fr (p + v x))) (p : Rat) (a : Nat) (ha : Sq a p) (hl : a + (c + 1) * L.length < 8998) :
    foldM f (fr p) (rangeL 0 L.length) = .ok (fr (p + (L.map v).sum)) ∧ Sq (a + (c + 1) * L.length) (p + (L.map v).sum) := by
  have k : ∀ (l pre : List α) (p : Rat) (a : Nat), L = pre ++ l → Sq a p → a + (c + 1) * l.length < 8998 → foldM f (fr p) (rangeL (pre.length : Int) l.length) = .ok (fr (p + (l.map v).sum)) ∧ Sq (a + (c + 1) * l.length) (p + (l.map v).sum) := by
    intro l
    induction l with
    | nil =>
      intro pre p a _ ha _
      have e : p + ([].map v).sum = p := by
        show p + 0 = p
        grind
      rw [e]
      exact ⟨rfl, ha⟩
    | cons x l ih =>
      intro pre p a e ha hl
      have e1 : (c + 1) * (x :: l).length = (c + 1) * l.length + (c + 1) := by rw [List.length_cons, Nat.mul_succ]
      obtain ⟨sx, hx⟩ := h pre.length x (by rw [e]; simp)
      have q := ih (pre ++ [x]) (p + v x) (a + c + 1) (by rw [e]; simp) (sq_add ha sx (by omega)) (by omega)
      rw [List.length_append, List.length_singleton] at q
      have e2 : ((pre.length + 1 : Nat) : Int) = (pre.length : Int) + 1 := by omega
      rw [e2] at q
      have e3 : p + ((x :: l).map v).sum = p + v x + (l.map v).sum := by
        rw [List.map_cons, List.sum_cons]
        grind
      rw [e3, List.length_cons, rangeL_succ]
      refine ⟨?_, q.2.up (by rw [Nat.mul_succ]; omega)⟩
      unfold foldM
      rw [hx p a ha (by omega)]
      exact q.1
  exact k L [] p a (by simp) ha hl
end Wk

set_option Elab.async false
set_option linter.all false
set_option maxRecDepth 100000
set_option maxHeartbeats 4000000
namespace L
/-- thirteen weights above 0 and places from 0 to 1: a rule that is exact to the power 12 -/
def QN : List (Rat × Rat) := [(47719618433/4266648514128, 0), (412093597/10139016888, 1/30), (15096609475/365258877984, 1/15), (34472681/410288736, 2/15), (43199494175/362155842048, 7/30), (1714329755/12291447168, 11/30), (98694539947/770306304768, 1/2), (1714329755/12291447168, 19/30), (43199494175/362155842048, 23/30), (34472681/410288736, 13/15), (15096609475/365258877984, 14/15), (412093597/10139016888, 29/30), (47719618433/4266648514128, 1)]
theorem quad_0 (a d : Rat) : (QN.map fun q => d * q.1 * (a + d * q.2) ^ 0).sum * (1 : Rat) = (a + d) ^ 1 - a ^ 1 := by
  simp only [QN, List.map_cons, List.map_nil, List.sum_cons, List.sum_nil]
  grind
theorem quad_1 (a d : Rat) : (QN.map fun q => d * q.1 * (a + d * q.2) ^ 1).sum * (2 : Rat) = (a + d) ^ 2 - a ^ 2 := by
  simp only [QN, List.map_cons, List.map_nil, List.sum_cons, List.sum_nil]
  grind
theorem quad_2 (a d : Rat) : (QN.map fun q => d * q.1 * (a + d * q.2) ^ 2).sum * (3 : Rat) = (a + d) ^ 3 - a ^ 3 := by
  simp only [QN, List.map_cons, List.map_nil, List.sum_cons, List.sum_nil]
  grind
theorem quad_3 (a d : Rat) : (QN.map fun q => d * q.1 * (a + d * q.2) ^ 3).sum * (4 : Rat) = (a + d) ^ 4 - a ^ 4 := by
  simp only [QN, List.map_cons, List.map_nil, List.sum_cons, List.sum_nil]
  grind
theorem quad_4 (a d : Rat) : (QN.map fun q => d * q.1 * (a + d * q.2) ^ 4).sum * (5 : Rat) = (a + d) ^ 5 - a ^ 5 := by
  simp only [QN, List.map_cons, List.map_nil, List.sum_cons, List.sum_nil]
  grind
theorem quad_5 (a d : Rat) : (QN.map fun q => d * q.1 * (a + d * q.2) ^ 5).sum * (6 : Rat) = (a + d) ^ 6 - a ^ 6 := by
  simp only [QN, List.map_cons, List.map_nil, List.sum_cons, List.sum_nil]
  grind
theorem quad_6 (a d : Rat) : (QN.map fun q => d * q.1 * (a + d * q.2) ^ 6).sum * (7 : Rat) = (a + d) ^ 7 - a ^ 7 := by
  simp only [QN, List.map_cons, List.map_nil, List.sum_cons, List.sum_nil]
  grind
theorem quad_7 (a d : Rat) : (QN.map fun q => d * q.1 * (a + d * q.2) ^ 7).sum * (8 : Rat) = (a + d) ^ 8 - a ^ 8 := by
  simp only [QN, List.map_cons, List.map_nil, List.sum_cons, List.sum_nil]
  grind
theorem quad_8 (a d : Rat) : (QN.map fun q => d * q.1 * (a + d * q.2) ^ 8).sum * (9 : Rat) = (a + d) ^ 9 - a ^ 9 := by
  simp only [QN, List.map_cons, List.map_nil, List.sum_cons, List.sum_nil]
  grind
theorem quad_9 (a d : Rat) : (QN.map fun q => d * q.1 * (a + d * q.2) ^ 9).sum * (10 : Rat) = (a + d) ^ 10 - a ^ 10 := by
  simp only [QN, List.map_cons, List.map_nil, List.sum_cons, List.sum_nil]
  grind
theorem quad_10 (a d : Rat) : (QN.map fun q => d * q.1 * (a + d * q.2) ^ 10).sum * (11 : Rat) = (a + d) ^ 11 - a ^ 11 := by
  simp only [QN, List.map_cons, List.map_nil, List.sum_cons, List.sum_nil]
  grind
theorem quad_11 (a d : Rat) : (QN.map fun q => d * q.1 * (a + d * q.2) ^ 11).sum * (12 : Rat) = (a + d) ^ 12 - a ^ 12 := by
  simp only [QN, List.map_cons, List.map_nil, List.sum_cons, List.sum_nil]
  grind
theorem quad_12 (a d : Rat) : (QN.map fun q => d * q.1 * (a + d * q.2) ^ 12).sum * (13 : Rat) = (a + d) ^ 13 - a ^ 13 := by
  simp only [QN, List.map_cons, List.map_nil, List.sum_cons, List.sum_nil]
  grind
theorem quad (a d : Rat) : ∀ k : Nat, k ≤ 12 → (QN.map fun q => d * q.1 * (a + d * q.2) ^ k).sum * ((((k : Nat) : Int) + 1 : Int) : Rat) = (a + d) ^ (k + 1) - a ^ (k + 1)
  | 0, _ => by
    have e : ((((0 : Nat) : Int) + 1 : Int) : Rat) = (1 : Rat) := by decide
    rw [e]
    exact quad_0 a d
  | 1, _ => by
    have e : ((((1 : Nat) : Int) + 1 : Int) : Rat) = (2 : Rat) := by decide
    rw [e]
    exact quad_1 a d
  | 2, _ => by
    have e : ((((2 : Nat) : Int) + 1 : Int) : Rat) = (3 : Rat) := by decide
    rw [e]
    exact quad_2 a d
  | 3, _ => by
    have e : ((((3 : Nat) : Int) + 1 : Int) : Rat) = (4 : Rat) := by decide
    rw [e]
    exact quad_3 a d
  | 4, _ => by
    have e : ((((4 : Nat) : Int) + 1 : Int) : Rat) = (5 : Rat) := by decide
    rw [e]
    exact quad_4 a d
  | 5, _ => by
    have e : ((((5 : Nat) : Int) + 1 : Int) : Rat) = (6 : Rat) := by decide
    rw [e]
    exact quad_5 a d
  | 6, _ => by
    have e : ((((6 : Nat) : Int) + 1 : Int) : Rat) = (7 : Rat) := by decide
    rw [e]
    exact quad_6 a d
  | 7, _ => by
    have e : ((((7 : Nat) : Int) + 1 : Int) : Rat) = (8 : Rat) := by decide
    rw [e]
    exact quad_7 a d
  | 8, _ => by
    have e : ((((8 : Nat) : Int) + 1 : Int) : Rat) = (9 : Rat) := by decide
    rw [e]
    exact quad_8 a d
  | 9, _ => by
    have e : ((((9 : Nat) : Int) + 1 : Int) : Rat) = (10 : Rat) := by decide
    rw [e]
    exact quad_9 a d
  | 10, _ => by
    have e : ((((10 : Nat) : Int) + 1 : Int) : Rat) = (11 : Rat) := by decide
    rw [e]
    exact quad_10 a d
  | 11, _ => by
    have e : ((((11 : Nat) : Int) + 1 : Int) : Rat) = (12 : Rat) := by decide
    rw [e]
    exact quad_11 a d
  | 12, _ => by
    have e : ((((12 : Nat) : Int) + 1 : Int) : Rat) = (13 : Rat) := by decide
    rw [e]
    exact quad_12 a d
  | n + 13, h => absurd h (by omega)
theorem QN_pos : ∀ q ∈ QN, 0 < q.1 := by decide +kernel
theorem QN_nodup : (QN.map (·.2)).Nodup := by decide +kernel
end L

set_option Elab.async false
set_option linter.all false
set_option maxRecDepth 100000
set_option maxHeartbeats 4000000
namespace L
open PySem L2 Evl Wk StX
def top (i : Nat) : Stmt := PySem.Challenge.pw_fewreadings_k05_whole_degrees_that_rules.main.body.getD i (.Pass ⟨0, 0, 0, 0⟩)
/-! ### whole_within -/
abbrev s_whole_within : Stmt := top 10
theorem sc_whole_within : FnScope ["number", "low", "high"] ["number", "low", "high"] (defScope s_whole_within) := ⟨rfl, rfl, rfl, by decide +kernel, rfl, by decide +kernel, by decide +kernel⟩
def whole_within (number : Int) (low : Int) (high : Int) : Mm Bool := Mm.ok (true && ((!false) && ((decide (low ≤ number)) && (decide (number ≤ high)))))
def sp_whole_within (K : PySem.W.Frag) : Sp := fun vs H Q _ => ∃ (F : Hp) (number : Int) (low : Int) (high : Int), vs = [(V.int number), (V.int low), (V.int high)] ∧ Ex F H ∧ Post (whole_within number low high) (fun r => Ret [] F H (fun F' _ v => v = V.bl r) Q) (fun _ => False)
theorem ok_whole_within {P : Program} {w : World} {K : PySem.W.Frag} {mg : Str → Option Value} {base : Heap} {C f : Addr} {fd : FuncData} (B : Bi mg) (FF : FunD K "whole_within" "whole_within" (defArgs s_whole_within) (defBody s_whole_within) (defScope s_whole_within) [] [] f fd) : FnOk P w K mg base CX0 1 f fd ["number", "low", "high"] (sp_whole_within K) := by
  refine FF.ok sc_whole_within (fun vs H Q E h => ?_) (fun cdv A outer s H vs Q E hr h => ?_)
  · obtain ⟨F, number, low, high, rfl, _⟩ := h; rfl
  · obtain ⟨F, number, low, high, rfl, e, k⟩ := h
    unfold whole_within at k
    have g_ := Gm.refl (M := []) e
    refine ⟨_, PSs.nox (pss_one (ps_ret (pe_and (pe_callB call_isiI (by rfl) B.isinstance (by decide +kernel) (pa_cons (pv 0) (pa_cons (pe_bltn (v := .ty "int") (u := .type "int") (by rfl) B.int (by decide +kernel) rfl) pa_nil))) (pe_and (pe_not (pe_callB call_isiI (by rfl) B.isinstance (by decide +kernel) (pa_cons (pv 0) (pa_cons (pe_bltn (v := .ty "bool") (u := .type "bool") (by rfl) B.bool (by decide +kernel) rfl) pa_nil)))) (pe_one (pe_chain op_le op_le (pv 1) (pv 0) (pv 2))))))), ?_⟩
    refine ⟨_, rfl, _, _, true, rfl, .inl ⟨rfl, rfl⟩, _, rfl, ?_⟩
    refine andV_j (b := ((!false) && ((decide (low ≤ number)) && (decide (number ≤ high))))) (fun _ Q' q => ?_) ?_
    · refine ⟨_, rfl, _, _, false, rfl, .inr ⟨rfl, rfl⟩, _, rfl, _, rfl, ?_⟩
      refine andV_j (b := ((decide (low ≤ number)) && (decide (number ≤ high)))) (fun _ Q' q => ?_) ?_
      · refine ⟨_, rfl, _, rfl, _, _, rfl, rfl, _, rfl, ?_⟩
        refine chain_j (b := (decide (number ≤ high))) (fun _ Q' q => ?_) ?_
        · refine ⟨_, rfl, _, _, rfl, rfl, ?_⟩
          exact q
        exact q
      exact q
    exact k.h _ _ _ g_ rfl
/-! ### check_within -/
abbrev s_check_within : Stmt := top 11
theorem sc_check_within : FnScope ["number", "low", "high"] ["number", "low", "high"] (defScope s_check_within) := ⟨rfl, rfl, rfl, by decide +kernel, rfl, by decide +kernel, by decide +kernel⟩
def check_within (number : Int) (low : Int) (high : Int) : Mm Unit := (whole_within (number) (low) (high)).bd fun b1 => cond (!b1) (Mm.bad) (Mm.ok ())
def sp_check_within (K : PySem.W.Frag) : Sp := fun vs H Q _ => ∃ (F : Hp) (number : Int) (low : Int) (high : Int), vs = [(V.int number), (V.int low), (V.int high)] ∧ Ex F H ∧ Post (check_within number low high) (fun r => Ret [] F H (fun F' _ v => v = V.non) Q) (fun _ => False)
theorem ok_check_within {P : Program} {w : World} {K : PySem.W.Frag} {mg : Str → Option Value} {base : Heap} {C f : Addr} {fd : FuncData} (B : Bi mg) (FF : FunD K "check_within" "check_within" (defArgs s_check_within) (defBody s_check_within) (defScope s_check_within) [] [] f fd) (G_whole_within : Kn P w K mg base "whole_within" 1 ["number", "low", "high"] (sp_whole_within K)) : FnOk P w K mg base CX0 2 f fd ["number", "low", "high"] (sp_check_within K) := by
  refine FF.ok sc_check_within (fun vs H Q E h => ?_) (fun cdv A outer s H vs Q E hr h => ?_)
  · obtain ⟨F, number, low, high, rfl, _⟩ := h; rfl
  · obtain ⟨F, number, low, high, rfl, e, k⟩ := h
    unfold check_within at k
    have g_ := Gm.refl (M := []) e
    refine ⟨_, PSs.nox (pss_one (ps_if (pt_not (pt_val (pe_kn G_whole_within (hr.mono (by decide)) (pa_cons (pv 0) (pa_cons (pv 1) (pa_cons (pv 2) (pa_nil))))))) (pss_one ps_never) pss_nil)), ?_⟩
    refine ⟨_, rfl, _, rfl, _, rfl, ?_⟩
    refine ⟨F, number, low, high, rfl, e, (post_bd k).mono (fun b1 k v6 F2 H3 g4 r5 => ?_) (fun _ z => z)⟩
    have eF2 := g4.s
    have gF2 := g_.trans (g4.weak (by simp))
    subst r5
    refine ⟨_, rfl, ?_⟩
    refine cs k (fun _ k => ?_) (fun _ k => ?_)
    · exact k.elim
    · exact k.h _ _ _ gF2 rfl
/-! ### power_of -/
abbrev s_power_of : Stmt := top 12
theorem sc_power_of : FnScope ["base", "power", "result", "_"] ["base", "power"] (defScope s_power_of) := ⟨rfl, rfl, rfl, by decide +kernel, rfl, by decide +kernel, by decide +kernel⟩
def power_of (base : Int) (power : Int) : Mm Int := (rangeM power).bd fun l2 => (foldM (fun (b3 : Int) (x4 : Int) => (mulM b3 base).bd fun m22 => Mm.ok m22) (1 : Int) (rangeL 0 power.toNat)).bd fun b20 => Mm.ok b20
def sp_power_of (K : PySem.W.Frag) : Sp := fun vs H Q _ => ∃ (F : Hp) (base : Int) (power : Int), vs = [(V.int base), (V.int power)] ∧ Ex F H ∧ Post (power_of base power) (fun r => Ret [] F H (fun F' _ v => v = V.int r) Q) (fun _ => False)
theorem ok_power_of {P : Program} {w : World} {K : PySem.W.Frag} {mg : Str → Option Value} {base : Heap} {C f : Addr} {fd : FuncData} (B : Bi mg) (FF : FunD K "power_of" "power_of" (defArgs s_power_of) (defBody s_power_of) (defScope s_power_of) [] [] f fd) : FnOk P w K mg base CX0 1 f fd ["base", "power"] (sp_power_of K) := by
  refine FF.ok sc_power_of (fun vs H Q E h => ?_) (fun cdv A outer s H vs Q E hr h => ?_)
  · obtain ⟨F, base, power, rfl, _⟩ := h; rfl
  · obtain ⟨F, base, power, rfl, e, k⟩ := h
    unfold power_of at k
    have g_ := Gm.refl (M := []) e
    refine ⟨_, PSs.nox (pss_cons (ps_set (i := 2) sc_power_of.nd rfl (Or.inl rfl) (pe_int)) (pss_cons (ps_for PassesOwn.never rfl (pi_range1 rfl B.range (pa_cons (pv 1) (pa_nil))) (pg_name (i := 3) sc_power_of.nd rfl (Or.inl rfl)) (pss_one (ps_set (i := 2) sc_power_of.nd rfl (Or.inl rfl) (pe_op op_mulM (pv 2) (pv 0))))) (pss_one (ps_ret (pv 2))))), ?_⟩
    refine ⟨_, rfl, ?_⟩
    obtain ⟨h1, k⟩ := post_range k
    refine ⟨_, rfl, h1.1, h1.2, ?_⟩
    refine for_m (M := []) (F := F) wlk_range (fun b3 F' H' σ' => ∃ (u3 : Option V), σ' = [some (V.int base), some (V.int power), some (V.int b3), u3]) k e ⟨_, rfl⟩ (fun b3 x4 v12 σ14 F5 H6 F7 H8 g9 i13 g10 r11 nx kfb3 => ?_) (fun b20 σ19 F15 H16 g17 i18 k => ?_)
    · obtain ⟨u21, rfl⟩ := i13
      have eF7 := g10.s
      have gF7 := g9.trans (g10.weak (by simp))
      subst r11
      refine ⟨_, rfl, _, rfl, ?_⟩
      obtain ⟨m22, c23, q24, kfb3⟩ := post_mul kfb3
      refine ⟨_, _, _, rfl, rfl, c23, q24, ?_⟩
      exact kfb3.h _ _ _ gF7 ⟨_, rfl⟩
    have g25 := g_.trans (g17.weak (by simp))
    have eF15 := g17.s
    obtain ⟨u26, rfl⟩ := i18
    refine ⟨_, rfl, ?_⟩
    exact k.h _ _ _ g25 rfl
/-! ### lowest -/
abbrev s_lowest : Stmt := top 13
theorem sc_lowest : FnScope ["top", "bottom", "shared"] ["top", "bottom"] (defScope s_lowest) := ⟨rfl, rfl, rfl, by decide +kernel, rfl, by decide +kernel, by decide +kernel⟩
def lowest (top : Int) (bottom : Int) : Mm (Int × Int) := (cond (decide (bottom < (0 : Int))) (Mm.ok (-((Nat.gcd top.natAbs bottom.natAbs : Nat) : Int))) (Mm.ok ((Nat.gcd top.natAbs bottom.natAbs : Nat) : Int))).bd fun b1 => (divM top b1).bd fun m8 => (divM bottom b1).bd fun m11 => Mm.ok (m8, m11)
def sp_lowest (K : PySem.W.Frag) : Sp := fun vs H Q _ => ∃ (F : Hp) (top : Int) (bottom : Int), vs = [(V.int top), (V.int bottom)] ∧ Ex F H ∧ Post (lowest top bottom) (fun r => Ret [] F H (fun F' _ v => Dq K F' v ((e2 PyData.int PyData.int) r)) Q) (fun _ => False)
theorem ok_lowest {P : Program} {w : World} {K : PySem.W.Frag} {mg : Str → Option Value} {base : Heap} {C f : Addr} {fd : FuncData} (B : Bi mg) (FF : FunD K "lowest" "lowest" (defArgs s_lowest) (defBody s_lowest) (defScope s_lowest) [] [] f fd) (c_gcd : mg "gcd" = some (.builtin "math.gcd")) : FnOk P w K mg base CX0 1 f fd ["top", "bottom"] (sp_lowest K) := by
  refine FF.ok sc_lowest (fun vs H Q E h => ?_) (fun cdv A outer s H vs Q E hr h => ?_)
  · obtain ⟨F, top, bottom, rfl, _⟩ := h; rfl
  · obtain ⟨F, top, bottom, rfl, e, k⟩ := h
    unfold lowest at k
    have g_ := Gm.refl (M := []) e
    refine ⟨_, PSs.nox (pss_cons (ps_set (i := 2) sc_lowest.nd rfl (Or.inl rfl) (pe_callBfun cr_gcd (by rfl) c_gcd (pa_cons (pv 0) (pa_cons (pv 1) (pa_nil))))) (pss_cons (ps_if (pt_cmpR op_lt (pv 1) (pe_int) (nomark _)) (pss_one (ps_set (i := 2) sc_lowest.nd rfl (Or.inl rfl) (pe_un un_neg (pv 2)))) (pss_nil)) (pss_one (ps_ret (pe_q (pe_tup (pa_cons (pe_op op_divM (pv 0) (pv 2)) (pa_cons (pe_op op_divM (pv 1) (pv 2)) (pa_nil))))))))), ?_⟩
    refine ⟨_, rfl, _, rfl, _, _, rfl, ?_⟩
    refine ⟨_, rfl, _, _, rfl, rfl, _, rfl, ?_⟩
    refine ifs_jM (M := []) (F := F) (fun b1 F' H' σ' => σ' = [some (V.int top), some (V.int bottom), some (V.int b1)]) k (fun _ nx kjb1 => ?_) (fun _ nx kjb1 => ?_) (fun b1 σ5 F2 H3 g4 i6 k => ?_)
    · have gF_ := Gm.refl (M := []) e
      refine ⟨_, rfl, _, rfl, ?_⟩
      exact kjb1.h _ _ _ gF_ rfl
    · have gF_ := Gm.refl (M := []) e
      exact kjb1.h _ _ _ gF_ rfl
    have g7 := g_.trans (g4.weak (by simp))
    have eF2 := g4.s
    obtain rfl := i6
    refine ⟨_, rfl, _, rfl, ?_⟩
    obtain ⟨m8, c9, q10, k⟩ := post_div k
    refine ⟨_, _, _, rfl, rfl, c9, q10, _, rfl, _, rfl, ?_⟩
    obtain ⟨m11, c12, q13, k⟩ := post_div k
    refine ⟨_, _, _, rfl, rfl, c12, q13, ?_⟩
    show _ ∧ _
    refine new_tup (K := K) (M := []) eF2 (.cons (Dq.int m8) (.cons (Dq.int m11) .nil)) (by show 2 ≤ 100000; decide) fun v18 F14 H15 g16 r17 => ?_
    have eF14 := g16.s
    have gF14 := g7.trans (g16.weak (by simp))
    replace r17 : Dq K F14 v18 ((e2 PyData.int PyData.int) (m8, m11)) := r17
    exact k.h _ _ _ gF14 r17
/-! ### plus -/
abbrev s_plus : Stmt := top 14
theorem sc_plus : FnScope ["one", "other"] ["one", "other"] (defScope s_plus) := ⟨rfl, rfl, rfl, by decide +kernel, rfl, by decide +kernel, by decide +kernel⟩
def plus (one : (Int × Int)) (other : (Int × Int)) : Mm (Int × Int) := (mulM one.1 other.2).bd fun m13 => (mulM other.1 one.2).bd fun m16 => (mulM one.2 other.2).bd fun m19 => (lowest ((m13 + m16)) (m19)).bd fun b22 => Mm.ok b22
def sp_plus (K : PySem.W.Frag) : Sp := fun vs H Q _ => ∃ (F : Hp) (v_one : V) (one : (Int × Int)) (v_other : V) (other : (Int × Int)), vs = [v_one, v_other] ∧ Ex F H ∧ Dq K F v_one ((e2 PyData.int PyData.int) one) ∧ Dq K F v_other ((e2 PyData.int PyData.int) other) ∧ Post (plus one other) (fun r => Ret [] F H (fun F' _ v => Dq K F' v ((e2 PyData.int PyData.int) r)) Q) (fun _ => False)
theorem ok_plus {P : Program} {w : World} {K : PySem.W.Frag} {mg : Str → Option Value} {base : Heap} {C f : Addr} {fd : FuncData} (B : Bi mg) (FF : FunD K "plus" "plus" (defArgs s_plus) (defBody s_plus) (defScope s_plus) [] [] f fd) (G_lowest : Kn P w K mg base "lowest" 1 ["top", "bottom"] (sp_lowest K)) : FnOk P w K mg base CX0 2 f fd ["one", "other"] (sp_plus K) := by
  refine FF.ok sc_plus (fun vs H Q E h => ?_) (fun cdv A outer s H vs Q E hr h => ?_)
  · obtain ⟨F, v_one, one, v_other, other, rfl, _⟩ := h; rfl
  · obtain ⟨F, v_one, one, v_other, other, rfl, e, r_one, r_other, k⟩ := h
    unfold plus at k
    have g_ := Gm.refl (M := []) e
    refine ⟨_, PSs.nox (pss_one (ps_ret (pe_kn G_lowest (hr.mono (by decide)) (pa_cons (pe_op op_add (pe_op op_mulM (pe_ix (r := rIxT K) ix_tup (pv 0) (pe_int) (fun _ _ => rfl)) (pe_ix (r := rIxT K) ix_tup (pv 1) (pe_int) (fun _ _ => rfl))) (pe_op op_mulM (pe_ix (r := rIxT K) ix_tup (pv 1) (pe_int) (fun _ _ => rfl)) (pe_ix (r := rIxT K) ix_tup (pv 0) (pe_int) (fun _ _ => rfl)))) (pa_cons (pe_op op_mulM (pe_ix (r := rIxT K) ix_tup (pv 0) (pe_int) (fun _ _ => rfl)) (pe_ix (r := rIxT K) ix_tup (pv 1) (pe_int) (fun _ _ => rfl))) (pa_nil)))))), ?_⟩
    refine ⟨_, rfl, ?_⟩
    obtain ⟨p1, x2, x3, rfl, s4, d5, d6⟩ := dp_tup2 r_one
    obtain rfl := dp_int d5
    obtain rfl := dp_int d6
    refine ⟨_, _, _, _, rfl, rfl, ex_t e s4, rfl, _, rfl, ?_⟩
    obtain ⟨p7, x8, x9, rfl, s10, d11, d12⟩ := dp_tup2 r_other
    obtain rfl := dp_int d11
    obtain rfl := dp_int d12
    refine ⟨_, _, _, _, rfl, rfl, ex_t e s10, rfl, ?_⟩
    obtain ⟨m13, c14, q15, k⟩ := post_mul k
    refine ⟨_, _, _, rfl, rfl, c14, q15, _, rfl, ?_⟩
    refine ⟨_, _, _, _, rfl, rfl, ex_t e s10, rfl, _, rfl, ?_⟩
    refine ⟨_, _, _, _, rfl, rfl, ex_t e s4, rfl, ?_⟩
    obtain ⟨m16, c17, q18, k⟩ := post_mul k
    refine ⟨_, _, _, rfl, rfl, c17, q18, _, _, rfl, rfl, _, rfl, ?_⟩
    refine ⟨_, _, _, _, rfl, rfl, ex_t e s4, rfl, _, rfl, ?_⟩
    refine ⟨_, _, _, _, rfl, rfl, ex_t e s10, rfl, ?_⟩
    obtain ⟨m19, c20, q21, k⟩ := post_mul k
    refine ⟨_, _, _, rfl, rfl, c20, q21, ?_⟩
    refine ⟨F, (m13 + m16), m19, rfl, e, (post_bd k).mono (fun b22 k v27 F23 H24 g25 r26 => ?_) (fun _ z => z)⟩
    have eF23 := g25.s
    have gF23 := g_.trans (g25.weak (by simp))
    replace r_one := r_one.up g25.f
    replace r_other := r_other.up g25.f
    replace s4 := ex_t g25.f s4
    replace s10 := ex_t g25.f s10
    exact k.h _ _ _ gF23 r26
/-! ### minus -/
abbrev s_minus : Stmt := top 15
theorem sc_minus : FnScope ["one", "other"] ["one", "other"] (defScope s_minus) := ⟨rfl, rfl, rfl, by decide +kernel, rfl, by decide +kernel, by decide +kernel⟩
def minus (one : (Int × Int)) (other : (Int × Int)) : Mm (Int × Int) := (mulM one.1 other.2).bd fun m13 => (mulM other.1 one.2).bd fun m16 => (mulM one.2 other.2).bd fun m19 => (lowest ((m13 - m16)) (m19)).bd fun b22 => Mm.ok b22
def sp_minus (K : PySem.W.Frag) : Sp := fun vs H Q _ => ∃ (F : Hp) (v_one : V) (one : (Int × Int)) (v_other : V) (other : (Int × Int)), vs = [v_one, v_other] ∧ Ex F H ∧ Dq K F v_one ((e2 PyData.int PyData.int) one) ∧ Dq K F v_other ((e2 PyData.int PyData.int) other) ∧ Post (minus one other) (fun r => Ret [] F H (fun F' _ v => Dq K F' v ((e2 PyData.int PyData.int) r)) Q) (fun _ => False)
theorem ok_minus {P : Program} {w : World} {K : PySem.W.Frag} {mg : Str → Option Value} {base : Heap} {C f : Addr} {fd : FuncData} (B : Bi mg) (FF : FunD K "minus" "minus" (defArgs s_minus) (defBody s_minus) (defScope s_minus) [] [] f fd) (G_lowest : Kn P w K mg base "lowest" 1 ["top", "bottom"] (sp_lowest K)) : FnOk P w K mg base CX0 2 f fd ["one", "other"] (sp_minus K) := by
  refine FF.ok sc_minus (fun vs H Q E h => ?_) (fun cdv A outer s H vs Q E hr h => ?_)
  · obtain ⟨F, v_one, one, v_other, other, rfl, _⟩ := h; rfl
  · obtain ⟨F, v_one, one, v_other, other, rfl, e, r_one, r_other, k⟩ := h
    unfold minus at k
    have g_ := Gm.refl (M := []) e
    refine ⟨_, PSs.nox (pss_one (ps_ret (pe_kn G_lowest (hr.mono (by decide)) (pa_cons (pe_op op_sub (pe_op op_mulM (pe_ix (r := rIxT K) ix_tup (pv 0) (pe_int) (fun _ _ => rfl)) (pe_ix (r := rIxT K) ix_tup (pv 1) (pe_int) (fun _ _ => rfl))) (pe_op op_mulM (pe_ix (r := rIxT K) ix_tup (pv 1) (pe_int) (fun _ _ => rfl)) (pe_ix (r := rIxT K) ix_tup (pv 0) (pe_int) (fun _ _ => rfl)))) (pa_cons (pe_op op_mulM (pe_ix (r := rIxT K) ix_tup (pv 0) (pe_int) (fun _ _ => rfl)) (pe_ix (r := rIxT K) ix_tup (pv 1) (pe_int) (fun _ _ => rfl))) (pa_nil)))))), ?_⟩
    refine ⟨_, rfl, ?_⟩
    obtain ⟨p1, x2, x3, rfl, s4, d5, d6⟩ := dp_tup2 r_one
    obtain rfl := dp_int d5
    obtain rfl := dp_int d6
    refine ⟨_, _, _, _, rfl, rfl, ex_t e s4, rfl, _, rfl, ?_⟩
    obtain ⟨p7, x8, x9, rfl, s10, d11, d12⟩ := dp_tup2 r_other
    obtain rfl := dp_int d11
    obtain rfl := dp_int d12
    refine ⟨_, _, _, _, rfl, rfl, ex_t e s10, rfl, ?_⟩
    obtain ⟨m13, c14, q15, k⟩ := post_mul k
    refine ⟨_, _, _, rfl, rfl, c14, q15, _, rfl, ?_⟩
    refine ⟨_, _, _, _, rfl, rfl, ex_t e s10, rfl, _, rfl, ?_⟩
    refine ⟨_, _, _, _, rfl, rfl, ex_t e s4, rfl, ?_⟩
    obtain ⟨m16, c17, q18, k⟩ := post_mul k
    refine ⟨_, _, _, rfl, rfl, c17, q18, _, _, rfl, rfl, _, rfl, ?_⟩
    refine ⟨_, _, _, _, rfl, rfl, ex_t e s4, rfl, _, rfl, ?_⟩
    refine ⟨_, _, _, _, rfl, rfl, ex_t e s10, rfl, ?_⟩
    obtain ⟨m19, c20, q21, k⟩ := post_mul k
    refine ⟨_, _, _, rfl, rfl, c20, q21, ?_⟩
    refine ⟨F, (m13 - m16), m19, rfl, e, (post_bd k).mono (fun b22 k v27 F23 H24 g25 r26 => ?_) (fun _ z => z)⟩
    have eF23 := g25.s
    have gF23 := g_.trans (g25.weak (by simp))
    replace r_one := r_one.up g25.f
    replace r_other := r_other.up g25.f
    replace s4 := ex_t g25.f s4
    replace s10 := ex_t g25.f s10
    exact k.h _ _ _ gF23 r26
/-! ### times -/
abbrev s_times : Stmt := top 16
theorem sc_times : FnScope ["one", "other"] ["one", "other"] (defScope s_times) := ⟨rfl, rfl, rfl, by decide +kernel, rfl, by decide +kernel, by decide +kernel⟩
def times (one : (Int × Int)) (other : (Int × Int)) : Mm (Int × Int) := (mulM one.1 other.1).bd fun m13 => (mulM one.2 other.2).bd fun m16 => (lowest (m13) (m16)).bd fun b19 => Mm.ok b19
def sp_times (K : PySem.W.Frag) : Sp := fun vs H Q _ => ∃ (F : Hp) (v_one : V) (one : (Int × Int)) (v_other : V) (other : (Int × Int)), vs = [v_one, v_other] ∧ Ex F H ∧ Dq K F v_one ((e2 PyData.int PyData.int) one) ∧ Dq K F v_other ((e2 PyData.int PyData.int) other) ∧ Post (times one other) (fun r => Ret [] F H (fun F' _ v => Dq K F' v ((e2 PyData.int PyData.int) r)) Q) (fun _ => False)
theorem ok_times {P : Program} {w : World} {K : PySem.W.Frag} {mg : Str → Option Value} {base : Heap} {C f : Addr} {fd : FuncData} (B : Bi mg) (FF : FunD K "times" "times" (defArgs s_times) (defBody s_times) (defScope s_times) [] [] f fd) (G_lowest : Kn P w K mg base "lowest" 1 ["top", "bottom"] (sp_lowest K)) : FnOk P w K mg base CX0 2 f fd ["one", "other"] (sp_times K) := by
  refine FF.ok sc_times (fun vs H Q E h => ?_) (fun cdv A outer s H vs Q E hr h => ?_)
  · obtain ⟨F, v_one, one, v_other, other, rfl, _⟩ := h; rfl
  · obtain ⟨F, v_one, one, v_other, other, rfl, e, r_one, r_other, k⟩ := h
    unfold times at k
    have g_ := Gm.refl (M := []) e
    refine ⟨_, PSs.nox (pss_one (ps_ret (pe_kn G_lowest (hr.mono (by decide)) (pa_cons (pe_op op_mulM (pe_ix (r := rIxT K) ix_tup (pv 0) (pe_int) (fun _ _ => rfl)) (pe_ix (r := rIxT K) ix_tup (pv 1) (pe_int) (fun _ _ => rfl))) (pa_cons (pe_op op_mulM (pe_ix (r := rIxT K) ix_tup (pv 0) (pe_int) (fun _ _ => rfl)) (pe_ix (r := rIxT K) ix_tup (pv 1) (pe_int) (fun _ _ => rfl))) (pa_nil)))))), ?_⟩
    refine ⟨_, rfl, ?_⟩
    obtain ⟨p1, x2, x3, rfl, s4, d5, d6⟩ := dp_tup2 r_one
    obtain rfl := dp_int d5
    obtain rfl := dp_int d6
    refine ⟨_, _, _, _, rfl, rfl, ex_t e s4, rfl, _, rfl, ?_⟩
    obtain ⟨p7, x8, x9, rfl, s10, d11, d12⟩ := dp_tup2 r_other
    obtain rfl := dp_int d11
    obtain rfl := dp_int d12
    refine ⟨_, _, _, _, rfl, rfl, ex_t e s10, rfl, ?_⟩
    obtain ⟨m13, c14, q15, k⟩ := post_mul k
    refine ⟨_, _, _, rfl, rfl, c14, q15, _, rfl, ?_⟩
    refine ⟨_, _, _, _, rfl, rfl, ex_t e s4, rfl, _, rfl, ?_⟩
    refine ⟨_, _, _, _, rfl, rfl, ex_t e s10, rfl, ?_⟩
    obtain ⟨m16, c17, q18, k⟩ := post_mul k
    refine ⟨_, _, _, rfl, rfl, c17, q18, ?_⟩
    refine ⟨F, m13, m16, rfl, e, (post_bd k).mono (fun b19 k v24 F20 H21 g22 r23 => ?_) (fun _ z => z)⟩
    have eF20 := g22.s
    have gF20 := g_.trans (g22.weak (by simp))
    replace r_one := r_one.up g22.f
    replace r_other := r_other.up g22.f
    replace s4 := ex_t g22.f s4
    replace s10 := ex_t g22.f s10
    exact k.h _ _ _ gF20 r23
/-! ### over -/
abbrev s_over : Stmt := top 17
theorem sc_over : FnScope ["one", "other"] ["one", "other"] (defScope s_over) := ⟨rfl, rfl, rfl, by decide +kernel, rfl, by decide +kernel, by decide +kernel⟩
def over (one : (Int × Int)) (other : (Int × Int)) : Mm (Int × Int) := (mulM one.1 other.2).bd fun m13 => (mulM one.2 other.1).bd fun m16 => (lowest (m13) (m16)).bd fun b19 => Mm.ok b19
def sp_over (K : PySem.W.Frag) : Sp := fun vs H Q _ => ∃ (F : Hp) (v_one : V) (one : (Int × Int)) (v_other : V) (other : (Int × Int)), vs = [v_one, v_other] ∧ Ex F H ∧ Dq K F v_one ((e2 PyData.int PyData.int) one) ∧ Dq K F v_other ((e2 PyData.int PyData.int) other) ∧ Post (over one other) (fun r => Ret [] F H (fun F' _ v => Dq K F' v ((e2 PyData.int PyData.int) r)) Q) (fun _ => False)
theorem ok_over {P : Program} {w : World} {K : PySem.W.Frag} {mg : Str → Option Value} {base : Heap} {C f : Addr} {fd : FuncData} (B : Bi mg) (FF : FunD K "over" "over" (defArgs s_over) (defBody s_over) (defScope s_over) [] [] f fd) (G_lowest : Kn P w K mg base "lowest" 1 ["top", "bottom"] (sp_lowest K)) : FnOk P w K mg base CX0 2 f fd ["one", "other"] (sp_over K) := by
  refine FF.ok sc_over (fun vs H Q E h => ?_) (fun cdv A outer s H vs Q E hr h => ?_)
  · obtain ⟨F, v_one, one, v_other, other, rfl, _⟩ := h; rfl
  · obtain ⟨F, v_one, one, v_other, other, rfl, e, r_one, r_other, k⟩ := h
    unfold over at k
    have g_ := Gm.refl (M := []) e
    refine ⟨_, PSs.nox (pss_one (ps_ret (pe_kn G_lowest (hr.mono (by decide)) (pa_cons (pe_op op_mulM (pe_ix (r := rIxT K) ix_tup (pv 0) (pe_int) (fun _ _ => rfl)) (pe_ix (r := rIxT K) ix_tup (pv 1) (pe_int) (fun _ _ => rfl))) (pa_cons (pe_op op_mulM (pe_ix (r := rIxT K) ix_tup (pv 0) (pe_int) (fun _ _ => rfl)) (pe_ix (r := rIxT K) ix_tup (pv 1) (pe_int) (fun _ _ => rfl))) (pa_nil)))))), ?_⟩
    refine ⟨_, rfl, ?_⟩
    obtain ⟨p1, x2, x3, rfl, s4, d5, d6⟩ := dp_tup2 r_one
    obtain rfl := dp_int d5
    obtain rfl := dp_int d6
    refine ⟨_, _, _, _, rfl, rfl, ex_t e s4, rfl, _, rfl, ?_⟩
    obtain ⟨p7, x8, x9, rfl, s10, d11, d12⟩ := dp_tup2 r_other
    obtain rfl := dp_int d11
    obtain rfl := dp_int d12
    refine ⟨_, _, _, _, rfl, rfl, ex_t e s10, rfl, ?_⟩
    obtain ⟨m13, c14, q15, k⟩ := post_mul k
    refine ⟨_, _, _, rfl, rfl, c14, q15, _, rfl, ?_⟩
    refine ⟨_, _, _, _, rfl, rfl, ex_t e s4, rfl, _, rfl, ?_⟩
    refine ⟨_, _, _, _, rfl, rfl, ex_t e s10, rfl, ?_⟩
    obtain ⟨m16, c17, q18, k⟩ := post_mul k
    refine ⟨_, _, _, rfl, rfl, c17, q18, ?_⟩
    refine ⟨F, m13, m16, rfl, e, (post_bd k).mono (fun b19 k v24 F20 H21 g22 r23 => ?_) (fun _ z => z)⟩
    have eF20 := g22.s
    have gF20 := g_.trans (g22.weak (by simp))
    replace r_one := r_one.up g22.f
    replace r_other := r_other.up g22.f
    replace s4 := ex_t g22.f s4
    replace s10 := ex_t g22.f s10
    exact k.h _ _ _ gF20 r23
/-! ### is_less -/
abbrev s_is_less : Stmt := top 18
theorem sc_is_less : FnScope ["one", "other"] ["one", "other"] (defScope s_is_less) := ⟨rfl, rfl, rfl, by decide +kernel, rfl, by decide +kernel, by decide +kernel⟩
def is_less (one : (Int × Int)) (other : (Int × Int)) : Mm Bool := (mulM one.1 other.2).bd fun m13 => (mulM other.1 one.2).bd fun m16 => Mm.ok (decide (m13 < m16))
def sp_is_less (K : PySem.W.Frag) : Sp := fun vs H Q _ => ∃ (F : Hp) (v_one : V) (one : (Int × Int)) (v_other : V) (other : (Int × Int)), vs = [v_one, v_other] ∧ Ex F H ∧ Dq K F v_one ((e2 PyData.int PyData.int) one) ∧ Dq K F v_other ((e2 PyData.int PyData.int) other) ∧ Post (is_less one other) (fun r => Ret [] F H (fun F' _ v => v = V.bl r) Q) (fun _ => False)
theorem ok_is_less {P : Program} {w : World} {K : PySem.W.Frag} {mg : Str → Option Value} {base : Heap} {C f : Addr} {fd : FuncData} (B : Bi mg) (FF : FunD K "is_less" "is_less" (defArgs s_is_less) (defBody s_is_less) (defScope s_is_less) [] [] f fd) : FnOk P w K mg base CX0 1 f fd ["one", "other"] (sp_is_less K) := by
  refine FF.ok sc_is_less (fun vs H Q E h => ?_) (fun cdv A outer s H vs Q E hr h => ?_)
  · obtain ⟨F, v_one, one, v_other, other, rfl, _⟩ := h; rfl
  · obtain ⟨F, v_one, one, v_other, other, rfl, e, r_one, r_other, k⟩ := h
    unfold is_less at k
    have g_ := Gm.refl (M := []) e
    refine ⟨_, PSs.nox (pss_one (ps_ret (pe_cmpR op_lt (pe_op op_mulM (pe_ix (r := rIxT K) ix_tup (pv 0) (pe_int) (fun _ _ => rfl)) (pe_ix (r := rIxT K) ix_tup (pv 1) (pe_int) (fun _ _ => rfl))) (pe_op op_mulM (pe_ix (r := rIxT K) ix_tup (pv 1) (pe_int) (fun _ _ => rfl)) (pe_ix (r := rIxT K) ix_tup (pv 0) (pe_int) (fun _ _ => rfl))) (nomark _)))), ?_⟩
    refine ⟨_, rfl, ?_⟩
    obtain ⟨p1, x2, x3, rfl, s4, d5, d6⟩ := dp_tup2 r_one
    obtain rfl := dp_int d5
    obtain rfl := dp_int d6
    refine ⟨_, _, _, _, rfl, rfl, ex_t e s4, rfl, _, rfl, ?_⟩
    obtain ⟨p7, x8, x9, rfl, s10, d11, d12⟩ := dp_tup2 r_other
    obtain rfl := dp_int d11
    obtain rfl := dp_int d12
    refine ⟨_, _, _, _, rfl, rfl, ex_t e s10, rfl, ?_⟩
    obtain ⟨m13, c14, q15, k⟩ := post_mul k
    refine ⟨_, _, _, rfl, rfl, c14, q15, _, rfl, ?_⟩
    refine ⟨_, _, _, _, rfl, rfl, ex_t e s10, rfl, _, rfl, ?_⟩
    refine ⟨_, _, _, _, rfl, rfl, ex_t e s4, rfl, ?_⟩
    obtain ⟨m16, c17, q18, k⟩ := post_mul k
    refine ⟨_, _, _, rfl, rfl, c17, q18, _, _, rfl, rfl, ?_⟩
    exact k.h _ _ _ g_ rfl
/-! ### added_up -/
abbrev s_added_up : Stmt := top 19
theorem sc_added_up : FnScope ["fractions", "result", "fraction"] ["fractions"] (defScope s_added_up) := ⟨rfl, rfl, rfl, by decide +kernel, rfl, by decide +kernel, by decide +kernel⟩
def added_up (fractions : (List (Int × Int))) : Mm (Int × Int) := (foldM (fun (b5 : (Int × Int)) (x6 : (Int × Int)) => (plus (b5) (x6)).bd fun b26 => Mm.ok b26) ((0, 1) : (Int × Int)) fractions).bd fun b22 => Mm.ok b22
def sp_added_up (K : PySem.W.Frag) : Sp := fun vs H Q _ => ∃ (F : Hp) (v_fractions : V) (fractions : (List (Int × Int))), vs = [v_fractions] ∧ Ex F H ∧ Dq K F v_fractions ((eL (e2 PyData.int PyData.int)) fractions) ∧ Post (added_up fractions) (fun r => Ret [] F H (fun F' _ v => Dq K F' v ((e2 PyData.int PyData.int) r)) Q) (fun _ => False)
theorem ok_added_up {P : Program} {w : World} {K : PySem.W.Frag} {mg : Str → Option Value} {base : Heap} {C f : Addr} {fd : FuncData} (B : Bi mg) (FF : FunD K "added_up" "added_up" (defArgs s_added_up) (defBody s_added_up) (defScope s_added_up) [] [] f fd) (G_plus : Kn P w K mg base "plus" 2 ["one", "other"] (sp_plus K)) {a_NOUGHT : Addr} (c_NOUGHT : mg "NOUGHT" = some (.ref a_NOUGHT)) (d_NOUGHT : ∀ F, Dq K F (.ref a_NOUGHT) ((e2 PyData.int PyData.int) (0, 1))) : FnOk P w K mg base CX0 3 f fd ["fractions"] (sp_added_up K) := by
  refine FF.ok sc_added_up (fun vs H Q E h => ?_) (fun cdv A outer s H vs Q E hr h => ?_)
  · obtain ⟨F, v_fractions, fractions, rfl, _⟩ := h; rfl
  · obtain ⟨F, v_fractions, fractions, rfl, e, r_fractions, k⟩ := h
    unfold added_up at k
    have g_ := Gm.refl (M := []) e
    refine ⟨_, PSs.nox (pss_cons (ps_set (i := 1) sc_added_up.nd rfl (Or.inl rfl) (pe_gref c_NOUGHT)) (pss_cons (ps_for PassesOwn.never rfl (pi_list (pv 0)) (pg_name (i := 2) sc_added_up.nd rfl (Or.inl rfl)) (pss_one (ps_set (i := 1) sc_added_up.nd rfl (Or.inl rfl) (pe_kn G_plus (hr.mono (by decide)) (pa_cons (pv 1) (pa_cons (pv 2) (pa_nil))))))) (pss_one (ps_ret (pv 1))))), ?_⟩
    refine ⟨_, rfl, ?_⟩
    obtain ⟨p1, xs2, rfl, s3, a4⟩ := dp_lst r_fractions
    refine ⟨_, rfl, ⟨_, (sq_of (e _ _ s3))⟩, ?_⟩
    refine for_m (M := []) (F := F) (wlk_list e s3 a4) (fun b5 F' H' σ' => ∃ (c1 : V) (u2 : Option V), σ' = [some (V.ref p1), some c1, u2] ∧ Dq K F' c1 ((e2 PyData.int PyData.int) b5)) k e ⟨_, _, rfl, (d_NOUGHT F)⟩ (fun b5 x6 v14 σ16 F7 H8 F9 H10 g11 i15 g12 r13 nx kfb5 => ?_) (fun b22 σ21 F17 H18 g19 i20 k => ?_)
    · replace r_fractions := r_fractions.up g11.f
      replace s3 := g11.f _ _ s3
      replace a4 := a4.up g11.f
      obtain ⟨c23, u24, rfl, r25⟩ := i15
      replace r_fractions := r_fractions.up g12.f
      replace s3 := g12.f _ _ s3
      replace a4 := a4.up g12.f
      replace r25 := r25.up g12.f
      have eF9 := g12.s
      have gF9 := g11.trans (g12.weak (by simp))
      refine ⟨_, rfl, _, rfl, ?_⟩
      refine ⟨F9, _, b5, _, x6, rfl, eF9, r25, r13, (post_bd kfb5).mono (fun b26 kfb5 v31 F27 H28 g29 r30 => ?_) (fun _ z => z)⟩
      have eF27 := g29.s
      have gF27 := gF9.trans (g29.weak (by simp))
      replace r_fractions := r_fractions.up g29.f
      replace s3 := g29.f _ _ s3
      replace a4 := a4.up g29.f
      replace r25 := r25.up g29.f
      replace r13 := r13.up g29.f
      exact kfb5.h _ _ _ gF27 ⟨_, _, rfl, r30⟩
    have g33 := g_.trans (g19.weak (by simp))
    replace r_fractions := r_fractions.up g19.f
    replace s3 := g19.f _ _ s3
    replace a4 := a4.up g19.f
    have eF17 := g19.s
    obtain ⟨c34, u35, rfl, r36⟩ := i20
    refine ⟨_, rfl, ?_⟩
    exact k.h _ _ _ g33 r36
/-! ### with_root -/
abbrev s_with_root : Stmt := top 20
theorem sc_with_root : FnScope ["polynomial", "place", "raised", "shrunk", "one", "other", "coefficient"] ["polynomial", "place"] (defScope s_with_root) := ⟨rfl, rfl, rfl, by decide +kernel, rfl, by decide +kernel, by decide +kernel⟩
def with_root (polynomial : (List (Int × Int))) (place : (Int × Int)) : Mm (List (Int × Int)) := (guardM ([((0, 1) : (Int × Int))].length + polynomial.length ≤ 100000)).bd fun _ => (guardM (polynomial.length ≤ 50000)).bd fun _ => (mapMm (fun (x13 : (Int × Int)) => (times (x13) (place)).bd fun b32 => Mm.ok b32) polynomial).bd fun b12 => (guardM (b12.length + [((0, 1) : (Int × Int))].length ≤ 100000)).bd fun _ => (guardM ((([((0, 1) : (Int × Int))] ++ polynomial).zip (b12 ++ [((0, 1) : (Int × Int))])).length ≤ 50000)).bd fun _ => (mapMm (fun (x70 : ((Int × Int) × (Int × Int))) => (minus (x70.1) (x70.2)).bd fun b95 => Mm.ok b95) (([((0, 1) : (Int × Int))] ++ polynomial).zip (b12 ++ [((0, 1) : (Int × Int))]))).bd fun b69 => Mm.ok b69
def sp_with_root (K : PySem.W.Frag) : Sp := fun vs H Q _ => ∃ (F : Hp) (v_polynomial : V) (polynomial : (List (Int × Int))) (v_place : V) (place : (Int × Int)), vs = [v_polynomial, v_place] ∧ Ex F H ∧ Dq K F v_polynomial ((eL (e2 PyData.int PyData.int)) polynomial) ∧ Dq K F v_place ((e2 PyData.int PyData.int) place) ∧ Post (with_root polynomial place) (fun r => Ret [] F H (fun F' _ v => Dq K F' v ((eL (e2 PyData.int PyData.int)) r)) Q) (fun _ => False)
theorem ok_with_root {P : Program} {w : World} {K : PySem.W.Frag} {mg : Str → Option Value} {base : Heap} {C f : Addr} {fd : FuncData} (B : Bi mg) (FF : FunD K "with_root" "with_root" (defArgs s_with_root) (defBody s_with_root) (defScope s_with_root) [] [] f fd) (G_times : Kn P w K mg base "times" 2 ["one", "other"] (sp_times K)) (G_minus : Kn P w K mg base "minus" 2 ["one", "other"] (sp_minus K)) {a_NOUGHT : Addr} (c_NOUGHT : mg "NOUGHT" = some (.ref a_NOUGHT)) (d_NOUGHT : ∀ F, Dq K F (.ref a_NOUGHT) ((e2 PyData.int PyData.int) (0, 1))) : FnOk P w K mg base CX0 3 f fd ["polynomial", "place"] (sp_with_root K) := by
  refine FF.ok sc_with_root (fun vs H Q E h => ?_) (fun cdv A outer s H vs Q E hr h => ?_)
  · obtain ⟨F, v_polynomial, polynomial, v_place, place, rfl, _⟩ := h; rfl
  · obtain ⟨F, v_polynomial, polynomial, v_place, place, rfl, e, r_polynomial, r_place, k⟩ := h
    unfold with_root at k
    have g_ := Gm.refl (M := []) e
    refine ⟨_, PSs.nox (pss_cons (ps_set (i := 2) sc_with_root.nd rfl (Or.inl rfl) (pe_q (pe_lst (pa_cons (pe_gref c_NOUGHT) (pa_star (pv 0) pa_nil))))) (pss_cons (ps_set (i := 3) sc_with_root.nd rfl (Or.inl rfl) (pe_q (pe_op op_cat (pe_q (pe_lc (own := [("coefficient", 6)]) (g := gName 6) rfl sc_with_root.nd (pi_list (pv 0)) (blkOk_by (N := ["polynomial", "place", "raised", "shrunk", "one", "other", "coefficient"]) (sc := defScope s_with_root) (by decide +kernel)) (fun _ _ _ _ _ => pg_name (i := 6) sc_with_root.nd rfl (Or.inl rfl)) (fun _ _ _ _ _ => pts_nil) (fun _ _ _ _ _ => pe_kn G_times (hr.mono (by decide)) (pa_cons (pv 6) (pa_cons (pv 1) (pa_nil)))))) (pe_q (pe_lst (pa_cons (pe_gref c_NOUGHT) (pa_nil))))))) (pss_one (ps_ret (pe_q (pe_lc (own := [("one", 4), ("other", 5)]) (g := gTup K 2 (gCons (gName 4) (gCons (gName 5) gNil))) rfl sc_with_root.nd (pi_zip rfl B.zip (pa_cons (pv 2) (pa_cons (pv 3) (pa_nil)))) (blkOk_by (N := ["polynomial", "place", "raised", "shrunk", "one", "other", "coefficient"]) (sc := defScope s_with_root) (by decide +kernel)) (fun _ _ _ _ _ => pg_tup (by rfl) (pgs_cons (pg_name (i := 4) sc_with_root.nd rfl (Or.inl rfl)) (pgs_cons (pg_name (i := 5) sc_with_root.nd rfl (Or.inl rfl)) (pgs_nil)))) (fun _ _ _ _ _ => pts_nil) (fun _ _ _ _ _ => pe_kn G_minus (hr.mono (by decide)) (pa_cons (pv 4) (pa_cons (pv 5) (pa_nil)))))))))), ?_⟩
    refine ⟨_, rfl, ?_⟩
    obtain ⟨p1, xs2, rfl, s3, a4⟩ := dp_lst r_polynomial
    refine ⟨_, _, rfl, .inr (sq_of (e _ _ s3)), ?_⟩
    obtain ⟨h5, k⟩ := post_guard k
    show _ ∧ _
    refine new_star (K := K) (M := []) (en := (e2 PyData.int PyData.int)) (pre := [(V.ref a_NOUGHT)]) (pm := [((0, 1) : (Int × Int))]) (xs := xs2) (l := polynomial) e (.cons (d_NOUGHT F) .nil) a4 h5 fun v10 F6 H7 g8 r9 => ?_
    have eF6 := g8.s
    have gF6 := g_.trans (g8.weak (by simp))
    replace r_polynomial := r_polynomial.up g8.f
    replace r_place := r_place.up g8.f
    replace s3 := g8.f _ _ s3
    replace a4 := a4.up g8.f
    refine ⟨_, rfl, ?_⟩
    refine ⟨_, rfl, ⟨_, (sq_of (eF6 _ _ s3))⟩, ?_⟩
    obtain ⟨h30, k⟩ := post_guard k
    refine lc_map (K := K) (M := []) (wlk_list eF6 s3 a4) (e2 PyData.int PyData.int) k eF6 h30 (fun _ _ => by simp) (fun x13 v28 F21 H22 F23 H24 g25 g26 r27 Q' k11 => ?_) (fun _ z => z) (fun b12 v14 F15 H16 g17 r18 k => ?_) gm_name
    · have g31 := Gm.refl (M := []) g25.s
      replace r_polynomial := r_polynomial.up g25.f
      replace r_place := r_place.up g25.f
      replace s3 := g25.f _ _ s3
      replace a4 := a4.up g25.f
      replace r9 := r9.up g25.f
      replace r_polynomial := r_polynomial.up g26.f
      replace r_place := r_place.up g26.f
      replace s3 := g26.f _ _ s3
      replace a4 := a4.up g26.f
      replace r9 := r9.up g26.f
      have eF23 := g26.s
      have gF23 := g31.trans (g26.weak (by simp))
      refine ⟨rfl, _, rfl, _, rfl, ?_⟩
      refine ⟨F23, _, x13, _, place, rfl, eF23, r27, r_place, (post_bd k11).mono (fun b32 k11 v37 F33 H34 g35 r36 => ?_) (fun _ z => z)⟩
      have eF33 := g35.s
      have gF33 := gF23.trans (g35.weak (by simp))
      replace r_polynomial := r_polynomial.up g35.f
      replace r_place := r_place.up g35.f
      replace s3 := g35.f _ _ s3
      replace a4 := a4.up g35.f
      replace r9 := r9.up g35.f
      replace r27 := r27.up g35.f
      exact k11.h _ _ _ gF33 r36
    have eF15 := g17.s
    have gF15 := gF6.trans (g17.weak (by simp))
    replace r_polynomial := r_polynomial.up g17.f
    replace r_place := r_place.up g17.f
    replace s3 := g17.f _ _ s3
    replace a4 := a4.up g17.f
    replace r9 := r9.up g17.f
    show _ ∧ _
    refine new_lst (K := K) (M := []) eF15 (.cons (d_NOUGHT F15) .nil) (by show 1 ≤ 100000; decide) fun v44 F40 H41 g42 r43 => ?_
    have eF40 := g42.s
    have gF40 := gF15.trans (g42.weak (by simp))
    replace r_polynomial := r_polynomial.up g42.f
    replace r_place := r_place.up g42.f
    replace s3 := g42.f _ _ s3
    replace a4 := a4.up g42.f
    replace r9 := r9.up g42.f
    replace r18 := r18.up g42.f
    replace r43 : Dq K F40 v44 ((eL (e2 PyData.int PyData.int)) [((0, 1) : (Int × Int))]) := r43
    obtain ⟨p45, xs46, rfl, s47, a48⟩ := dp_lst r18
    obtain ⟨p49, xs50, rfl, s51, a52⟩ := dp_lst r43
    obtain ⟨h54, k⟩ := post_guard k
    refine ⟨_, _, _, _, rfl, rfl, eF40 _ _ s47, eF40 _ _ s51, cat_len a48 a52 h54, new_lstC (K := K) (M := []) (en := (e2 PyData.int PyData.int)) (l := b12) (l' := [((0, 1) : (Int × Int))]) eF40 a48 a52 fun v59 F55 H56 g57 r58 => ?_⟩
    have eF55 := g57.s
    have gF55 := gF40.trans (g57.weak (by simp))
    replace r_polynomial := r_polynomial.up g57.f
    replace r_place := r_place.up g57.f
    replace s3 := g57.f _ _ s3
    replace a4 := a4.up g57.f
    replace r9 := r9.up g57.f
    replace r18 := r18.up g57.f
    replace r43 := r43.up g57.f
    replace s47 := g57.f _ _ s47
    replace a48 := a48.up g57.f
    replace s51 := g57.f _ _ s51
    replace a52 := a52.up g57.f
    refine ⟨_, rfl, _, rfl, ?_⟩
    obtain ⟨p60, xs61, rfl, s62, a63⟩ := dp_lst r9
    obtain ⟨p64, xs65, rfl, s66, a67⟩ := dp_lst r58
    refine ⟨_, _, _, _, rfl, (sq_of (eF55 _ _ s62)), (sq_of (eF55 _ _ s66)), ?_⟩
    obtain ⟨h87, k⟩ := post_guard k
    refine lc_map (K := K) (M := []) (wlk_zip eF55 s62 a63 s66 a67) (e2 PyData.int PyData.int) k eF55 h87 (fun _ _ => by simp) (fun x70 v85 F78 H79 F80 H81 g82 g83 r84 Q' k68 => ?_) (fun _ z => z) (fun b69 v71 F72 H73 g74 r75 k => ?_) (gm_tup (gms_cons gm_name (gms_cons gm_name gms_nil)))
    · have g88 := Gm.refl (M := []) g82.s
      replace r_polynomial := r_polynomial.up g82.f
      replace r_place := r_place.up g82.f
      replace s3 := g82.f _ _ s3
      replace a4 := a4.up g82.f
      replace r9 := r9.up g82.f
      replace r18 := r18.up g82.f
      replace r43 := r43.up g82.f
      replace s47 := g82.f _ _ s47
      replace a48 := a48.up g82.f
      replace s51 := g82.f _ _ s51
      replace a52 := a52.up g82.f
      replace r58 := r58.up g82.f
      replace s62 := g82.f _ _ s62
      replace a63 := a63.up g82.f
      replace s66 := g82.f _ _ s66
      replace a67 := a67.up g82.f
      replace r_polynomial := r_polynomial.up g83.f
      replace r_place := r_place.up g83.f
      replace s3 := g83.f _ _ s3
      replace a4 := a4.up g83.f
      replace r9 := r9.up g83.f
      replace r18 := r18.up g83.f
      replace r43 := r43.up g83.f
      replace s47 := g83.f _ _ s47
      replace a48 := a48.up g83.f
      replace s51 := g83.f _ _ s51
      replace a52 := a52.up g83.f
      replace r58 := r58.up g83.f
      replace s62 := g83.f _ _ s62
      replace a63 := a63.up g83.f
      replace s66 := g83.f _ _ s66
      replace a67 := a67.up g83.f
      have eF80 := g83.s
      have gF80 := g88.trans (g83.weak (by simp))
      obtain ⟨p89, x90, x91, rfl, s92, d93, d94⟩ := dp_tup2 r84
      refine ⟨_, _, rfl, ex_t eF80 s92, rfl, _, _, rfl, _, _, rfl, rfl, rfl, _, rfl, _, rfl, ?_⟩
      refine ⟨F80, _, x70.1, _, x70.2, rfl, eF80, d93, d94, (post_bd k68).mono (fun b95 k68 v100 F96 H97 g98 r99 => ?_) (fun _ z => z)⟩
      have eF96 := g98.s
      have gF96 := gF80.trans (g98.weak (by simp))
      replace r_polynomial := r_polynomial.up g98.f
      replace r_place := r_place.up g98.f
      replace s3 := g98.f _ _ s3
      replace a4 := a4.up g98.f
      replace r9 := r9.up g98.f
      replace r18 := r18.up g98.f
      replace r43 := r43.up g98.f
      replace s47 := g98.f _ _ s47
      replace a48 := a48.up g98.f
      replace s51 := g98.f _ _ s51
      replace a52 := a52.up g98.f
      replace r58 := r58.up g98.f
      replace s62 := g98.f _ _ s62
      replace a63 := a63.up g98.f
      replace s66 := g98.f _ _ s66
      replace a67 := a67.up g98.f
      replace r84 := r84.up g98.f
      replace s92 := ex_t g98.f s92
      replace d93 := d93.up g98.f
      replace d94 := d94.up g98.f
      exact k68.h _ _ _ gF96 r99
    have eF72 := g74.s
    have gF72 := gF55.trans (g74.weak (by simp))
    replace r_polynomial := r_polynomial.up g74.f
    replace r_place := r_place.up g74.f
    replace s3 := g74.f _ _ s3
    replace a4 := a4.up g74.f
    replace r9 := r9.up g74.f
    replace r18 := r18.up g74.f
    replace r43 := r43.up g74.f
    replace s47 := g74.f _ _ s47
    replace a48 := a48.up g74.f
    replace s51 := g74.f _ _ s51
    replace a52 := a52.up g74.f
    replace r58 := r58.up g74.f
    replace s62 := g74.f _ _ s62
    replace a63 := a63.up g74.f
    replace s66 := g74.f _ _ s66
    replace a67 := a67.up g74.f
    exact k.h _ _ _ gF72 r75
/-! ### with_roots -/
abbrev s_with_roots : Stmt := top 21
theorem sc_with_roots : FnScope ["places", "result", "place"] ["places"] (defScope s_with_roots) := ⟨rfl, rfl, rfl, by decide +kernel, rfl, by decide +kernel, by decide +kernel⟩
def with_roots (places : (List (Int × Int))) : Mm (List (Int × Int)) := (foldM (fun (b10 : (List (Int × Int))) (x11 : (Int × Int)) => (with_root (b10) (x11)).bd fun b31 => Mm.ok b31) [((1, 1) : (Int × Int))] places).bd fun b27 => Mm.ok b27
def sp_with_roots (K : PySem.W.Frag) : Sp := fun vs H Q _ => ∃ (F : Hp) (v_places : V) (places : (List (Int × Int))), vs = [v_places] ∧ Ex F H ∧ Dq K F v_places ((eL (e2 PyData.int PyData.int)) places) ∧ Post (with_roots places) (fun r => Ret [] F H (fun F' _ v => Dq K F' v ((eL (e2 PyData.int PyData.int)) r)) Q) (fun _ => False)
theorem ok_with_roots {P : Program} {w : World} {K : PySem.W.Frag} {mg : Str → Option Value} {base : Heap} {C f : Addr} {fd : FuncData} (B : Bi mg) (FF : FunD K "with_roots" "with_roots" (defArgs s_with_roots) (defBody s_with_roots) (defScope s_with_roots) [] [] f fd) (G_with_root : Kn P w K mg base "with_root" 3 ["polynomial", "place"] (sp_with_root K)) {a_ONE : Addr} (c_ONE : mg "ONE" = some (.ref a_ONE)) (d_ONE : ∀ F, Dq K F (.ref a_ONE) ((e2 PyData.int PyData.int) (1, 1))) : FnOk P w K mg base CX0 4 f fd ["places"] (sp_with_roots K) := by
  refine FF.ok sc_with_roots (fun vs H Q E h => ?_) (fun cdv A outer s H vs Q E hr h => ?_)
  · obtain ⟨F, v_places, places, rfl, _⟩ := h; rfl
  · obtain ⟨F, v_places, places, rfl, e, r_places, k⟩ := h
    unfold with_roots at k
    have g_ := Gm.refl (M := []) e
    refine ⟨_, PSs.nox (pss_cons (ps_set (i := 1) sc_with_roots.nd rfl (Or.inl rfl) (pe_q (pe_lst (pa_cons (pe_gref c_ONE) (pa_nil))))) (pss_cons (ps_for PassesOwn.never rfl (pi_list (pv 0)) (pg_name (i := 2) sc_with_roots.nd rfl (Or.inl rfl)) (pss_one (ps_set (i := 1) sc_with_roots.nd rfl (Or.inl rfl) (pe_kn G_with_root (hr.mono (by decide)) (pa_cons (pv 1) (pa_cons (pv 2) (pa_nil))))))) (pss_one (ps_ret (pv 1))))), ?_⟩
    show _ ∧ _
    refine new_lst (K := K) (M := []) e (.cons (d_ONE F) .nil) (by show 1 ≤ 100000; decide) fun v5 F1 H2 g3 r4 => ?_
    have eF1 := g3.s
    have gF1 := g_.trans (g3.weak (by simp))
    replace r_places := r_places.up g3.f
    replace r4 : Dq K F1 v5 ((eL (e2 PyData.int PyData.int)) [((1, 1) : (Int × Int))]) := r4
    refine ⟨_, rfl, ?_⟩
    obtain ⟨p6, xs7, rfl, s8, a9⟩ := dp_lst r_places
    refine ⟨_, rfl, ⟨_, (sq_of (eF1 _ _ s8))⟩, ?_⟩
    refine for_m (M := []) (F := F1) (wlk_list eF1 s8 a9) (fun b10 F' H' σ' => ∃ (c1 : V) (u2 : Option V), σ' = [some (V.ref p6), some c1, u2] ∧ Dq K F' c1 ((eL (e2 PyData.int PyData.int)) b10)) k eF1 ⟨_, _, rfl, r4⟩ (fun b10 x11 v19 σ21 F12 H13 F14 H15 g16 i20 g17 r18 nx kfb10 => ?_) (fun b27 σ26 F22 H23 g24 i25 k => ?_)
    · replace r_places := r_places.up g16.f
      replace r4 := r4.up g16.f
      replace s8 := g16.f _ _ s8
      replace a9 := a9.up g16.f
      obtain ⟨c28, u29, rfl, r30⟩ := i20
      replace r_places := r_places.up g17.f
      replace s8 := g17.f _ _ s8
      replace a9 := a9.up g17.f
      replace r30 := r30.up g17.f
      have eF14 := g17.s
      have gF14 := g16.trans (g17.weak (by simp))
      refine ⟨_, rfl, _, rfl, ?_⟩
      refine ⟨F14, _, b10, _, x11, rfl, eF14, r30, r18, (post_bd kfb10).mono (fun b31 kfb10 v36 F32 H33 g34 r35 => ?_) (fun _ z => z)⟩
      have eF32 := g34.s
      have gF32 := gF14.trans (g34.weak (by simp))
      replace r_places := r_places.up g34.f
      replace s8 := g34.f _ _ s8
      replace a9 := a9.up g34.f
      replace r30 := r30.up g34.f
      replace r18 := r18.up g34.f
      exact kfb10.h _ _ _ gF32 ⟨_, _, rfl, r35⟩
    have g38 := gF1.trans (g24.weak (by simp))
    replace r_places := r_places.up g24.f
    replace r4 := r4.up g24.f
    replace s8 := g24.f _ _ s8
    replace a9 := a9.up g24.f
    have eF22 := g24.s
    obtain ⟨c39, u40, rfl, r41⟩ := i25
    refine ⟨_, rfl, ?_⟩
    exact k.h _ _ _ g38 r41
/-! ### worth -/
abbrev s_worth : Stmt := top 22
theorem sc_worth : FnScope ["polynomial", "place", "result", "coefficient"] ["polynomial", "place"] (defScope s_worth) := ⟨rfl, rfl, rfl, by decide +kernel, rfl, by decide +kernel, by decide +kernel⟩
def worth (polynomial : (List (Int × Int))) (place : (Int × Int)) : Mm (Int × Int) := (foldM (fun (b5 : (Int × Int)) (x6 : (Int × Int)) => (times (b5) (place)).bd fun b26 => (plus (b26) (x6)).bd fun b33 => Mm.ok b33) ((0, 1) : (Int × Int)) polynomial.reverse).bd fun b22 => Mm.ok b22
def sp_worth (K : PySem.W.Frag) : Sp := fun vs H Q _ => ∃ (F : Hp) (v_polynomial : V) (polynomial : (List (Int × Int))) (v_place : V) (place : (Int × Int)), vs = [v_polynomial, v_place] ∧ Ex F H ∧ Dq K F v_polynomial ((eL (e2 PyData.int PyData.int)) polynomial) ∧ Dq K F v_place ((e2 PyData.int PyData.int) place) ∧ Post (worth polynomial place) (fun r => Ret [] F H (fun F' _ v => Dq K F' v ((e2 PyData.int PyData.int) r)) Q) (fun _ => False)
theorem ok_worth {P : Program} {w : World} {K : PySem.W.Frag} {mg : Str → Option Value} {base : Heap} {C f : Addr} {fd : FuncData} (B : Bi mg) (FF : FunD K "worth" "worth" (defArgs s_worth) (defBody s_worth) (defScope s_worth) [] [] f fd) (G_plus : Kn P w K mg base "plus" 2 ["one", "other"] (sp_plus K)) (G_times : Kn P w K mg base "times" 2 ["one", "other"] (sp_times K)) {a_NOUGHT : Addr} (c_NOUGHT : mg "NOUGHT" = some (.ref a_NOUGHT)) (d_NOUGHT : ∀ F, Dq K F (.ref a_NOUGHT) ((e2 PyData.int PyData.int) (0, 1))) : FnOk P w K mg base CX0 3 f fd ["polynomial", "place"] (sp_worth K) := by
  refine FF.ok sc_worth (fun vs H Q E h => ?_) (fun cdv A outer s H vs Q E hr h => ?_)
  · obtain ⟨F, v_polynomial, polynomial, v_place, place, rfl, _⟩ := h; rfl
  · obtain ⟨F, v_polynomial, polynomial, v_place, place, rfl, e, r_polynomial, r_place, k⟩ := h
    unfold worth at k
    have g_ := Gm.refl (M := []) e
    refine ⟨_, PSs.nox (pss_cons (ps_set (i := 2) sc_worth.nd rfl (Or.inl rfl) (pe_gref c_NOUGHT)) (pss_cons (ps_for PassesOwn.never rfl (pi_reversed rfl B.reversed (pa_cons (pv 0) pa_nil)) (pg_name (i := 3) sc_worth.nd rfl (Or.inl rfl)) (pss_one (ps_set (i := 2) sc_worth.nd rfl (Or.inl rfl) (pe_kn G_plus (hr.mono (by decide)) (pa_cons (pe_kn G_times (hr.mono (by decide)) (pa_cons (pv 2) (pa_cons (pv 1) (pa_nil)))) (pa_cons (pv 3) (pa_nil))))))) (pss_one (ps_ret (pv 2))))), ?_⟩
    refine ⟨_, rfl, ?_⟩
    obtain ⟨p1, xs2, rfl, s3, a4⟩ := dp_lst r_polynomial
    refine ⟨_, _, rfl, (sq_of (e _ _ s3)), ?_⟩
    refine for_m (M := []) (F := F) (wlk_rev e s3 a4) (fun b5 F' H' σ' => ∃ (c2 : V) (u3 : Option V), σ' = [some (V.ref p1), some v_place, some c2, u3] ∧ Dq K F' c2 ((e2 PyData.int PyData.int) b5)) k e ⟨_, _, rfl, (d_NOUGHT F)⟩ (fun b5 x6 v14 σ16 F7 H8 F9 H10 g11 i15 g12 r13 nx kfb5 => ?_) (fun b22 σ21 F17 H18 g19 i20 k => ?_)
    · replace r_polynomial := r_polynomial.up g11.f
      replace r_place := r_place.up g11.f
      replace s3 := g11.f _ _ s3
      replace a4 := a4.up g11.f
      obtain ⟨c23, u24, rfl, r25⟩ := i15
      replace r_polynomial := r_polynomial.up g12.f
      replace r_place := r_place.up g12.f
      replace s3 := g12.f _ _ s3
      replace a4 := a4.up g12.f
      replace r25 := r25.up g12.f
      have eF9 := g12.s
      have gF9 := g11.trans (g12.weak (by simp))
      refine ⟨_, rfl, _, rfl, ?_⟩
      refine ⟨F9, _, b5, _, place, rfl, eF9, r25, r_place, (post_bd kfb5).mono (fun b26 kfb5 v31 F27 H28 g29 r30 => ?_) (fun _ z => z)⟩
      have eF27 := g29.s
      have gF27 := gF9.trans (g29.weak (by simp))
      replace r_polynomial := r_polynomial.up g29.f
      replace r_place := r_place.up g29.f
      replace s3 := g29.f _ _ s3
      replace a4 := a4.up g29.f
      replace r25 := r25.up g29.f
      replace r13 := r13.up g29.f
      refine ⟨_, rfl, ?_⟩
      refine ⟨F27, _, b26, _, x6, rfl, eF27, r30, r13, (post_bd kfb5).mono (fun b33 kfb5 v38 F34 H35 g36 r37 => ?_) (fun _ z => z)⟩
      have eF34 := g36.s
      have gF34 := gF27.trans (g36.weak (by simp))
      replace r_polynomial := r_polynomial.up g36.f
      replace r_place := r_place.up g36.f
      replace s3 := g36.f _ _ s3
      replace a4 := a4.up g36.f
      replace r25 := r25.up g36.f
      replace r13 := r13.up g36.f
      replace r30 := r30.up g36.f
      exact kfb5.h _ _ _ gF34 ⟨_, _, rfl, r37⟩
    have g40 := g_.trans (g19.weak (by simp))
    replace r_polynomial := r_polynomial.up g19.f
    replace r_place := r_place.up g19.f
    replace s3 := g19.f _ _ s3
    replace a4 := a4.up g19.f
    have eF17 := g19.s
    obtain ⟨c41, u42, rfl, r43⟩ := i20
    refine ⟨_, rfl, ?_⟩
    exact k.h _ _ _ g40 r43
/-! ### only_at -/
abbrev s_only_at : Stmt := top 23
theorem sc_only_at : FnScope ["places", "index", "others", "scale", "coefficient"] ["places", "index"] (defScope s_only_at) := ⟨rfl, rfl, rfl, by decide +kernel, rfl, by decide +kernel, by decide +kernel⟩
def only_at (places : (List (Int × Int))) (index : Int) : Mm (List (Int × Int)) := (guardM ((cutL places none (some index)).length + (cutL places (some (index + (1 : Int))) none).length ≤ 100000)).bd fun _ => (with_roots (((cutL places none (some index)) ++ (cutL places (some (index + (1 : Int))) none)))).bd fun b30 => (getM places index).bd fun i37 => (worth (b30) (i37)).bd fun b42 => (guardM (b30.length ≤ 50000)).bd fun _ => (mapMm (fun (x55 : (Int × Int)) => (over (x55) (b42)).bd fun b74 => Mm.ok b74) b30).bd fun b54 => Mm.ok b54
def sp_only_at (K : PySem.W.Frag) : Sp := fun vs H Q _ => ∃ (F : Hp) (v_places : V) (places : (List (Int × Int))) (index : Int), vs = [v_places, (V.int index)] ∧ Ex F H ∧ Dq K F v_places ((eL (e2 PyData.int PyData.int)) places) ∧ Post (only_at places index) (fun r => Ret [] F H (fun F' _ v => Dq K F' v ((eL (e2 PyData.int PyData.int)) r)) Q) (fun _ => False)
theorem ok_only_at {P : Program} {w : World} {K : PySem.W.Frag} {mg : Str → Option Value} {base : Heap} {C f : Addr} {fd : FuncData} (B : Bi mg) (FF : FunD K "only_at" "only_at" (defArgs s_only_at) (defBody s_only_at) (defScope s_only_at) [] [] f fd) (G_with_roots : Kn P w K mg base "with_roots" 4 ["places"] (sp_with_roots K)) (G_worth : Kn P w K mg base "worth" 3 ["polynomial", "place"] (sp_worth K)) (G_over : Kn P w K mg base "over" 2 ["one", "other"] (sp_over K)) : FnOk P w K mg base CX0 5 f fd ["places", "index"] (sp_only_at K) := by
  refine FF.ok sc_only_at (fun vs H Q E h => ?_) (fun cdv A outer s H vs Q E hr h => ?_)
  · obtain ⟨F, v_places, places, index, rfl, _⟩ := h; rfl
  · obtain ⟨F, v_places, places, index, rfl, e, r_places, k⟩ := h
    unfold only_at at k
    have g_ := Gm.refl (M := []) e
    refine ⟨_, PSs.nox (pss_cons (ps_set (i := 2) sc_only_at.nd rfl (Or.inl rfl) (pe_kn G_with_roots (hr.mono (by decide)) (pa_cons (pe_q (pe_op op_cat (pe_q (pe_slice sl_list (pv 0) po_none (po_some (pv 1)))) (pe_q (pe_slice sl_list (pv 0) (po_some (pe_op op_add (pv 1) (pe_int))) po_none)))) (pa_nil)))) (pss_cons (ps_set (i := 3) sc_only_at.nd rfl (Or.inr rfl) (pe_kn G_worth (hr.mono (by decide)) (pa_cons (pv 2) (pa_cons (pe_ix (r := rIxL K) ix_list (pv 0) (pv 1) (fun _ _ => rfl)) (pa_nil))))) (pss_one (ps_ret (pe_q (pe_lc (own := [("coefficient", 4)]) (g := gName 4) rfl sc_only_at.nd (pi_list (pv 2)) (blkOk_by (N := ["places", "index", "others", "scale", "coefficient"]) (sc := defScope s_only_at) (by decide +kernel)) (fun _ _ _ _ _ => pg_name (i := 4) sc_only_at.nd rfl (Or.inl rfl)) (fun _ _ _ _ _ => pts_nil) (fun _ _ _ _ _ => pe_kn G_over (hr.mono (by decide)) (pa_cons (pv 4) (pa_cons (pv 3) (pa_nil)))))))))), ?_⟩
    refine ⟨_, rfl, _, rfl, _, rfl, ?_⟩
    obtain ⟨p1, xs2, rfl, s3, a4⟩ := dp_lst r_places
    refine cut_lst (K := K) (M := []) e s3 a4 fun v9 F5 H6 g7 r8 => ?_
    have eF5 := g7.s
    have gF5 := g_.trans (g7.weak (by simp))
    replace r_places := r_places.up g7.f
    replace s3 := g7.f _ _ s3
    replace a4 := a4.up g7.f
    refine ⟨_, rfl, _, rfl, _, _, rfl, rfl, _, rfl, ?_⟩
    refine cut_lst (K := K) (M := []) eF5 s3 a4 fun v14 F10 H11 g12 r13 => ?_
    have eF10 := g12.s
    have gF10 := gF5.trans (g12.weak (by simp))
    replace r_places := r_places.up g12.f
    replace s3 := g12.f _ _ s3
    replace a4 := a4.up g12.f
    replace r8 := r8.up g12.f
    obtain ⟨p15, xs16, rfl, s17, a18⟩ := dp_lst r8
    obtain ⟨p19, xs20, rfl, s21, a22⟩ := dp_lst r13
    obtain ⟨h24, k⟩ := post_guard k
    refine ⟨_, _, _, _, rfl, rfl, eF10 _ _ s17, eF10 _ _ s21, cat_len a18 a22 h24, new_lstC (K := K) (M := []) (en := (e2 PyData.int PyData.int)) (l := (cutL places none (some index))) (l' := (cutL places (some (index + (1 : Int))) none)) eF10 a18 a22 fun v29 F25 H26 g27 r28 => ?_⟩
    have eF25 := g27.s
    have gF25 := gF10.trans (g27.weak (by simp))
    replace r_places := r_places.up g27.f
    replace s3 := g27.f _ _ s3
    replace a4 := a4.up g27.f
    replace r8 := r8.up g27.f
    replace r13 := r13.up g27.f
    replace s17 := g27.f _ _ s17
    replace a18 := a18.up g27.f
    replace s21 := g27.f _ _ s21
    replace a22 := a22.up g27.f
    refine ⟨F25, _, ((cutL places none (some index)) ++ (cutL places (some (index + (1 : Int))) none)), rfl, eF25, r28, (post_bd k).mono (fun b30 k v35 F31 H32 g33 r34 => ?_) (fun _ z => z)⟩
    have eF31 := g33.s
    have gF31 := gF25.trans (g33.weak (by simp))
    replace r_places := r_places.up g33.f
    replace s3 := g33.f _ _ s3
    replace a4 := a4.up g33.f
    replace r8 := r8.up g33.f
    replace r13 := r13.up g33.f
    replace s17 := g33.f _ _ s17
    replace a18 := a18.up g33.f
    replace s21 := g33.f _ _ s21
    replace a22 := a22.up g33.f
    replace r28 := r28.up g33.f
    refine ⟨_, rfl, _, rfl, _, rfl, ?_⟩
    obtain ⟨i37, h38, k⟩ := post_get k
    obtain ⟨v39, h40, r41⟩ := dq_at a4 h38
    refine ⟨_, _, _, _, rfl, rfl, (sq_of (eF31 _ _ s3)), h40, ?_⟩
    refine ⟨F31, _, b30, _, i37, rfl, eF31, r34, r41, (post_bd k).mono (fun b42 k v47 F43 H44 g45 r46 => ?_) (fun _ z => z)⟩
    have eF43 := g45.s
    have gF43 := gF31.trans (g45.weak (by simp))
    replace r_places := r_places.up g45.f
    replace s3 := g45.f _ _ s3
    replace a4 := a4.up g45.f
    replace r8 := r8.up g45.f
    replace r13 := r13.up g45.f
    replace s17 := g45.f _ _ s17
    replace a18 := a18.up g45.f
    replace s21 := g45.f _ _ s21
    replace a22 := a22.up g45.f
    replace r28 := r28.up g45.f
    replace r34 := r34.up g45.f
    replace r41 := r41.up g45.f
    refine ⟨_, rfl, ?_⟩
    obtain ⟨p49, xs50, rfl, s51, a52⟩ := dp_lst r34
    refine ⟨_, rfl, ⟨_, (sq_of (eF43 _ _ s51))⟩, ?_⟩
    obtain ⟨h72, k⟩ := post_guard k
    refine lc_map (K := K) (M := []) (wlk_list eF43 s51 a52) (e2 PyData.int PyData.int) k eF43 h72 (fun _ _ => by simp) (fun x55 v70 F63 H64 F65 H66 g67 g68 r69 Q' k53 => ?_) (fun _ z => z) (fun b54 v56 F57 H58 g59 r60 k => ?_) gm_name
    · have g73 := Gm.refl (M := []) g67.s
      replace r_places := r_places.up g67.f
      replace s3 := g67.f _ _ s3
      replace a4 := a4.up g67.f
      replace r8 := r8.up g67.f
      replace r13 := r13.up g67.f
      replace s17 := g67.f _ _ s17
      replace a18 := a18.up g67.f
      replace s21 := g67.f _ _ s21
      replace a22 := a22.up g67.f
      replace r28 := r28.up g67.f
      replace r34 := r34.up g67.f
      replace r41 := r41.up g67.f
      replace r46 := r46.up g67.f
      replace s51 := g67.f _ _ s51
      replace a52 := a52.up g67.f
      replace r_places := r_places.up g68.f
      replace s3 := g68.f _ _ s3
      replace a4 := a4.up g68.f
      replace r8 := r8.up g68.f
      replace r13 := r13.up g68.f
      replace s17 := g68.f _ _ s17
      replace a18 := a18.up g68.f
      replace s21 := g68.f _ _ s21
      replace a22 := a22.up g68.f
      replace r28 := r28.up g68.f
      replace r34 := r34.up g68.f
      replace r41 := r41.up g68.f
      replace r46 := r46.up g68.f
      replace s51 := g68.f _ _ s51
      replace a52 := a52.up g68.f
      have eF65 := g68.s
      have gF65 := g73.trans (g68.weak (by simp))
      refine ⟨rfl, _, rfl, _, rfl, ?_⟩
      refine ⟨F65, _, x55, _, b42, rfl, eF65, r69, r46, (post_bd k53).mono (fun b74 k53 v79 F75 H76 g77 r78 => ?_) (fun _ z => z)⟩
      have eF75 := g77.s
      have gF75 := gF65.trans (g77.weak (by simp))
      replace r_places := r_places.up g77.f
      replace s3 := g77.f _ _ s3
      replace a4 := a4.up g77.f
      replace r8 := r8.up g77.f
      replace r13 := r13.up g77.f
      replace s17 := g77.f _ _ s17
      replace a18 := a18.up g77.f
      replace s21 := g77.f _ _ s21
      replace a22 := a22.up g77.f
      replace r28 := r28.up g77.f
      replace r34 := r34.up g77.f
      replace r41 := r41.up g77.f
      replace r46 := r46.up g77.f
      replace s51 := g77.f _ _ s51
      replace a52 := a52.up g77.f
      replace r69 := r69.up g77.f
      exact k53.h _ _ _ gF75 r78
    have eF57 := g59.s
    have gF57 := gF43.trans (g59.weak (by simp))
    replace r_places := r_places.up g59.f
    replace s3 := g59.f _ _ s3
    replace a4 := a4.up g59.f
    replace r8 := r8.up g59.f
    replace r13 := r13.up g59.f
    replace s17 := g59.f _ _ s17
    replace a18 := a18.up g59.f
    replace s21 := g59.f _ _ s21
    replace a22 := a22.up g59.f
    replace r28 := r28.up g59.f
    replace r34 := r34.up g59.f
    replace r41 := r41.up g59.f
    replace r46 := r46.up g59.f
    replace s51 := g59.f _ _ s51
    replace a52 := a52.up g59.f
    exact k.h _ _ _ gF57 r60
/-! ### is_place -/
abbrev s_is_place : Stmt := top 31
theorem sc_is_place : FnScope ["number"] ["number"] (defScope s_is_place) := ⟨rfl, rfl, rfl, by decide +kernel, rfl, by decide +kernel, by decide +kernel⟩
def is_place (number : Int) : Mm Bool := (whole_within (number) ((-(20 : Int))) ((20 : Int))).bd fun b1 => Mm.ok b1
def sp_is_place (K : PySem.W.Frag) : Sp := fun vs H Q _ => ∃ (F : Hp) (number : Int), vs = [(V.int number)] ∧ Ex F H ∧ Post (is_place number) (fun r => Ret [] F H (fun F' _ v => v = V.bl r) Q) (fun _ => False)
theorem ok_is_place {P : Program} {w : World} {K : PySem.W.Frag} {mg : Str → Option Value} {base : Heap} {C f : Addr} {fd : FuncData} (B : Bi mg) (FF : FunD K "is_place" "is_place" (defArgs s_is_place) (defBody s_is_place) (defScope s_is_place) [] [] f fd) (G_whole_within : Kn P w K mg base "whole_within" 1 ["number", "low", "high"] (sp_whole_within K)) (c_FARTHEST : ∃ t, mg "FARTHEST" = some (.int 20 t)) : FnOk P w K mg base CX0 2 f fd ["number"] (sp_is_place K) := by
  refine FF.ok sc_is_place (fun vs H Q E h => ?_) (fun cdv A outer s H vs Q E hr h => ?_)
  · obtain ⟨F, number, rfl, _⟩ := h; rfl
  · obtain ⟨F, number, rfl, e, k⟩ := h
    unfold is_place at k
    have g_ := Gm.refl (M := []) e
    refine ⟨_, PSs.nox (pss_one (ps_ret (pe_kn G_whole_within (hr.mono (by decide)) (pa_cons (pv 0) (pa_cons (pe_un un_neg (pe_gint c_FARTHEST)) (pa_cons (pe_gint c_FARTHEST) (pa_nil))))))), ?_⟩
    refine ⟨_, rfl, _, rfl, ?_⟩
    refine ⟨F, number, (-(20 : Int)), (20 : Int), rfl, e, (post_bd k).mono (fun b1 k v6 F2 H3 g4 r5 => ?_) (fun _ z => z)⟩
    have eF2 := g4.s
    have gF2 := g_.trans (g4.weak (by simp))
    subst r5
    exact k.h _ _ _ gF2 rfl
/-! ### is_mass -/
abbrev s_is_mass : Stmt := top 32
theorem sc_is_mass : FnScope ["number"] ["number"] (defScope s_is_mass) := ⟨rfl, rfl, rfl, by decide +kernel, rfl, by decide +kernel, by decide +kernel⟩
def is_mass (number : Int) : Mm Bool := (whole_within (number) ((1 : Int)) ((20 : Int))).bd fun b1 => Mm.ok b1
def sp_is_mass (K : PySem.W.Frag) : Sp := fun vs H Q _ => ∃ (F : Hp) (number : Int), vs = [(V.int number)] ∧ Ex F H ∧ Post (is_mass number) (fun r => Ret [] F H (fun F' _ v => v = V.bl r) Q) (fun _ => False)
theorem ok_is_mass {P : Program} {w : World} {K : PySem.W.Frag} {mg : Str → Option Value} {base : Heap} {C f : Addr} {fd : FuncData} (B : Bi mg) (FF : FunD K "is_mass" "is_mass" (defArgs s_is_mass) (defBody s_is_mass) (defScope s_is_mass) [] [] f fd) (G_whole_within : Kn P w K mg base "whole_within" 1 ["number", "low", "high"] (sp_whole_within K)) (c_HEAVIEST : ∃ t, mg "HEAVIEST" = some (.int 20 t)) : FnOk P w K mg base CX0 2 f fd ["number"] (sp_is_mass K) := by
  refine FF.ok sc_is_mass (fun vs H Q E h => ?_) (fun cdv A outer s H vs Q E hr h => ?_)
  · obtain ⟨F, number, rfl, _⟩ := h; rfl
  · obtain ⟨F, number, rfl, e, k⟩ := h
    unfold is_mass at k
    have g_ := Gm.refl (M := []) e
    refine ⟨_, PSs.nox (pss_one (ps_ret (pe_kn G_whole_within (hr.mono (by decide)) (pa_cons (pv 0) (pa_cons (pe_int) (pa_cons (pe_gint c_HEAVIEST) (pa_nil))))))), ?_⟩
    refine ⟨_, rfl, ?_⟩
    refine ⟨F, number, (1 : Int), (20 : Int), rfl, e, (post_bd k).mono (fun b1 k v6 F2 H3 g4 r5 => ?_) (fun _ z => z)⟩
    have eF2 := g4.s
    have gF2 := g_.trans (g4.weak (by simp))
    subst r5
    exact k.h _ _ _ gF2 rfl
/-! ### check_masses -/
abbrev s_check_masses : Stmt := top 33
theorem sc_check_masses : FnScope ["masses", "ahead", "index", "place", "mass"] ["masses"] (defScope s_check_masses) := ⟨rfl, rfl, rfl, by decide +kernel, rfl, by decide +kernel, by decide +kernel⟩
def check_masses (masses : (List (Int × Int))) : Mm Unit := (foldM (fun (b5 : Int) (x6 : (Int × (Int × Int))) => (cond (decide (x6.1 = (6 : Int))) (Mm.ok true) ((is_place (x6.2.1)).bd fun b42 => (cond (!b42) (Mm.ok true) ((is_mass (x6.2.2)).bd fun b53 => Mm.ok ((!b53) || (decide (x6.2.1 ≤ b5))))).bd fun b49 => Mm.ok b49)).bd fun b38 => cond b38 (Mm.bad) (Mm.ok x6.2.1)) ((-(20 : Int)) - (1 : Int)) (enumL masses)).bd fun b22 => Mm.ok ()
def sp_check_masses (K : PySem.W.Frag) : Sp := fun vs H Q _ => ∃ (F : Hp) (v_masses : V) (masses : (List (Int × Int))), vs = [v_masses] ∧ Ex F H ∧ Dq K F v_masses ((eV (e2 PyData.int PyData.int)) masses) ∧ Post (check_masses masses) (fun r => Ret [] F H (fun F' _ v => v = V.non) Q) (fun _ => False)
theorem ok_check_masses {P : Program} {w : World} {K : PySem.W.Frag} {mg : Str → Option Value} {base : Heap} {C f : Addr} {fd : FuncData} (B : Bi mg) (FF : FunD K "check_masses" "check_masses" (defArgs s_check_masses) (defBody s_check_masses) (defScope s_check_masses) [] [] f fd) (G_is_place : Kn P w K mg base "is_place" 2 ["number"] (sp_is_place K)) (G_is_mass : Kn P w K mg base "is_mass" 2 ["number"] (sp_is_mass K)) (c_FARTHEST : ∃ t, mg "FARTHEST" = some (.int 20 t)) (c_MOST_MASSES : ∃ t, mg "MOST_MASSES" = some (.int 6 t)) : FnOk P w K mg base CX0 3 f fd ["masses"] (sp_check_masses K) := by
  refine FF.ok sc_check_masses (fun vs H Q E h => ?_) (fun cdv A outer s H vs Q E hr h => ?_)
  · obtain ⟨F, v_masses, masses, rfl, _⟩ := h; rfl
  · obtain ⟨F, v_masses, masses, rfl, e, r_masses, k⟩ := h
    unfold check_masses at k
    have g_ := Gm.refl (M := []) e
    refine ⟨_, PSs.nox (pss_cons (ps_set (i := 1) sc_check_masses.nd rfl (Or.inl rfl) (pe_op op_sub (pe_un un_neg (pe_gint c_FARTHEST)) (pe_int))) (pss_one (ps_for PassesOwn.never rfl (pi_enumT rfl B.enumerate (pa_cons (pv 0) pa_nil)) (pg_tup (by rfl) (pgs_cons (pg_name (i := 2) sc_check_masses.nd rfl (Or.inl rfl)) (pgs_cons (pg_tup (by rfl) (pgs_cons (pg_name (i := 3) sc_check_masses.nd rfl (Or.inl rfl)) (pgs_cons (pg_name (i := 4) sc_check_masses.nd rfl (Or.inl rfl)) (pgs_nil)))) (pgs_nil)))) (pss_cons (ps_if (PW.pt (pw_or (pt_cmpR op_eq (pv 2) (pe_gint c_MOST_MASSES) (nomark _)) (pw_or (pt_not (pt_val (pe_kn G_is_place (hr.mono (by decide)) (pa_cons (pv 3) (pa_nil))))) (pw_or (pt_not (pt_val (pe_kn G_is_mass (hr.mono (by decide)) (pa_cons (pv 4) (pa_nil))))) (pw_or1 (pt_cmpR op_le (pv 3) (pv 1) (nomark _))))))) (pss_one ps_never) pss_nil) (pss_one (ps_set (i := 1) sc_check_masses.nd rfl (Or.inl rfl) (pv 3))))))), ?_⟩
    refine ⟨_, rfl, _, _, rfl, rfl, ?_⟩
    refine ⟨_, rfl, ?_⟩
    obtain ⟨p1, xs2, rfl, s3, a4⟩ := dp_tup r_masses
    refine ⟨_, _, rfl, (ex_t e s3), ?_⟩
    refine for_m (M := []) (F := F) (wlk_enumT e s3 a4) (fun b5 F' H' σ' => ∃ (u2 : Option V) (u3 : Option V) (u4 : Option V), σ' = [some (V.ref p1), some (V.int b5), u2, u3, u4]) k e ⟨_, _, _, rfl⟩ (fun b5 x6 v14 σ16 F7 H8 F9 H10 g11 i15 g12 r13 nx kfb5 => ?_) (fun b22 σ21 F17 H18 g19 i20 k => ?_)
    · replace r_masses := r_masses.up g11.f
      replace s3 := ex_t g11.f s3
      replace a4 := a4.up g11.f
      obtain ⟨u23, u24, u25, rfl⟩ := i15
      replace r_masses := r_masses.up g12.f
      replace s3 := ex_t g12.f s3
      replace a4 := a4.up g12.f
      have eF9 := g12.s
      have gF9 := g11.trans (g12.weak (by simp))
      obtain ⟨p26, x27, x28, rfl, s29, d30, d31⟩ := dp_tup2 r13
      obtain rfl := dp_int d30
      refine ⟨_, _, rfl, ex_t eF9 s29, rfl, _, _, rfl, _, _, rfl, ?_⟩
      obtain ⟨p32, x33, x34, rfl, s35, d36, d37⟩ := dp_tup2 d31
      obtain rfl := dp_int d36
      obtain rfl := dp_int d37
      refine ⟨_, _, rfl, ex_t eF9 s35, rfl, _, _, rfl, _, _, rfl, rfl, rfl, ?_⟩
      refine ⟨_, rfl, rfl, ?_⟩
      rw [decV_int]
      refine ⟨_, rfl, ?_⟩
      refine or_jM (M := []) eF9 kfb5 (fun _ Q' kfb5tb38 => ?_) (fun b38 F39 H40 g41 kfb5 => ?_)
      · have gF9_ := Gm.refl (M := []) eF9
        refine ⟨_, rfl, ?_⟩
        refine ⟨F9, x6.2.1, rfl, eF9, (post_bd kfb5tb38).mono (fun b42 kfb5tb38 v47 F43 H44 g45 r46 => ?_) (fun _ z => z)⟩
        have eF43 := g45.s
        have gF43 := gF9_.trans (g45.weak (by simp))
        replace r_masses := r_masses.up g45.f
        replace s3 := ex_t g45.f s3
        replace a4 := a4.up g45.f
        replace r13 := r13.up g45.f
        replace s29 := ex_t g45.f s29
        replace d31 := d31.up g45.f
        replace s35 := ex_t g45.f s35
        subst r46
        refine ⟨_, rfl, ?_⟩
        refine or_jM (M := []) eF43 kfb5tb38 (fun _ Q' kfb5tb38tb49 => ?_) (fun b49 F50 H51 g52 kfb5tb38 => ?_)
        · have gF43_ := Gm.refl (M := []) eF43
          refine ⟨_, rfl, ?_⟩
          refine ⟨F43, x6.2.2, rfl, eF43, (post_bd kfb5tb38tb49).mono (fun b53 kfb5tb38tb49 v58 F54 H55 g56 r57 => ?_) (fun _ z => z)⟩
          have eF54 := g56.s
          have gF54 := gF43_.trans (g56.weak (by simp))
          replace r_masses := r_masses.up g56.f
          replace s3 := ex_t g56.f s3
          replace a4 := a4.up g56.f
          replace r13 := r13.up g56.f
          replace s29 := ex_t g56.f s29
          replace d31 := d31.up g56.f
          replace s35 := ex_t g56.f s35
          subst r57
          refine ⟨_, rfl, ?_⟩
          refine or_j (b := (decide (x6.2.1 ≤ b5))) (fun _ Q' q => ?_) ?_
          · refine ⟨_, rfl, _, rfl, _, _, rfl, rfl, _, rfl, ?_⟩
            exact q
          exact kfb5tb38tb49.h _ _ gF54
        have eF50 := g52.s
        have gF50 := gF43.trans (g52.weak (by simp))
        replace r_masses := r_masses.up g52.f
        replace s3 := ex_t g52.f s3
        replace a4 := a4.up g52.f
        replace r13 := r13.up g52.f
        replace s29 := ex_t g52.f s29
        replace d31 := d31.up g52.f
        replace s35 := ex_t g52.f s35
        exact kfb5tb38.h _ _ gF50
      have eF39 := g41.s
      have gF39 := gF9.trans (g41.weak (by simp))
      replace r_masses := r_masses.up g41.f
      replace s3 := ex_t g41.f s3
      replace a4 := a4.up g41.f
      replace r13 := r13.up g41.f
      replace s29 := ex_t g41.f s29
      replace d31 := d31.up g41.f
      replace s35 := ex_t g41.f s35
      refine cs kfb5 (fun _ kfb5 => ?_) (fun _ kfb5 => ?_)
      · exact kfb5.elim
      · refine ⟨_, rfl, ?_⟩
        exact kfb5.h _ _ _ gF39 ⟨_, _, _, rfl⟩
    have g60 := g_.trans (g19.weak (by simp))
    replace r_masses := r_masses.up g19.f
    replace s3 := ex_t g19.f s3
    replace a4 := a4.up g19.f
    have eF17 := g19.s
    obtain ⟨u61, u62, u63, rfl⟩ := i20
    exact k.h _ _ _ g60 rfl
/-! ### check_stretches -/
abbrev s_check_stretches : Stmt := top 34
theorem sc_check_stretches : FnScope ["stretches", "ahead", "index", "low", "high", "height"] ["stretches"] (defScope s_check_stretches) := ⟨rfl, rfl, rfl, by decide +kernel, rfl, by decide +kernel, by decide +kernel⟩
def check_stretches (stretches : (List (Int × Int × Int))) : Mm Unit := (foldM (fun (b5 : Int) (x6 : (Int × (Int × Int × Int))) => (cond (decide (x6.1 = (4 : Int))) (Mm.ok true) ((is_place (x6.2.1)).bd fun b45 => (cond (!b45) (Mm.ok true) ((is_place (x6.2.2.1)).bd fun b56 => (cond (!b56) (Mm.ok true) ((is_mass (x6.2.2.2)).bd fun b67 => Mm.ok (!b67))).bd fun b63 => Mm.ok b63)).bd fun b52 => Mm.ok b52)).bd fun b41 => cond b41 (Mm.bad) (cond ((decide (x6.2.1 < b5)) || (decide (x6.2.2.1 ≤ x6.2.1))) (Mm.bad) (Mm.ok x6.2.2.1))) (-(20 : Int)) (enumL stretches)).bd fun b22 => Mm.ok ()
def sp_check_stretches (K : PySem.W.Frag) : Sp := fun vs H Q _ => ∃ (F : Hp) (v_stretches : V) (stretches : (List (Int × Int × Int))), vs = [v_stretches] ∧ Ex F H ∧ Dq K F v_stretches ((eV (e3 PyData.int PyData.int PyData.int)) stretches) ∧ Post (check_stretches stretches) (fun r => Ret [] F H (fun F' _ v => v = V.non) Q) (fun _ => False)
theorem ok_check_stretches {P : Program} {w : World} {K : PySem.W.Frag} {mg : Str → Option Value} {base : Heap} {C f : Addr} {fd : FuncData} (B : Bi mg) (FF : FunD K "check_stretches" "check_stretches" (defArgs s_check_stretches) (defBody s_check_stretches) (defScope s_check_stretches) [] [] f fd) (G_is_place : Kn P w K mg base "is_place" 2 ["number"] (sp_is_place K)) (G_is_mass : Kn P w K mg base "is_mass" 2 ["number"] (sp_is_mass K)) (c_FARTHEST : ∃ t, mg "FARTHEST" = some (.int 20 t)) (c_MOST_STRETCHES : ∃ t, mg "MOST_STRETCHES" = some (.int 4 t)) : FnOk P w K mg base CX0 3 f fd ["stretches"] (sp_check_stretches K) := by
  refine FF.ok sc_check_stretches (fun vs H Q E h => ?_) (fun cdv A outer s H vs Q E hr h => ?_)
  · obtain ⟨F, v_stretches, stretches, rfl, _⟩ := h; rfl
  · obtain ⟨F, v_stretches, stretches, rfl, e, r_stretches, k⟩ := h
    unfold check_stretches at k
    have g_ := Gm.refl (M := []) e
    refine ⟨_, PSs.nox (pss_cons (ps_set (i := 1) sc_check_stretches.nd rfl (Or.inl rfl) (pe_un un_neg (pe_gint c_FARTHEST))) (pss_one (ps_for PassesOwn.never rfl (pi_enumT rfl B.enumerate (pa_cons (pv 0) pa_nil)) (pg_tup (by rfl) (pgs_cons (pg_name (i := 2) sc_check_stretches.nd rfl (Or.inl rfl)) (pgs_cons (pg_tup (by rfl) (pgs_cons (pg_name (i := 3) sc_check_stretches.nd rfl (Or.inl rfl)) (pgs_cons (pg_name (i := 4) sc_check_stretches.nd rfl (Or.inl rfl)) (pgs_cons (pg_name (i := 5) sc_check_stretches.nd rfl (Or.inl rfl)) (pgs_nil))))) (pgs_nil)))) (pss_cons (ps_if (PW.pt (pw_or (pt_cmpR op_eq (pv 2) (pe_gint c_MOST_STRETCHES) (nomark _)) (pw_or (pt_not (pt_val (pe_kn G_is_place (hr.mono (by decide)) (pa_cons (pv 3) (pa_nil))))) (pw_or (pt_not (pt_val (pe_kn G_is_place (hr.mono (by decide)) (pa_cons (pv 4) (pa_nil))))) (pw_or1 (pt_not (pt_val (pe_kn G_is_mass (hr.mono (by decide)) (pa_cons (pv 5) (pa_nil)))))))))) (pss_one ps_never) pss_nil) (pss_cons (ps_if (PW.pt (pw_or (pt_cmpR op_lt (pv 3) (pv 1) (nomark _)) (pw_or1 (pt_cmpR op_le (pv 4) (pv 3) (nomark _))))) (pss_one ps_never) pss_nil) (pss_one (ps_set (i := 1) sc_check_stretches.nd rfl (Or.inl rfl) (pv 4)))))))), ?_⟩
    refine ⟨_, rfl, ?_⟩
    refine ⟨_, rfl, ?_⟩
    obtain ⟨p1, xs2, rfl, s3, a4⟩ := dp_tup r_stretches
    refine ⟨_, _, rfl, (ex_t e s3), ?_⟩
    refine for_m (M := []) (F := F) (wlk_enumT e s3 a4) (fun b5 F' H' σ' => ∃ (u2 : Option V) (u3 : Option V) (u4 : Option V) (u5 : Option V), σ' = [some (V.ref p1), some (V.int b5), u2, u3, u4, u5]) k e ⟨_, _, _, _, rfl⟩ (fun b5 x6 v14 σ16 F7 H8 F9 H10 g11 i15 g12 r13 nx kfb5 => ?_) (fun b22 σ21 F17 H18 g19 i20 k => ?_)
    · replace r_stretches := r_stretches.up g11.f
      replace s3 := ex_t g11.f s3
      replace a4 := a4.up g11.f
      obtain ⟨u23, u24, u25, u26, rfl⟩ := i15
      replace r_stretches := r_stretches.up g12.f
      replace s3 := ex_t g12.f s3
      replace a4 := a4.up g12.f
      have eF9 := g12.s
      have gF9 := g11.trans (g12.weak (by simp))
      obtain ⟨p27, x28, x29, rfl, s30, d31, d32⟩ := dp_tup2 r13
      obtain rfl := dp_int d31
      refine ⟨_, _, rfl, ex_t eF9 s30, rfl, _, _, rfl, _, _, rfl, ?_⟩
      obtain ⟨p33, x34, x35, x36, rfl, s37, d38, d39, d40⟩ := dp_tup3 d32
      obtain rfl := dp_int d38
      obtain rfl := dp_int d39
      obtain rfl := dp_int d40
      refine ⟨_, _, rfl, ex_t eF9 s37, rfl, _, _, rfl, _, _, rfl, _, _, rfl, rfl, rfl, ?_⟩
      refine ⟨_, rfl, rfl, ?_⟩
      rw [decV_int]
      refine ⟨_, rfl, ?_⟩
      refine or_jM (M := []) eF9 kfb5 (fun _ Q' kfb5tb41 => ?_) (fun b41 F42 H43 g44 kfb5 => ?_)
      · have gF9_ := Gm.refl (M := []) eF9
        refine ⟨_, rfl, ?_⟩
        refine ⟨F9, x6.2.1, rfl, eF9, (post_bd kfb5tb41).mono (fun b45 kfb5tb41 v50 F46 H47 g48 r49 => ?_) (fun _ z => z)⟩
        have eF46 := g48.s
        have gF46 := gF9_.trans (g48.weak (by simp))
        replace r_stretches := r_stretches.up g48.f
        replace s3 := ex_t g48.f s3
        replace a4 := a4.up g48.f
        replace r13 := r13.up g48.f
        replace s30 := ex_t g48.f s30
        replace d32 := d32.up g48.f
        replace s37 := ex_t g48.f s37
        subst r49
        refine ⟨_, rfl, ?_⟩
        refine or_jM (M := []) eF46 kfb5tb41 (fun _ Q' kfb5tb41tb52 => ?_) (fun b52 F53 H54 g55 kfb5tb41 => ?_)
        · have gF46_ := Gm.refl (M := []) eF46
          refine ⟨_, rfl, ?_⟩
          refine ⟨F46, x6.2.2.1, rfl, eF46, (post_bd kfb5tb41tb52).mono (fun b56 kfb5tb41tb52 v61 F57 H58 g59 r60 => ?_) (fun _ z => z)⟩
          have eF57 := g59.s
          have gF57 := gF46_.trans (g59.weak (by simp))
          replace r_stretches := r_stretches.up g59.f
          replace s3 := ex_t g59.f s3
          replace a4 := a4.up g59.f
          replace r13 := r13.up g59.f
          replace s30 := ex_t g59.f s30
          replace d32 := d32.up g59.f
          replace s37 := ex_t g59.f s37
          subst r60
          refine ⟨_, rfl, ?_⟩
          refine or_jM (M := []) eF57 kfb5tb41tb52 (fun _ Q' kfb5tb41tb52tb63 => ?_) (fun b63 F64 H65 g66 kfb5tb41tb52 => ?_)
          · have gF57_ := Gm.refl (M := []) eF57
            refine ⟨_, rfl, ?_⟩
            refine ⟨F57, x6.2.2.2, rfl, eF57, (post_bd kfb5tb41tb52tb63).mono (fun b67 kfb5tb41tb52tb63 v72 F68 H69 g70 r71 => ?_) (fun _ z => z)⟩
            have eF68 := g70.s
            have gF68 := gF57_.trans (g70.weak (by simp))
            replace r_stretches := r_stretches.up g70.f
            replace s3 := ex_t g70.f s3
            replace a4 := a4.up g70.f
            replace r13 := r13.up g70.f
            replace s30 := ex_t g70.f s30
            replace d32 := d32.up g70.f
            replace s37 := ex_t g70.f s37
            subst r71
            refine ⟨_, rfl, ?_⟩
            exact kfb5tb41tb52tb63.h _ _ gF68
          have eF64 := g66.s
          have gF64 := gF57.trans (g66.weak (by simp))
          replace r_stretches := r_stretches.up g66.f
          replace s3 := ex_t g66.f s3
          replace a4 := a4.up g66.f
          replace r13 := r13.up g66.f
          replace s30 := ex_t g66.f s30
          replace d32 := d32.up g66.f
          replace s37 := ex_t g66.f s37
          exact kfb5tb41tb52.h _ _ gF64
        have eF53 := g55.s
        have gF53 := gF46.trans (g55.weak (by simp))
        replace r_stretches := r_stretches.up g55.f
        replace s3 := ex_t g55.f s3
        replace a4 := a4.up g55.f
        replace r13 := r13.up g55.f
        replace s30 := ex_t g55.f s30
        replace d32 := d32.up g55.f
        replace s37 := ex_t g55.f s37
        exact kfb5tb41.h _ _ gF53
      have eF42 := g44.s
      have gF42 := gF9.trans (g44.weak (by simp))
      replace r_stretches := r_stretches.up g44.f
      replace s3 := ex_t g44.f s3
      replace a4 := a4.up g44.f
      replace r13 := r13.up g44.f
      replace s30 := ex_t g44.f s30
      replace d32 := d32.up g44.f
      replace s37 := ex_t g44.f s37
      refine cs kfb5 (fun _ kfb5 => ?_) (fun _ kfb5 => ?_)
      · exact kfb5.elim
      · refine ⟨_, rfl, _, rfl, _, _, rfl, rfl, _, rfl, ?_⟩
        refine or_j (b := (decide (x6.2.2.1 ≤ x6.2.1))) (fun _ Q' q => ?_) ?_
        · refine ⟨_, rfl, _, rfl, _, _, rfl, rfl, _, rfl, ?_⟩
          exact q
        refine cs kfb5 (fun _ kfb5 => ?_) (fun _ kfb5 => ?_)
        · exact kfb5.elim
        · refine ⟨_, rfl, ?_⟩
          exact kfb5.h _ _ _ gF42 ⟨_, _, _, _, rfl⟩
    have g74 := g_.trans (g19.weak (by simp))
    replace r_stretches := r_stretches.up g19.f
    replace s3 := ex_t g19.f s3
    replace a4 := a4.up g19.f
    have eF17 := g19.s
    obtain ⟨u75, u76, u77, u78, rfl⟩ := i20
    exact k.h _ _ _ g74 rfl
/-! ### Weighting.__init__ -/
abbrev s_Weighting_init : Stmt := inClass (top 30) 0
theorem sc_Weighting_init : FnScope ["self", "masses", "stretches", "place", "mass", "low", "high", "height"] ["self", "masses", "stretches"] (defScope s_Weighting_init) := ⟨rfl, rfl, rfl, by decide +kernel, rfl, by decide +kernel, by decide +kernel⟩
def Weighting_init (masses : Ms) (stretches : Ss) : Mm Wt := (check_masses (masses)).bd fun b1 => (check_stretches (stretches)).bd fun b8 => (cond (decide ((masses.length : Int) = (0 : Int))) (Mm.ok (decide ((stretches.length : Int) = (0 : Int)))) (Mm.ok false)).bd fun b19 => cond b19 (Mm.bad) ((guardM (masses.length ≤ 50000)).bd fun _ => (mapMm (fun (x29 : (Int × Int)) => Mm.ok (x29.1, x29.2)) masses).bd fun b28 => (guardM (stretches.length ≤ 50000)).bd fun _ => (mapMm (fun (x77 : (Int × Int × Int)) => Mm.ok (x77.1, x77.2.1, x77.2.2)) stretches).bd fun b76 => Mm.ok (b28, b76))
theorem ok_Weighting_init {P : Program} {w : World} {K : PySem.W.Frag} {mg : Str → Option Value} {base : Heap} {C f : Addr} {fd : FuncData} (B : Bi mg) (cl : Cls K C) (n_masses : NoAttr K C "_masses") (n_stretches : NoAttr K C "_stretches") (FF : FunD K "__init__" "Weighting.__init__" (defArgs s_Weighting_init) (defBody s_Weighting_init) (defScope s_Weighting_init) [] [] f fd) (G_check_masses : Kn P w K mg base "check_masses" 3 ["masses"] (sp_check_masses K)) (G_check_stretches : Kn P w K mg base "check_stretches" 3 ["stretches"] (sp_check_stretches K)) : FnOk P w K mg base CX0 4 f fd ["self", "masses", "stretches"] (spW0 Weighting_init K C) := by
  refine FF.ok sc_Weighting_init (fun vs H Q E h => ?_) (fun cdv A outer s H vs Q E hr h => ?_)
  · obtain ⟨F, x, dx, v_masses, v_stretches, masses, stretches, rfl, _⟩ := h; rfl
  · obtain ⟨F, x, dx, v_masses, v_stretches, masses, stretches, rfl, e, hx, fx, r_masses, r_stretches, k⟩ := h
    have o : H x = some (.ins C dx []) ∧ F x = none := ⟨hx, fx⟩
    unfold Weighting_init at k
    have g_ := Gm.refl (M := [x]) e
    refine ⟨_, PSs.nox (pss_cons (ps_expr (pe_kn G_check_masses (hr.mono (by decide)) (pa_cons (pv 1) (pa_nil)))) (pss_cons (ps_expr (pe_kn G_check_stretches (hr.mono (by decide)) (pa_cons (pv 2) (pa_nil)))) (pss_cons (ps_if (PW.pt (pw_and (pt_cmpR op_eq (pe_callB call_lenM (by rfl) B.len (by decide +kernel) (pa_cons (pv 1) pa_nil)) (pe_int) (nomark _)) (pw_and1 (pt_cmpR op_eq (pe_callB call_lenM (by rfl) B.len (by decide +kernel) (pa_cons (pv 2) pa_nil)) (pe_int) (nomark _))))) (pss_one ps_never) pss_nil) (pss_cons (ps_fld (pv 0) (pe_q (pe_callTy call_tuple_of (by rfl) B.tuple (by decide +kernel) (pa_cons (pe_q (pe_lc (own := [("place", 3), ("mass", 4)]) (g := gTup K 2 (gCons (gName 3) (gCons (gName 4) gNil))) rfl sc_Weighting_init.nd (pi_tup (pv 1)) (blkOk_by (N := ["self", "masses", "stretches", "place", "mass", "low", "high", "height"]) (sc := defScope s_Weighting_init) (by decide +kernel)) (fun _ _ _ _ _ => pg_tup (by rfl) (pgs_cons (pg_name (i := 3) sc_Weighting_init.nd rfl (Or.inl rfl)) (pgs_cons (pg_name (i := 4) sc_Weighting_init.nd rfl (Or.inl rfl)) (pgs_nil)))) (fun _ _ _ _ _ => pts_nil) (fun _ _ _ _ _ => pe_q (pe_tup (pa_cons (pv 3) (pa_cons (pv 4) (pa_nil))))))) pa_nil))) rfl) (pss_one (ps_fld (pv 0) (pe_q (pe_callTy call_tuple_of (by rfl) B.tuple (by decide +kernel) (pa_cons (pe_q (pe_lc (own := [("low", 5), ("high", 6), ("height", 7)]) (g := gTup K 3 (gCons (gName 5) (gCons (gName 6) (gCons (gName 7) gNil)))) rfl sc_Weighting_init.nd (pi_tup (pv 2)) (blkOk_by (N := ["self", "masses", "stretches", "place", "mass", "low", "high", "height"]) (sc := defScope s_Weighting_init) (by decide +kernel)) (fun _ _ _ _ _ => pg_tup (by rfl) (pgs_cons (pg_name (i := 5) sc_Weighting_init.nd rfl (Or.inl rfl)) (pgs_cons (pg_name (i := 6) sc_Weighting_init.nd rfl (Or.inl rfl)) (pgs_cons (pg_name (i := 7) sc_Weighting_init.nd rfl (Or.inl rfl)) (pgs_nil))))) (fun _ _ _ _ _ => pts_nil) (fun _ _ _ _ _ => pe_q (pe_tup (pa_cons (pv 5) (pa_cons (pv 6) (pa_cons (pv 7) (pa_nil)))))))) pa_nil))) rfl)))))), ?_⟩
    refine ⟨_, rfl, ?_⟩
    refine ⟨F, _, masses, rfl, e, r_masses, (post_bd k).mono (fun b1 k v6 F2 H3 g4 r5 => ?_) (fun _ z => z)⟩
    have eF2 := g4.s
    have gF2 := g_.trans (g4.weak (by simp))
    replace o := g4.own (by simp [*]) o.1 o.2
    replace r_masses := r_masses.up g4.f
    replace r_stretches := r_stretches.up g4.f
    subst r5
    refine ⟨_, rfl, ?_⟩
    refine ⟨F2, _, stretches, rfl, eF2, r_stretches, (post_bd k).mono (fun b8 k v13 F9 H10 g11 r12 => ?_) (fun _ z => z)⟩
    have eF9 := g11.s
    have gF9 := gF2.trans (g11.weak (by simp))
    replace o := g11.own (by simp [*]) o.1 o.2
    replace r_masses := r_masses.up g11.f
    replace r_stretches := r_stretches.up g11.f
    subst r12
    refine ⟨_, rfl, ?_⟩
    obtain ⟨p15, xs16, rfl, s17, a18⟩ := dp_tup r_masses
    refine ⟨_, _, _, rfl, .inr (ex_t eF9 s17), len_all a18, rfl, ?_⟩
    rw [decV_int]
    refine ⟨_, rfl, ?_⟩
    refine and_jM (M := []) eF9 k (fun _ Q' ktb19 => ?_) (fun b19 F20 H21 g22 k => ?_)
    · have gF9_ := Gm.refl (M := []) eF9
      refine ⟨_, rfl, ?_⟩
      obtain ⟨p23, xs24, rfl, s25, a26⟩ := dp_tup r_stretches
      refine ⟨_, _, _, rfl, .inr (ex_t eF9 s25), len_all a26, rfl, ?_⟩
      rw [decV_int]
      refine ⟨_, rfl, ?_⟩
      exact ktb19.h _ _ gF9_
    have eF20 := g22.s
    have gF20 := gF9.trans (g22.weak (by simp))
    replace o := g22.own (by simp [*]) o.1 o.2
    replace r_masses := r_masses.up g22.f
    replace r_stretches := r_stretches.up g22.f
    replace s17 := ex_t g22.f s17
    replace a18 := a18.up g22.f
    refine cs k (fun _ k => ?_) (fun _ k => ?_)
    · exact k.elim
    · refine ⟨_, rfl, ?_⟩
      refine ⟨_, rfl, ⟨_, (ex_t eF20 s17)⟩, ?_⟩
      obtain ⟨h46, k⟩ := post_guard k
      refine lc_map (K := K) (M := []) (wlk_tup eF20 s17 a18) (e2 PyData.int PyData.int) k eF20 h46 (fun _ _ => by simp) (fun x29 v44 F37 H38 F39 H40 g41 g42 r43 Q' k27 => ?_) (fun _ z => z) (fun b28 v30 F31 H32 g33 r34 k => ?_) (gm_tup (gms_cons gm_name (gms_cons gm_name gms_nil)))
      · have g47 := Gm.refl (M := []) g41.s
        replace o := g41.own (by simp [*]) o.1 o.2
        replace r_masses := r_masses.up g41.f
        replace r_stretches := r_stretches.up g41.f
        replace s17 := ex_t g41.f s17
        replace a18 := a18.up g41.f
        replace o := g42.own (by simp [*]) o.1 o.2
        replace r_masses := r_masses.up g42.f
        replace r_stretches := r_stretches.up g42.f
        replace s17 := ex_t g42.f s17
        replace a18 := a18.up g42.f
        have eF39 := g42.s
        have gF39 := g47.trans (g42.weak (by simp))
        obtain ⟨p48, x49, x50, rfl, s51, d52, d53⟩ := dp_tup2 r43
        obtain rfl := dp_int d52
        obtain rfl := dp_int d53
        refine ⟨_, _, rfl, ex_t eF39 s51, rfl, _, _, rfl, _, _, rfl, rfl, rfl, _, rfl, _, rfl, ?_⟩
        show _ ∧ _
        refine new_tup (K := K) (M := []) eF39 (.cons (Dq.int x29.1) (.cons (Dq.int x29.2) .nil)) (by show 2 ≤ 100000; decide) fun v58 F54 H55 g56 r57 => ?_
        have eF54 := g56.s
        have gF54 := gF39.trans (g56.weak (by simp))
        replace o := g56.own (by simp [*]) o.1 o.2
        replace r_masses := r_masses.up g56.f
        replace r_stretches := r_stretches.up g56.f
        replace s17 := ex_t g56.f s17
        replace a18 := a18.up g56.f
        replace r43 := r43.up g56.f
        replace s51 := ex_t g56.f s51
        replace r57 : Dq K F54 v58 ((e2 PyData.int PyData.int) (x29.1, x29.2)) := r57
        exact k27.h _ _ _ gF54 r57
      have eF31 := g33.s
      have gF31 := gF20.trans (g33.weak (by simp))
      replace o := g33.own (by simp [*]) o.1 o.2
      replace r_masses := r_masses.up g33.f
      replace r_stretches := r_stretches.up g33.f
      replace s17 := ex_t g33.f s17
      replace a18 := a18.up g33.f
      obtain ⟨p60, xs61, rfl, s62, a63⟩ := dp_lst r34
      refine to_VL (K := K) (M := []) eF31 s62 a63 (en := (e2 PyData.int PyData.int)) (l := b28) fun v68 F64 H65 g66 r67 => ?_
      have eF64 := g66.s
      have gF64 := gF31.trans (g66.weak (by simp))
      replace o := g66.own (by simp [*]) o.1 o.2
      replace r_masses := r_masses.up g66.f
      replace r_stretches := r_stretches.up g66.f
      replace s17 := ex_t g66.f s17
      replace a18 := a18.up g66.f
      replace r34 := r34.up g66.f
      replace s62 := g66.f _ _ s62
      replace a63 := a63.up g66.f
      refine ⟨_, rfl, x, C, dx, _, rfl, o.1, cl, n_masses, (by show 0 < 1000; decide), ?_⟩
      have g69 := gF64.putIn (o := .ins C dx (putF "_masses" v68 [])) (by simp) o.1 o.2
      replace o : (upd H65 x (.ins C dx (putF "_masses" v68 []))) x = some (.ins C dx (putF "_masses" v68 [])) ∧ F64 x = none := ⟨upd_same, o.2⟩
      have e70 := g69.s
      refine ⟨_, rfl, ?_⟩
      obtain ⟨p71, xs72, rfl, s73, a74⟩ := dp_tup r_stretches
      refine ⟨_, rfl, ⟨_, (ex_t e70 s73)⟩, ?_⟩
      obtain ⟨h94, k⟩ := post_guard k
      refine lc_map (K := K) (M := []) (wlk_tup e70 s73 a74) (e3 PyData.int PyData.int PyData.int) k e70 h94 (fun _ _ => by simp) (fun x77 v92 F85 H86 F87 H88 g89 g90 r91 Q' k75 => ?_) (fun _ z => z) (fun b76 v78 F79 H80 g81 r82 k => ?_) (gm_tup (gms_cons gm_name (gms_cons gm_name (gms_cons gm_name gms_nil))))
      · have g95 := Gm.refl (M := []) g89.s
        replace o := g89.own (by simp [*]) o.1 o.2
        replace r_masses := r_masses.up g89.f
        replace r_stretches := r_stretches.up g89.f
        replace s17 := ex_t g89.f s17
        replace a18 := a18.up g89.f
        replace r34 := r34.up g89.f
        replace s62 := g89.f _ _ s62
        replace a63 := a63.up g89.f
        replace r67 := r67.up g89.f
        replace s73 := ex_t g89.f s73
        replace a74 := a74.up g89.f
        replace o := g90.own (by simp [*]) o.1 o.2
        replace r_masses := r_masses.up g90.f
        replace r_stretches := r_stretches.up g90.f
        replace s17 := ex_t g90.f s17
        replace a18 := a18.up g90.f
        replace r34 := r34.up g90.f
        replace s62 := g90.f _ _ s62
        replace a63 := a63.up g90.f
        replace r67 := r67.up g90.f
        replace s73 := ex_t g90.f s73
        replace a74 := a74.up g90.f
        have eF87 := g90.s
        have gF87 := g95.trans (g90.weak (by simp))
        obtain ⟨p96, x97, x98, x99, rfl, s100, d101, d102, d103⟩ := dp_tup3 r91
        obtain rfl := dp_int d101
        obtain rfl := dp_int d102
        obtain rfl := dp_int d103
        refine ⟨_, _, rfl, ex_t eF87 s100, rfl, _, _, rfl, _, _, rfl, _, _, rfl, rfl, rfl, _, rfl, _, rfl, _, rfl, ?_⟩
        show _ ∧ _
        refine new_tup (K := K) (M := []) eF87 (.cons (Dq.int x77.1) (.cons (Dq.int x77.2.1) (.cons (Dq.int x77.2.2) .nil))) (by show 3 ≤ 100000; decide) fun v108 F104 H105 g106 r107 => ?_
        have eF104 := g106.s
        have gF104 := gF87.trans (g106.weak (by simp))
        replace o := g106.own (by simp [*]) o.1 o.2
        replace r_masses := r_masses.up g106.f
        replace r_stretches := r_stretches.up g106.f
        replace s17 := ex_t g106.f s17
        replace a18 := a18.up g106.f
        replace r34 := r34.up g106.f
        replace s62 := g106.f _ _ s62
        replace a63 := a63.up g106.f
        replace r67 := r67.up g106.f
        replace s73 := ex_t g106.f s73
        replace a74 := a74.up g106.f
        replace r91 := r91.up g106.f
        replace s100 := ex_t g106.f s100
        replace r107 : Dq K F104 v108 ((e3 PyData.int PyData.int PyData.int) (x77.1, x77.2.1, x77.2.2)) := r107
        exact k75.h _ _ _ gF104 r107
      have eF79 := g81.s
      have gF79 := g69.trans (g81.weak (by simp))
      replace o := g81.own (by simp [*]) o.1 o.2
      replace r_masses := r_masses.up g81.f
      replace r_stretches := r_stretches.up g81.f
      replace s17 := ex_t g81.f s17
      replace a18 := a18.up g81.f
      replace r34 := r34.up g81.f
      replace s62 := g81.f _ _ s62
      replace a63 := a63.up g81.f
      replace r67 := r67.up g81.f
      replace s73 := ex_t g81.f s73
      replace a74 := a74.up g81.f
      obtain ⟨p110, xs111, rfl, s112, a113⟩ := dp_lst r82
      refine to_VL (K := K) (M := []) eF79 s112 a113 (en := (e3 PyData.int PyData.int PyData.int)) (l := b76) fun v118 F114 H115 g116 r117 => ?_
      have eF114 := g116.s
      have gF114 := gF79.trans (g116.weak (by simp))
      replace o := g116.own (by simp [*]) o.1 o.2
      replace r_masses := r_masses.up g116.f
      replace r_stretches := r_stretches.up g116.f
      replace s17 := ex_t g116.f s17
      replace a18 := a18.up g116.f
      replace r34 := r34.up g116.f
      replace s62 := g116.f _ _ s62
      replace a63 := a63.up g116.f
      replace r67 := r67.up g116.f
      replace s73 := ex_t g116.f s73
      replace a74 := a74.up g116.f
      replace r82 := r82.up g116.f
      replace s112 := g116.f _ _ s112
      replace a113 := a113.up g116.f
      refine ⟨_, rfl, x, C, dx, _, rfl, o.1, cl, n_stretches, (by show 1 < 1000; decide), ?_⟩
      have g119 := gF114.putIn (o := .ins C dx (putF "_stretches" v118 (putF "_masses" v68 []))) (by simp) o.1 o.2
      replace o : (upd H115 x (.ins C dx (putF "_stretches" v118 (putF "_masses" v68 [])))) x = some (.ins C dx (putF "_stretches" v118 (putF "_masses" v68 []))) ∧ F114 x = none := ⟨upd_same, o.2⟩
      have e120 := g119.s
      exact k.h _ _ _ _ g119 o.1 o.2 r67 r117
/-! ### power_sum -/
abbrev s_power_sum : Stmt := top 35
theorem sc_power_sum : FnScope ["weighting", "power", "up", "masses", "areas", "place", "mass", "low", "high", "height"] ["weighting", "power"] (defScope s_power_sum) := ⟨rfl, rfl, rfl, by decide +kernel, rfl, by decide +kernel, by decide +kernel⟩
def power_sum (weighting : Wt) (power : Int) : Mm (Int × Int) := (check_within (power) ((0 : Int)) ((60 : Int))).bd fun b1 => (guardM (weighting.1.length ≤ 50000)).bd fun _ => (mapMm (fun (x21 : (Int × Int)) => (power_of (x21.1) (power)).bd fun b46 => (mulM x21.2 b46).bd fun m53 => Mm.ok m53) weighting.1).bd fun b20 => (guardM (weighting.2.length ≤ 50000)).bd fun _ => (mapMm (fun (x67 : (Int × Int × Int)) => (power_of (x67.2.1) ((power + (1 : Int)))).bd fun b94 => (power_of (x67.1) ((power + (1 : Int)))).bd fun b101 => (mulM x67.2.2 (b94 - b101)).bd fun m108 => Mm.ok m108) weighting.2).bd fun b66 => (mulM (List.sum b20) (power + (1 : Int))).bd fun m116 => (lowest ((m116 + (List.sum b66))) ((power + (1 : Int)))).bd fun b119 => Mm.ok b119
def sp_power_sum (K : PySem.W.Frag) (C : Addr) : Sp := fun vs H Q _ => ∃ (F : Hp) (v_weighting : V) (weighting : Wt) (power : Int), vs = [v_weighting, (V.int power)] ∧ Ex F H ∧ IsW K C F v_weighting weighting ∧ Post (power_sum weighting power) (fun r => Ret [] F H (fun F' _ v => Dq K F' v ((e2 PyData.int PyData.int) r)) Q) (fun _ => False)
theorem ok_power_sum {P : Program} {w : World} {K : PySem.W.Frag} {mg : Str → Option Value} {base : Heap} {C f : Addr} {fd : FuncData} (B : Bi mg) (FF : FunD K "power_sum" "power_sum" (defArgs s_power_sum) (defBody s_power_sum) (defScope s_power_sum) [] [] f fd) (G_check_within : Kn P w K mg base "check_within" 2 ["number", "low", "high"] (sp_check_within K)) (G_power_of : Kn P w K mg base "power_of" 1 ["base", "power"] (sp_power_of K)) (G_lowest : Kn P w K mg base "lowest" 1 ["top", "bottom"] (sp_lowest K)) (c_MOST_POWER : ∃ t, mg "MOST_POWER" = some (.int 60 t)) (GP_masses : KnP P w K mg base C "masses" "_masses") (GP_stretches : KnP P w K mg base C "stretches" "_stretches") : FnOk P w K mg base CX0 3 f fd ["weighting", "power"] (sp_power_sum K C) := by
  refine FF.ok sc_power_sum (fun vs H Q E h => ?_) (fun cdv A outer s H vs Q E hr h => ?_)
  · obtain ⟨F, v_weighting, weighting, power, rfl, _⟩ := h; rfl
  · obtain ⟨F, v_weighting, weighting, power, rfl, e, r_weighting, k⟩ := h
    unfold power_sum at k
    have g_ := Gm.refl (M := []) e
    refine ⟨_, PSs.nox (pss_cons (ps_expr (pe_kn G_check_within (hr.mono (by decide)) (pa_cons (pv 1) (pa_cons (pe_int) (pa_cons (pe_gint c_MOST_POWER) (pa_nil)))))) (pss_cons (ps_set (i := 2) sc_power_sum.nd rfl (Or.inr rfl) (pe_op op_add (pv 1) (pe_int))) (pss_cons (ps_set (i := 3) sc_power_sum.nd rfl (Or.inl rfl) (pe_callB (cr_sum rfl) (by rfl) B.sum (by decide +kernel) (pa_cons (pe_q (pe_lc (own := [("place", 5), ("mass", 6)]) (g := gTup K 2 (gCons (gName 5) (gCons (gName 6) gNil))) rfl sc_power_sum.nd (pi_tup (pe_propK GP_masses (hr.mono (by decide)) (pv 0))) (blkOk_by (N := ["weighting", "power", "up", "masses", "areas", "place", "mass", "low", "high", "height"]) (sc := defScope s_power_sum) (by decide +kernel)) (fun _ _ _ _ _ => pg_tup (by rfl) (pgs_cons (pg_name (i := 5) sc_power_sum.nd rfl (Or.inl rfl)) (pgs_cons (pg_name (i := 6) sc_power_sum.nd rfl (Or.inl rfl)) (pgs_nil)))) (fun _ _ _ _ _ => pts_nil) (fun _ _ _ _ _ => pe_op op_mulM (pv 6) (pe_kn G_power_of (hr.mono (by decide)) (pa_cons (pv 5) (pa_cons (pv 1) (pa_nil))))))) pa_nil))) (pss_cons (ps_set (i := 4) sc_power_sum.nd rfl (Or.inl rfl) (pe_callB (cr_sum rfl) (by rfl) B.sum (by decide +kernel) (pa_cons (pe_q (pe_lc (own := [("low", 7), ("high", 8), ("height", 9)]) (g := gTup K 3 (gCons (gName 7) (gCons (gName 8) (gCons (gName 9) gNil)))) rfl sc_power_sum.nd (pi_tup (pe_propK GP_stretches (hr.mono (by decide)) (pv 0))) (blkOk_by (N := ["weighting", "power", "up", "masses", "areas", "place", "mass", "low", "high", "height"]) (sc := defScope s_power_sum) (by decide +kernel)) (fun _ _ _ _ _ => pg_tup (by rfl) (pgs_cons (pg_name (i := 7) sc_power_sum.nd rfl (Or.inl rfl)) (pgs_cons (pg_name (i := 8) sc_power_sum.nd rfl (Or.inl rfl)) (pgs_cons (pg_name (i := 9) sc_power_sum.nd rfl (Or.inl rfl)) (pgs_nil))))) (fun _ _ _ _ _ => pts_nil) (fun _ _ _ _ _ => pe_op op_mulM (pv 9) (pe_op op_sub (pe_kn G_power_of (hr.mono (by decide)) (pa_cons (pv 8) (pa_cons (pv 2) (pa_nil)))) (pe_kn G_power_of (hr.mono (by decide)) (pa_cons (pv 7) (pa_cons (pv 2) (pa_nil)))))))) pa_nil))) (pss_one (ps_ret (pe_kn G_lowest (hr.mono (by decide)) (pa_cons (pe_op op_add (pe_op op_mulM (pv 3) (pv 2)) (pv 4)) (pa_cons (pv 2) (pa_nil)))))))))), ?_⟩
    refine ⟨_, rfl, ?_⟩
    refine ⟨F, power, (0 : Int), (60 : Int), rfl, e, (post_bd k).mono (fun b1 k v6 F2 H3 g4 r5 => ?_) (fun _ z => z)⟩
    have eF2 := g4.s
    have gF2 := g_.trans (g4.weak (by simp))
    replace r_weighting := r_weighting.up g4.f
    subst r5
    refine ⟨_, rfl, _, _, rfl, rfl, ?_⟩
    refine ⟨_, rfl, ?_⟩
    obtain ⟨a8, dx9, m10, t11, rfl, h12, r13, r14⟩ := r_weighting.ex
    refine ⟨_, _, _, rfl, eF2 _ _ h12, _, _, _, _, rfl, eF2 _ _ h12, wf_m _ _, ?_⟩
    obtain ⟨p15, xs16, rfl, s17, a18⟩ := dp_tup r13
    refine ⟨_, rfl, ⟨_, (ex_t eF2 s17)⟩, ?_⟩
    obtain ⟨h38, k⟩ := post_guard k
    refine lc_map (K := K) (M := []) (wlk_tup eF2 s17 a18) PyData.int k eF2 h38 (fun _ _ => by simp) (fun x21 v36 F29 H30 F31 H32 g33 g34 r35 Q' k19 => ?_) (fun _ z => z) (fun b20 v22 F23 H24 g25 r26 k => ?_) (gm_tup (gms_cons gm_name (gms_cons gm_name gms_nil)))
    · have g39 := Gm.refl (M := []) g33.s
      replace r_weighting := r_weighting.up g33.f
      replace h12 := g33.f _ _ h12
      replace r13 := r13.up g33.f
      replace r14 := r14.up g33.f
      replace s17 := ex_t g33.f s17
      replace a18 := a18.up g33.f
      replace r_weighting := r_weighting.up g34.f
      replace h12 := g34.f _ _ h12
      replace r13 := r13.up g34.f
      replace r14 := r14.up g34.f
      replace s17 := ex_t g34.f s17
      replace a18 := a18.up g34.f
      have eF31 := g34.s
      have gF31 := g39.trans (g34.weak (by simp))
      obtain ⟨p40, x41, x42, rfl, s43, d44, d45⟩ := dp_tup2 r35
      obtain rfl := dp_int d44
      obtain rfl := dp_int d45
      refine ⟨_, _, rfl, ex_t eF31 s43, rfl, _, _, rfl, _, _, rfl, rfl, rfl, _, rfl, _, rfl, _, rfl, ?_⟩
      refine ⟨F31, x21.1, power, rfl, eF31, (post_bd k19).mono (fun b46 k19 v51 F47 H48 g49 r50 => ?_) (fun _ z => z)⟩
      have eF47 := g49.s
      have gF47 := gF31.trans (g49.weak (by simp))
      replace r_weighting := r_weighting.up g49.f
      replace h12 := g49.f _ _ h12
      replace r13 := r13.up g49.f
      replace r14 := r14.up g49.f
      replace s17 := ex_t g49.f s17
      replace a18 := a18.up g49.f
      replace r35 := r35.up g49.f
      replace s43 := ex_t g49.f s43
      subst r50
      obtain ⟨m53, c54, q55, k19⟩ := post_mul k19
      refine ⟨_, _, _, rfl, rfl, c54, q55, ?_⟩
      exact k19.h _ _ _ gF47 (Dq.int m53)
    have eF23 := g25.s
    have gF23 := gF2.trans (g25.weak (by simp))
    replace r_weighting := r_weighting.up g25.f
    replace h12 := g25.f _ _ h12
    replace r13 := r13.up g25.f
    replace r14 := r14.up g25.f
    replace s17 := ex_t g25.f s17
    replace a18 := a18.up g25.f
    obtain ⟨p57, xs58, rfl, s59, a60⟩ := dp_lst r26
    obtain rfl := all_ints a60
    refine ⟨_, _, rfl, (sq_of (eF23 _ _ s59)), ?_⟩
    refine ⟨_, rfl, ?_⟩
    refine ⟨_, _, _, rfl, eF23 _ _ h12, _, _, _, _, rfl, eF23 _ _ h12, wf_s _ _, ?_⟩
    obtain ⟨p61, xs62, rfl, s63, a64⟩ := dp_tup r14
    refine ⟨_, rfl, ⟨_, (ex_t eF23 s63)⟩, ?_⟩
    obtain ⟨h84, k⟩ := post_guard k
    refine lc_map (K := K) (M := []) (wlk_tup eF23 s63 a64) PyData.int k eF23 h84 (fun _ _ => by simp) (fun x67 v82 F75 H76 F77 H78 g79 g80 r81 Q' k65 => ?_) (fun _ z => z) (fun b66 v68 F69 H70 g71 r72 k => ?_) (gm_tup (gms_cons gm_name (gms_cons gm_name (gms_cons gm_name gms_nil))))
    · have g85 := Gm.refl (M := []) g79.s
      replace r_weighting := r_weighting.up g79.f
      replace h12 := g79.f _ _ h12
      replace r13 := r13.up g79.f
      replace r14 := r14.up g79.f
      replace s17 := ex_t g79.f s17
      replace a18 := a18.up g79.f
      replace r26 := r26.up g79.f
      replace s59 := g79.f _ _ s59
      replace a60 := a60.up g79.f
      replace s63 := ex_t g79.f s63
      replace a64 := a64.up g79.f
      replace r_weighting := r_weighting.up g80.f
      replace h12 := g80.f _ _ h12
      replace r13 := r13.up g80.f
      replace r14 := r14.up g80.f
      replace s17 := ex_t g80.f s17
      replace a18 := a18.up g80.f
      replace r26 := r26.up g80.f
      replace s59 := g80.f _ _ s59
      replace a60 := a60.up g80.f
      replace s63 := ex_t g80.f s63
      replace a64 := a64.up g80.f
      have eF77 := g80.s
      have gF77 := g85.trans (g80.weak (by simp))
      obtain ⟨p86, x87, x88, x89, rfl, s90, d91, d92, d93⟩ := dp_tup3 r81
      obtain rfl := dp_int d91
      obtain rfl := dp_int d92
      obtain rfl := dp_int d93
      refine ⟨_, _, rfl, ex_t eF77 s90, rfl, _, _, rfl, _, _, rfl, _, _, rfl, rfl, rfl, _, rfl, _, rfl, _, rfl, ?_⟩
      refine ⟨F77, x67.2.1, (power + (1 : Int)), rfl, eF77, (post_bd k65).mono (fun b94 k65 v99 F95 H96 g97 r98 => ?_) (fun _ z => z)⟩
      have eF95 := g97.s
      have gF95 := gF77.trans (g97.weak (by simp))
      replace r_weighting := r_weighting.up g97.f
      replace h12 := g97.f _ _ h12
      replace r13 := r13.up g97.f
      replace r14 := r14.up g97.f
      replace s17 := ex_t g97.f s17
      replace a18 := a18.up g97.f
      replace r26 := r26.up g97.f
      replace s59 := g97.f _ _ s59
      replace a60 := a60.up g97.f
      replace s63 := ex_t g97.f s63
      replace a64 := a64.up g97.f
      replace r81 := r81.up g97.f
      replace s90 := ex_t g97.f s90
      subst r98
      refine ⟨_, rfl, _, rfl, ?_⟩
      refine ⟨F95, x67.1, (power + (1 : Int)), rfl, eF95, (post_bd k65).mono (fun b101 k65 v106 F102 H103 g104 r105 => ?_) (fun _ z => z)⟩
      have eF102 := g104.s
      have gF102 := gF95.trans (g104.weak (by simp))
      replace r_weighting := r_weighting.up g104.f
      replace h12 := g104.f _ _ h12
      replace r13 := r13.up g104.f
      replace r14 := r14.up g104.f
      replace s17 := ex_t g104.f s17
      replace a18 := a18.up g104.f
      replace r26 := r26.up g104.f
      replace s59 := g104.f _ _ s59
      replace a60 := a60.up g104.f
      replace s63 := ex_t g104.f s63
      replace a64 := a64.up g104.f
      replace r81 := r81.up g104.f
      replace s90 := ex_t g104.f s90
      subst r105
      refine ⟨_, _, rfl, rfl, ?_⟩
      obtain ⟨m108, c109, q110, k65⟩ := post_mul k65
      refine ⟨_, _, _, rfl, rfl, c109, q110, ?_⟩
      exact k65.h _ _ _ gF102 (Dq.int m108)
    have eF69 := g71.s
    have gF69 := gF23.trans (g71.weak (by simp))
    replace r_weighting := r_weighting.up g71.f
    replace h12 := g71.f _ _ h12
    replace r13 := r13.up g71.f
    replace r14 := r14.up g71.f
    replace s17 := ex_t g71.f s17
    replace a18 := a18.up g71.f
    replace r26 := r26.up g71.f
    replace s59 := g71.f _ _ s59
    replace a60 := a60.up g71.f
    replace s63 := ex_t g71.f s63
    replace a64 := a64.up g71.f
    obtain ⟨p112, xs113, rfl, s114, a115⟩ := dp_lst r72
    obtain rfl := all_ints a115
    refine ⟨_, _, rfl, (sq_of (eF69 _ _ s114)), ?_⟩
    refine ⟨_, rfl, _, rfl, ?_⟩
    obtain ⟨m116, c117, q118, k⟩ := post_mul k
    refine ⟨_, _, _, rfl, rfl, c117, q118, _, rfl, _, _, rfl, rfl, _, rfl, ?_⟩
    refine ⟨F69, (m116 + (List.sum b66)), (power + (1 : Int)), rfl, eF69, (post_bd k).mono (fun b119 k v124 F120 H121 g122 r123 => ?_) (fun _ z => z)⟩
    have eF120 := g122.s
    have gF120 := gF69.trans (g122.weak (by simp))
    replace r_weighting := r_weighting.up g122.f
    replace h12 := g122.f _ _ h12
    replace r13 := r13.up g122.f
    replace r14 := r14.up g122.f
    replace s17 := ex_t g122.f s17
    replace a18 := a18.up g122.f
    replace r26 := r26.up g122.f
    replace s59 := g122.f _ _ s59
    replace a60 := a60.up g122.f
    replace s63 := ex_t g122.f s63
    replace a64 := a64.up g122.f
    replace r72 := r72.up g122.f
    replace s114 := g122.f _ _ s114
    replace a115 := a115.up g122.f
    exact k.h _ _ _ gF120 r123
/-! ### weighed -/
abbrev s_weighed : Stmt := top 36
theorem sc_weighed : FnScope ["weighting", "coefficients", "power", "coefficient"] ["weighting", "coefficients"] (defScope s_weighed) := ⟨rfl, rfl, rfl, by decide +kernel, rfl, by decide +kernel, by decide +kernel⟩
def weighed (weighting : Wt) (coefficients : (List (Int × Int))) : Mm (Int × Int) := (guardM ((enumL coefficients).length ≤ 50000)).bd fun _ => (mapMm (fun (x7 : (Int × (Int × Int))) => (power_sum (weighting) (x7.1)).bd fun b32 => (times (x7.2) (b32)).bd fun b39 => Mm.ok b39) (enumL coefficients)).bd fun b6 => (added_up (b6)).bd fun b47 => Mm.ok b47
def sp_weighed (K : PySem.W.Frag) (C : Addr) : Sp := fun vs H Q _ => ∃ (F : Hp) (v_weighting : V) (weighting : Wt) (v_coefficients : V) (coefficients : (List (Int × Int))), vs = [v_weighting, v_coefficients] ∧ Ex F H ∧ IsW K C F v_weighting weighting ∧ Dq K F v_coefficients ((eL (e2 PyData.int PyData.int)) coefficients) ∧ Post (weighed weighting coefficients) (fun r => Ret [] F H (fun F' _ v => Dq K F' v ((e2 PyData.int PyData.int) r)) Q) (fun _ => False)
theorem ok_weighed {P : Program} {w : World} {K : PySem.W.Frag} {mg : Str → Option Value} {base : Heap} {C f : Addr} {fd : FuncData} (B : Bi mg) (FF : FunD K "weighed" "weighed" (defArgs s_weighed) (defBody s_weighed) (defScope s_weighed) [] [] f fd) (G_added_up : Kn P w K mg base "added_up" 3 ["fractions"] (sp_added_up K)) (G_times : Kn P w K mg base "times" 2 ["one", "other"] (sp_times K)) (G_power_sum : Kn P w K mg base "power_sum" 3 ["weighting", "power"] (sp_power_sum K C)) : FnOk P w K mg base CX0 4 f fd ["weighting", "coefficients"] (sp_weighed K C) := by
  refine FF.ok sc_weighed (fun vs H Q E h => ?_) (fun cdv A outer s H vs Q E hr h => ?_)
  · obtain ⟨F, v_weighting, weighting, v_coefficients, coefficients, rfl, _⟩ := h; rfl
  · obtain ⟨F, v_weighting, weighting, v_coefficients, coefficients, rfl, e, r_weighting, r_coefficients, k⟩ := h
    unfold weighed at k
    have g_ := Gm.refl (M := []) e
    refine ⟨_, PSs.nox (pss_one (ps_ret (pe_kn G_added_up (hr.mono (by decide)) (pa_cons (pe_q (pe_lc (own := [("power", 2), ("coefficient", 3)]) (g := gTup K 2 (gCons (gName 2) (gCons (gName 3) gNil))) rfl sc_weighed.nd (pi_enum rfl B.enumerate (pa_cons (pv 1) pa_nil)) (blkOk_by (N := ["weighting", "coefficients", "power", "coefficient"]) (sc := defScope s_weighed) (by decide +kernel)) (fun _ _ _ _ _ => pg_tup (by rfl) (pgs_cons (pg_name (i := 2) sc_weighed.nd rfl (Or.inl rfl)) (pgs_cons (pg_name (i := 3) sc_weighed.nd rfl (Or.inl rfl)) (pgs_nil)))) (fun _ _ _ _ _ => pts_nil) (fun _ _ _ _ _ => pe_kn G_times (hr.mono (by decide)) (pa_cons (pv 3) (pa_cons (pe_kn G_power_sum (hr.mono (by decide)) (pa_cons (pv 0) (pa_cons (pv 2) (pa_nil)))) (pa_nil)))))) (pa_nil))))), ?_⟩
    refine ⟨_, rfl, ?_⟩
    obtain ⟨p1, xs2, rfl, s3, a4⟩ := dp_lst r_coefficients
    refine ⟨_, _, rfl, (sq_of (e _ _ s3)), ?_⟩
    obtain ⟨h24, k⟩ := post_guard k
    refine lc_map (K := K) (M := []) (wlk_enum e s3 a4) (e2 PyData.int PyData.int) k e h24 (fun _ _ => by simp) (fun x7 v22 F15 H16 F17 H18 g19 g20 r21 Q' k5 => ?_) (fun _ z => z) (fun b6 v8 F9 H10 g11 r12 k => ?_) (gm_tup (gms_cons gm_name (gms_cons gm_name gms_nil)))
    · have g25 := Gm.refl (M := []) g19.s
      replace r_weighting := r_weighting.up g19.f
      replace r_coefficients := r_coefficients.up g19.f
      replace s3 := g19.f _ _ s3
      replace a4 := a4.up g19.f
      replace r_weighting := r_weighting.up g20.f
      replace r_coefficients := r_coefficients.up g20.f
      replace s3 := g20.f _ _ s3
      replace a4 := a4.up g20.f
      have eF17 := g20.s
      have gF17 := g25.trans (g20.weak (by simp))
      obtain ⟨p26, x27, x28, rfl, s29, d30, d31⟩ := dp_tup2 r21
      obtain rfl := dp_int d30
      refine ⟨_, _, rfl, ex_t eF17 s29, rfl, _, _, rfl, _, _, rfl, rfl, rfl, _, rfl, _, rfl, _, rfl, ?_⟩
      refine ⟨F17, _, weighting, x7.1, rfl, eF17, r_weighting, (post_bd k5).mono (fun b32 k5 v37 F33 H34 g35 r36 => ?_) (fun _ z => z)⟩
      have eF33 := g35.s
      have gF33 := gF17.trans (g35.weak (by simp))
      replace r_weighting := r_weighting.up g35.f
      replace r_coefficients := r_coefficients.up g35.f
      replace s3 := g35.f _ _ s3
      replace a4 := a4.up g35.f
      replace r21 := r21.up g35.f
      replace s29 := ex_t g35.f s29
      replace d31 := d31.up g35.f
      refine ⟨F33, _, x7.2, _, b32, rfl, eF33, d31, r36, (post_bd k5).mono (fun b39 k5 v44 F40 H41 g42 r43 => ?_) (fun _ z => z)⟩
      have eF40 := g42.s
      have gF40 := gF33.trans (g42.weak (by simp))
      replace r_weighting := r_weighting.up g42.f
      replace r_coefficients := r_coefficients.up g42.f
      replace s3 := g42.f _ _ s3
      replace a4 := a4.up g42.f
      replace r21 := r21.up g42.f
      replace s29 := ex_t g42.f s29
      replace d31 := d31.up g42.f
      replace r36 := r36.up g42.f
      exact k5.h _ _ _ gF40 r43
    have eF9 := g11.s
    have gF9 := g_.trans (g11.weak (by simp))
    replace r_weighting := r_weighting.up g11.f
    replace r_coefficients := r_coefficients.up g11.f
    replace s3 := g11.f _ _ s3
    replace a4 := a4.up g11.f
    refine ⟨F9, _, b6, rfl, eF9, r12, (post_bd k).mono (fun b47 k v52 F48 H49 g50 r51 => ?_) (fun _ z => z)⟩
    have eF48 := g50.s
    have gF48 := gF9.trans (g50.weak (by simp))
    replace r_weighting := r_weighting.up g50.f
    replace r_coefficients := r_coefficients.up g50.f
    replace s3 := g50.f _ _ s3
    replace a4 := a4.up g50.f
    replace r12 := r12.up g50.f
    exact k.h _ _ _ gF48 r51
/-! ### ascending_places -/
abbrev s_ascending_places : Stmt := top 39
theorem sc_ascending_places : FnScope ["places", "most", "checked", "index", "top", "bottom", "place"] ["places", "most"] (defScope s_ascending_places) := ⟨rfl, rfl, rfl, by decide +kernel, rfl, by decide +kernel, by decide +kernel⟩
def ascending_places (places : (List (Int × Int))) (most : Int) : Mm (List (Int × Int)) := (foldM (fun (b12 : (List (Int × Int))) (x13 : (Int × (Int × Int))) => cond ((decide (x13.1 = most)) || (decide (x13.2.2 = (0 : Int)))) (Mm.bad) ((lowest (x13.2.1) (x13.2.2)).bd fun b49 => (cond (decide (x13.1 > (0 : Int))) ((getM b12 (-(1 : Int))).bd fun i60 => (is_less (i60) (b49)).bd fun b65 => Mm.ok (!b65)) (Mm.ok false)).bd fun b56 => cond b56 (Mm.bad) ((guardM (b12.length < 100000)).bd fun _ => Mm.ok (b12 ++ [b49])))) [] (enumL places)).bd fun b29 => Mm.ok b29
def sp_ascending_places (K : PySem.W.Frag) : Sp := fun vs H Q _ => ∃ (F : Hp) (v_places : V) (places : (List (Int × Int))) (most : Int), vs = [v_places, (V.int most)] ∧ Ex F H ∧ Dq K F v_places ((eV (e2 PyData.int PyData.int)) places) ∧ Post (ascending_places places most) (fun r => Ret [] F H (fun F' _ v => Dq K F' v ((eL (e2 PyData.int PyData.int)) r)) Q) (fun _ => False)
theorem ok_ascending_places {P : Program} {w : World} {K : PySem.W.Frag} {mg : Str → Option Value} {base : Heap} {C f : Addr} {fd : FuncData} (B : Bi mg) (FF : FunD K "ascending_places" "ascending_places" (defArgs s_ascending_places) (defBody s_ascending_places) (defScope s_ascending_places) [] [] f fd) (G_lowest : Kn P w K mg base "lowest" 1 ["top", "bottom"] (sp_lowest K)) (G_is_less : Kn P w K mg base "is_less" 1 ["one", "other"] (sp_is_less K)) : FnOk P w K mg base CX0 2 f fd ["places", "most"] (sp_ascending_places K) := by
  refine FF.ok sc_ascending_places (fun vs H Q E h => ?_) (fun cdv A outer s H vs Q E hr h => ?_)
  · obtain ⟨F, v_places, places, most, rfl, _⟩ := h; rfl
  · obtain ⟨F, v_places, places, most, rfl, e, r_places, k⟩ := h
    unfold ascending_places at k
    have g_ := Gm.refl (M := []) e
    refine ⟨_, PSs.nox (pss_cons (ps_set (i := 2) sc_ascending_places.nd rfl (Or.inl rfl) (pe_q (pe_lst (pa_nil)))) (pss_cons (ps_for PassesOwn.never rfl (pi_enumT rfl B.enumerate (pa_cons (pv 0) pa_nil)) (pg_tup (by rfl) (pgs_cons (pg_name (i := 3) sc_ascending_places.nd rfl (Or.inl rfl)) (pgs_cons (pg_tup (by rfl) (pgs_cons (pg_name (i := 4) sc_ascending_places.nd rfl (Or.inl rfl)) (pgs_cons (pg_name (i := 5) sc_ascending_places.nd rfl (Or.inl rfl)) (pgs_nil)))) (pgs_nil)))) (pss_cons (ps_if (PW.pt (pw_or (pt_cmpR op_eq (pv 3) (pv 1) (nomark _)) (pw_or1 (pt_cmpR op_eq (pv 5) (pe_int) (nomark _))))) (pss_one ps_never) pss_nil) (pss_cons (ps_set (i := 6) sc_ascending_places.nd rfl (Or.inl rfl) (pe_kn G_lowest (hr.mono (by decide)) (pa_cons (pv 4) (pa_cons (pv 5) (pa_nil))))) (pss_cons (ps_if (PW.pt (pw_and (pt_cmpR op_gt (pv 3) (pe_int) (nomark _)) (pw_and1 (pt_not (pt_val (pe_kn G_is_less (hr.mono (by decide)) (pa_cons (pe_ix (r := rIxL K) ix_list (pv 2) (pe_un un_neg (pe_int)) (fun _ _ => rfl)) (pa_cons (pv 6) (pa_nil))))))))) (pss_one ps_never) pss_nil) (pss_one (ps_expr (pe_bm PySem.F.plainAttrs_list PySem.F.slot_list_append PySem.F.type_list_append mt_append (pv 2) (pa_cons (pv 6) pa_nil)))))))) (pss_one (ps_ret (pv 2))))), ?_⟩
    show _ ∧ _
    refine new_own (K := K) e .nil (by show 0 ≤ 100000; decide) fun p1 H2 g3 y4 o5 => ?_
    have a6 : DqAll K F [] (List.map (e2 PyData.int PyData.int) []) := .nil
    have zp1 := g_.fresh y4
    have eH2 := g3.s
    have gH2 := g_.trans (g3.weak (by simp))
    refine ⟨_, rfl, ?_⟩
    obtain ⟨p8, xs9, rfl, s10, a11⟩ := dp_tup r_places
    refine ⟨_, _, rfl, (ex_t eH2 s10), ?_⟩
    refine for_m (M := [p1]) (F := F) (wlk_enumT eH2 s10 a11) (fun b12 F' H' σ' => ∃ (u3 : Option V) (u4 : Option V) (u5 : Option V) (u6 : Option V) (xs2 : List V), σ' = [some (V.ref p8), some (V.int most), some (V.ref p1), u3, u4, u5, u6] ∧ (H' p1 = some (.lst xs2) ∧ F' p1 = none) ∧ DqAll K F' xs2 (List.map (e2 PyData.int PyData.int) b12)) k eH2 ⟨_, _, _, _, _, rfl, o5, a6⟩ (fun b12 x13 v21 σ23 F14 H15 F16 H17 g18 i22 g19 r20 nx kfb12 => ?_) (fun b29 σ28 F24 H25 g26 i27 k => ?_)
    · replace r_places := r_places.up g18.f
      replace s10 := ex_t g18.f s10
      replace a11 := a11.up g18.f
      obtain ⟨u30, u31, u32, u33, xs34, rfl, o35, a36⟩ := i22
      replace r_places := r_places.up g19.f
      replace s10 := ex_t g19.f s10
      replace a11 := a11.up g19.f
      replace o35 := g19.own (by simp [*]) o35.1 o35.2
      replace a36 := a36.up g19.f
      have eF16 := g19.s
      have gF16 := g18.trans (g19.weak (by simp))
      obtain ⟨p37, x38, x39, rfl, s40, d41, d42⟩ := dp_tup2 r20
      obtain rfl := dp_int d41
      refine ⟨_, _, rfl, ex_t eF16 s40, rfl, _, _, rfl, _, _, rfl, ?_⟩
      obtain ⟨p43, x44, x45, rfl, s46, d47, d48⟩ := dp_tup2 d42
      obtain rfl := dp_int d47
      obtain rfl := dp_int d48
      refine ⟨_, _, rfl, ex_t eF16 s46, rfl, _, _, rfl, _, _, rfl, rfl, rfl, ?_⟩
      refine ⟨_, rfl, _, rfl, rfl, ?_⟩
      rw [decV_int]
      refine ⟨_, rfl, ?_⟩
      refine or_j (b := (decide (x13.2.2 = (0 : Int)))) (fun _ Q' q => ?_) ?_
      · refine ⟨_, rfl, rfl, ?_⟩
        rw [decV_int]
        refine ⟨_, rfl, ?_⟩
        exact q
      refine cs kfb12 (fun _ kfb12 => ?_) (fun _ kfb12 => ?_)
      · exact kfb12.elim
      · refine ⟨_, rfl, _, rfl, ?_⟩
        refine ⟨F16, x13.2.1, x13.2.2, rfl, eF16, (post_bd kfb12).mono (fun b49 kfb12 v54 F50 H51 g52 r53 => ?_) (fun _ z => z)⟩
        have eF50 := g52.s
        have gF50 := gF16.trans (g52.weak (by simp))
        replace r_places := r_places.up g52.f
        replace s10 := ex_t g52.f s10
        replace a11 := a11.up g52.f
        replace o35 := g52.own (by simp [*]) o35.1 o35.2
        replace a36 := a36.up g52.f
        replace r20 := r20.up g52.f
        replace s40 := ex_t g52.f s40
        replace d42 := d42.up g52.f
        replace s46 := ex_t g52.f s46
        refine ⟨_, rfl, _, _, rfl, rfl, _, rfl, ?_⟩
        refine and_jM (M := []) eF50 kfb12 (fun _ Q' kfb12tb56 => ?_) (fun b56 F57 H58 g59 kfb12 => ?_)
        · have gF50_ := Gm.refl (M := []) eF50
          refine ⟨_, rfl, _, rfl, ?_⟩
          obtain ⟨i60, h61, kfb12tb56⟩ := post_get kfb12tb56
          obtain ⟨v62, h63, r64⟩ := dq_at a36 h61
          refine ⟨_, _, _, _, rfl, rfl, (sq_of o35.1), h63, ?_⟩
          refine ⟨_, rfl, ?_⟩
          refine ⟨F50, _, i60, _, b49, rfl, eF50, r64, r53, (post_bd kfb12tb56).mono (fun b65 kfb12tb56 v70 F66 H67 g68 r69 => ?_) (fun _ z => z)⟩
          have eF66 := g68.s
          have gF66 := gF50_.trans (g68.weak (by simp))
          replace r_places := r_places.up g68.f
          replace s10 := ex_t g68.f s10
          replace a11 := a11.up g68.f
          replace o35 := g68.own (by simp [*]) o35.1 o35.2
          replace a36 := a36.up g68.f
          replace r20 := r20.up g68.f
          replace s40 := ex_t g68.f s40
          replace d42 := d42.up g68.f
          replace s46 := ex_t g68.f s46
          replace r53 := r53.up g68.f
          replace r64 := r64.up g68.f
          subst r69
          refine ⟨_, rfl, ?_⟩
          exact kfb12tb56.h _ _ gF66
        have eF57 := g59.s
        have gF57 := gF50.trans (g59.weak (by simp))
        replace r_places := r_places.up g59.f
        replace s10 := ex_t g59.f s10
        replace a11 := a11.up g59.f
        replace o35 := g59.own (by simp [*]) o35.1 o35.2
        replace a36 := a36.up g59.f
        replace r20 := r20.up g59.f
        replace s40 := ex_t g59.f s40
        replace d42 := d42.up g59.f
        replace s46 := ex_t g59.f s46
        replace r53 := r53.up g59.f
        refine cs kfb12 (fun _ kfb12 => ?_) (fun _ kfb12 => ?_)
        · exact kfb12.elim
        · refine ⟨_, rfl, .inl ⟨rfl, _, sq_of o35.1⟩, _, rfl, ?_⟩
          obtain ⟨h72, kfb12⟩ := post_guard kfb12
          refine ⟨_, _, _, rfl, rfl, o35.1, own_sz a36 h72, ?_⟩
          have g73 := gF57.putOr (o := .lst (xs34 ++ [v54])) (.inl (by simp)) o35.1 o35.2
          replace o35 : (upd H58 p1 (.lst (xs34 ++ [v54]))) p1 = some (.lst (xs34 ++ [v54])) ∧ F57 p1 = none := ⟨upd_same, o35.2⟩
          replace a36 : DqAll K F57 (xs34 ++ [v54]) (List.map (e2 PyData.int PyData.int) (b12 ++ [b49])) := by rw [List.map_append]; exact a36.app (.cons r53 .nil)
          have e74 := g73.s
          exact kfb12.h _ _ _ g73 ⟨_, _, _, _, _, rfl, o35, a36⟩
    have hy76 : ∀ q ∈ [p1], q ∈ [] ∨ H q = none := by intro q hq; simp only [List.mem_cons, List.not_mem_nil, or_false] at hq; rcases hq with rfl; exact (.inr zp1)
    have g75 := Gm.outs [p1] hy76 gH2 (g26.weak (by simp))
    replace r_places := r_places.up g26.f
    replace s10 := ex_t g26.f s10
    replace a11 := a11.up g26.f
    have eF24 := g26.s
    obtain ⟨u77, u78, u79, u80, xs81, rfl, o82, a83⟩ := i27
    refine ⟨_, rfl, ?_⟩
    have g84 := g75.fix o82.1 o82.2 zp1
    have ur85 : Ex F24 (upd F24 p1 (.lst xs81)) := Ex.new o82.2
    have r85 : Dq K (upd F24 p1 (.lst xs81)) (.ref p1) (eL (e2 PyData.int PyData.int) b29) := .lst upd_same (a83.up ur85)
    have s87 : (upd F24 p1 (.lst xs81)) p1 = some (.lst xs81) := upd_same
    have a88 := a83.up ur85
    replace r_places := r_places.up ur85
    replace s10 := ex_t ur85 s10
    replace a11 := a11.up ur85
    have e89 := g84.s
    exact k.h _ _ _ g84 r85
/-! ### checked_places -/
abbrev s_checked_places : Stmt := top 40
theorem sc_checked_places : FnScope ["places"] ["places"] (defScope s_checked_places) := ⟨rfl, rfl, rfl, by decide +kernel, rfl, by decide +kernel, by decide +kernel⟩
def checked_places (places : (List (Int × Int))) : Mm (List (Int × Int)) := cond (decide ((places.length : Int) = (0 : Int))) (Mm.bad) ((ascending_places (places) ((6 : Int))).bd fun b5 => Mm.ok b5)
def sp_checked_places (K : PySem.W.Frag) : Sp := fun vs H Q _ => ∃ (F : Hp) (v_places : V) (places : (List (Int × Int))), vs = [v_places] ∧ Ex F H ∧ Dq K F v_places ((eV (e2 PyData.int PyData.int)) places) ∧ Post (checked_places places) (fun r => Ret [] F H (fun F' _ v => Dq K F' v ((eL (e2 PyData.int PyData.int)) r)) Q) (fun _ => False)
theorem ok_checked_places {P : Program} {w : World} {K : PySem.W.Frag} {mg : Str → Option Value} {base : Heap} {C f : Addr} {fd : FuncData} (B : Bi mg) (FF : FunD K "checked_places" "checked_places" (defArgs s_checked_places) (defBody s_checked_places) (defScope s_checked_places) [] [] f fd) (G_ascending_places : Kn P w K mg base "ascending_places" 2 ["places", "most"] (sp_ascending_places K)) (c_MOST_PLACES : ∃ t, mg "MOST_PLACES" = some (.int 6 t)) : FnOk P w K mg base CX0 3 f fd ["places"] (sp_checked_places K) := by
  refine FF.ok sc_checked_places (fun vs H Q E h => ?_) (fun cdv A outer s H vs Q E hr h => ?_)
  · obtain ⟨F, v_places, places, rfl, _⟩ := h; rfl
  · obtain ⟨F, v_places, places, rfl, e, r_places, k⟩ := h
    unfold checked_places at k
    have g_ := Gm.refl (M := []) e
    refine ⟨_, PSs.nox (pss_cons (ps_if (pt_cmpR op_eq (pe_callB call_lenM (by rfl) B.len (by decide +kernel) (pa_cons (pv 0) pa_nil)) (pe_int) (nomark _)) (pss_one ps_never) pss_nil) (pss_one (ps_ret (pe_kn G_ascending_places (hr.mono (by decide)) (pa_cons (pv 0) (pa_cons (pe_gint c_MOST_PLACES) (pa_nil))))))), ?_⟩
    refine ⟨_, rfl, ?_⟩
    obtain ⟨p1, xs2, rfl, s3, a4⟩ := dp_tup r_places
    refine ⟨_, _, _, rfl, .inr (ex_t e s3), len_all a4, rfl, ?_⟩
    rw [decV_int]
    refine ⟨_, rfl, ?_⟩
    refine cs k (fun _ k => ?_) (fun _ k => ?_)
    · exact k.elim
    · refine ⟨_, rfl, ?_⟩
      refine ⟨F, _, places, (6 : Int), rfl, e, r_places, (post_bd k).mono (fun b5 k v10 F6 H7 g8 r9 => ?_) (fun _ z => z)⟩
      have eF6 := g8.s
      have gF6 := g_.trans (g8.weak (by simp))
      replace r_places := r_places.up g8.f
      replace s3 := ex_t g8.f s3
      replace a4 := a4.up g8.f
      exact k.h _ _ _ gF6 r9
/-! ### checked_weights -/
abbrev s_checked_weights : Stmt := top 41
theorem sc_checked_weights : FnScope ["weights", "count", "index", "_", "bottom", "top"] ["weights", "count"] (defScope s_checked_weights) := ⟨rfl, rfl, rfl, by decide +kernel, rfl, by decide +kernel, by decide +kernel⟩
def checked_weights (weights : (List (Int × Int))) (count : Int) : Mm (List (Int × Int)) := (foldM (fun (b5 : Unit) (x6 : (Int × (Int × Int))) => cond ((decide (x6.1 = count)) || (decide (x6.2.2 = (0 : Int)))) (Mm.bad) (Mm.ok ())) () (enumL weights)).bd fun b22 => cond (decide ((weights.length : Int) < count)) (Mm.bad) ((guardM (weights.length ≤ 50000)).bd fun _ => (mapMm (fun (x46 : (Int × Int)) => (lowest (x46.1) (x46.2)).bd fun b71 => Mm.ok b71) weights).bd fun b45 => Mm.ok b45)
def sp_checked_weights (K : PySem.W.Frag) : Sp := fun vs H Q _ => ∃ (F : Hp) (v_weights : V) (weights : (List (Int × Int))) (count : Int), vs = [v_weights, (V.int count)] ∧ Ex F H ∧ Dq K F v_weights ((eV (e2 PyData.int PyData.int)) weights) ∧ Post (checked_weights weights count) (fun r => Ret [] F H (fun F' _ v => Dq K F' v ((eL (e2 PyData.int PyData.int)) r)) Q) (fun _ => False)
theorem ok_checked_weights {P : Program} {w : World} {K : PySem.W.Frag} {mg : Str → Option Value} {base : Heap} {C f : Addr} {fd : FuncData} (B : Bi mg) (FF : FunD K "checked_weights" "checked_weights" (defArgs s_checked_weights) (defBody s_checked_weights) (defScope s_checked_weights) [] [] f fd) (G_lowest : Kn P w K mg base "lowest" 1 ["top", "bottom"] (sp_lowest K)) : FnOk P w K mg base CX0 2 f fd ["weights", "count"] (sp_checked_weights K) := by
  refine FF.ok sc_checked_weights (fun vs H Q E h => ?_) (fun cdv A outer s H vs Q E hr h => ?_)
  · obtain ⟨F, v_weights, weights, count, rfl, _⟩ := h; rfl
  · obtain ⟨F, v_weights, weights, count, rfl, e, r_weights, k⟩ := h
    unfold checked_weights at k
    have g_ := Gm.refl (M := []) e
    refine ⟨_, PSs.nox (pss_cons (ps_for PassesOwn.never rfl (pi_enumT rfl B.enumerate (pa_cons (pv 0) pa_nil)) (pg_tup (by rfl) (pgs_cons (pg_name (i := 2) sc_checked_weights.nd rfl (Or.inl rfl)) (pgs_cons (pg_tup (by rfl) (pgs_cons (pg_name (i := 3) sc_checked_weights.nd rfl (Or.inl rfl)) (pgs_cons (pg_name (i := 4) sc_checked_weights.nd rfl (Or.inl rfl)) (pgs_nil)))) (pgs_nil)))) (pss_one (ps_if (PW.pt (pw_or (pt_cmpR op_eq (pv 2) (pv 1) (nomark _)) (pw_or1 (pt_cmpR op_eq (pv 4) (pe_int) (nomark _))))) (pss_one ps_never) pss_nil))) (pss_cons (ps_if (pt_cmpR op_lt (pe_callB call_lenM (by rfl) B.len (by decide +kernel) (pa_cons (pv 0) pa_nil)) (pv 1) (nomark _)) (pss_one ps_never) pss_nil) (pss_one (ps_ret (pe_q (pe_lc (own := [("top", 5), ("bottom", 4)]) (g := gTup K 2 (gCons (gName 5) (gCons (gName 4) gNil))) rfl sc_checked_weights.nd (pi_tup (pv 0)) (blkOk_by (N := ["weights", "count", "index", "_", "bottom", "top"]) (sc := defScope s_checked_weights) (by decide +kernel)) (fun _ _ _ _ _ => pg_tup (by rfl) (pgs_cons (pg_name (i := 5) sc_checked_weights.nd rfl (Or.inl rfl)) (pgs_cons (pg_name (i := 4) sc_checked_weights.nd rfl (Or.inl rfl)) (pgs_nil)))) (fun _ _ _ _ _ => pts_nil) (fun _ _ _ _ _ => pe_kn G_lowest (hr.mono (by decide)) (pa_cons (pv 5) (pa_cons (pv 4) (pa_nil)))))))))), ?_⟩
    refine ⟨_, rfl, ?_⟩
    obtain ⟨p1, xs2, rfl, s3, a4⟩ := dp_tup r_weights
    refine ⟨_, _, rfl, (ex_t e s3), ?_⟩
    refine for_m (M := []) (F := F) (wlk_enumT e s3 a4) (fun b5 F' H' σ' => ∃ (u2 : Option V) (u3 : Option V) (u4 : Option V) (u5 : Option V), σ' = [some (V.ref p1), some (V.int count), u2, u3, u4, u5]) k e ⟨_, _, _, _, rfl⟩ (fun b5 x6 v14 σ16 F7 H8 F9 H10 g11 i15 g12 r13 nx kfb5 => ?_) (fun b22 σ21 F17 H18 g19 i20 k => ?_)
    · replace r_weights := r_weights.up g11.f
      replace s3 := ex_t g11.f s3
      replace a4 := a4.up g11.f
      obtain ⟨u23, u24, u25, u26, rfl⟩ := i15
      replace r_weights := r_weights.up g12.f
      replace s3 := ex_t g12.f s3
      replace a4 := a4.up g12.f
      have eF9 := g12.s
      have gF9 := g11.trans (g12.weak (by simp))
      obtain ⟨p27, x28, x29, rfl, s30, d31, d32⟩ := dp_tup2 r13
      obtain rfl := dp_int d31
      refine ⟨_, _, rfl, ex_t eF9 s30, rfl, _, _, rfl, _, _, rfl, ?_⟩
      obtain ⟨p33, x34, x35, rfl, s36, d37, d38⟩ := dp_tup2 d32
      obtain rfl := dp_int d37
      obtain rfl := dp_int d38
      refine ⟨_, _, rfl, ex_t eF9 s36, rfl, _, _, rfl, _, _, rfl, rfl, rfl, ?_⟩
      refine ⟨_, rfl, _, rfl, rfl, ?_⟩
      rw [decV_int]
      refine ⟨_, rfl, ?_⟩
      refine or_j (b := (decide (x6.2.2 = (0 : Int)))) (fun _ Q' q => ?_) ?_
      · refine ⟨_, rfl, rfl, ?_⟩
        rw [decV_int]
        refine ⟨_, rfl, ?_⟩
        exact q
      refine cs kfb5 (fun _ kfb5 => ?_) (fun _ kfb5 => ?_)
      · exact kfb5.elim
      · exact kfb5.h _ _ _ gF9 ⟨_, _, _, _, rfl⟩
    have g39 := g_.trans (g19.weak (by simp))
    replace r_weights := r_weights.up g19.f
    replace s3 := ex_t g19.f s3
    replace a4 := a4.up g19.f
    have eF17 := g19.s
    obtain ⟨u40, u41, u42, u43, rfl⟩ := i20
    refine ⟨_, rfl, ?_⟩
    refine ⟨_, _, _, rfl, .inr (ex_t eF17 s3), len_all a4, _, rfl, _, _, rfl, rfl, _, rfl, ?_⟩
    refine cs k (fun _ k => ?_) (fun _ k => ?_)
    · exact k.elim
    · refine ⟨_, rfl, ?_⟩
      refine ⟨_, rfl, ⟨_, (ex_t eF17 s3)⟩, ?_⟩
      obtain ⟨h63, k⟩ := post_guard k
      refine lc_map (K := K) (M := []) (wlk_tup eF17 s3 a4) (e2 PyData.int PyData.int) k eF17 h63 (fun _ _ => by simp) (fun x46 v61 F54 H55 F56 H57 g58 g59 r60 Q' k44 => ?_) (fun _ z => z) (fun b45 v47 F48 H49 g50 r51 k => ?_) (gm_tup (gms_cons gm_name (gms_cons gm_name gms_nil)))
      · have g64 := Gm.refl (M := []) g58.s
        replace r_weights := r_weights.up g58.f
        replace s3 := ex_t g58.f s3
        replace a4 := a4.up g58.f
        replace r_weights := r_weights.up g59.f
        replace s3 := ex_t g59.f s3
        replace a4 := a4.up g59.f
        have eF56 := g59.s
        have gF56 := g64.trans (g59.weak (by simp))
        obtain ⟨p65, x66, x67, rfl, s68, d69, d70⟩ := dp_tup2 r60
        obtain rfl := dp_int d69
        obtain rfl := dp_int d70
        refine ⟨_, _, rfl, ex_t eF56 s68, rfl, _, _, rfl, _, _, rfl, rfl, rfl, _, rfl, _, rfl, ?_⟩
        refine ⟨F56, x46.1, x46.2, rfl, eF56, (post_bd k44).mono (fun b71 k44 v76 F72 H73 g74 r75 => ?_) (fun _ z => z)⟩
        have eF72 := g74.s
        have gF72 := gF56.trans (g74.weak (by simp))
        replace r_weights := r_weights.up g74.f
        replace s3 := ex_t g74.f s3
        replace a4 := a4.up g74.f
        replace r60 := r60.up g74.f
        replace s68 := ex_t g74.f s68
        exact k44.h _ _ _ gF72 r75
      have eF48 := g50.s
      have gF48 := g39.trans (g50.weak (by simp))
      replace r_weights := r_weights.up g50.f
      replace s3 := ex_t g50.f s3
      replace a4 := a4.up g50.f
      exact k.h _ _ _ gF48 r51
/-! ### served -/
abbrev s_served : Stmt := top 42
theorem sc_served : FnScope ["weighting", "places", "weights", "found", "shares", "power", "place", "share"] ["weighting", "places", "weights"] (defScope s_served) := ⟨rfl, rfl, rfl, by decide +kernel, rfl, by decide +kernel, by decide +kernel⟩
def served (weighting : Wt) (places : (List (Int × Int))) (weights : (List (Int × Int))) : Mm (Option Int) := (checked_places (places)).bd fun b1 => (checked_weights (weights) ((b1.length : Int))).bd fun b12 => (mulM (2 : Int) (b1.length : Int)).bd fun m19 => (rangeM (m19 + (1 : Int))).bd fun l23 => (foldL (R := (Option Int)) (fun (b24 : (List (Int × Int))) (x25 : Int) => (added_up (b24)).bd fun b47 => (power_sum (weighting) (x25)).bd fun b54 => cond (!(decide (b47 = b54))) (Mm.ok (Fl.ret (some (x25 - (1 : Int))))) ((guardM ((b1.zip b24).length ≤ 50000)).bd fun _ => (mapMm (fun (x67 : ((Int × Int) × (Int × Int))) => (times (x67.2) (x67.1)).bd fun b92 => Mm.ok b92) (b1.zip b24)).bd fun b66 => Mm.ok (Fl.go b66))) b12 (rangeL 0 (m19 + (1 : Int)).toNat)).bd fun o => o.el (fun b41 => Mm.ok none) (fun r => Mm.ok r)
def sp_served (K : PySem.W.Frag) (C : Addr) : Sp := fun vs H Q _ => ∃ (F : Hp) (v_weighting : V) (weighting : Wt) (v_places : V) (places : (List (Int × Int))) (v_weights : V) (weights : (List (Int × Int))), vs = [v_weighting, v_places, v_weights] ∧ Ex F H ∧ IsW K C F v_weighting weighting ∧ Dq K F v_places ((eV (e2 PyData.int PyData.int)) places) ∧ Dq K F v_weights ((eV (e2 PyData.int PyData.int)) weights) ∧ Post (served weighting places weights) (fun r => Ret [] F H (fun F' _ v => Dq K F' v ((eO PyData.int) r)) Q) (fun _ => False)
theorem ok_served {P : Program} {w : World} {K : PySem.W.Frag} {mg : Str → Option Value} {base : Heap} {C f : Addr} {fd : FuncData} (B : Bi mg) (FF : FunD K "served" "served" (defArgs s_served) (defBody s_served) (defScope s_served) [] [] f fd) (G_checked_places : Kn P w K mg base "checked_places" 3 ["places"] (sp_checked_places K)) (G_checked_weights : Kn P w K mg base "checked_weights" 2 ["weights", "count"] (sp_checked_weights K)) (G_added_up : Kn P w K mg base "added_up" 3 ["fractions"] (sp_added_up K)) (G_power_sum : Kn P w K mg base "power_sum" 3 ["weighting", "power"] (sp_power_sum K C)) (G_times : Kn P w K mg base "times" 2 ["one", "other"] (sp_times K)) : FnOk P w K mg base CX0 4 f fd ["weighting", "places", "weights"] (sp_served K C) := by
  refine FF.ok sc_served (fun vs H Q E h => ?_) (fun cdv A outer s H vs Q E hr h => ?_)
  · obtain ⟨F, v_weighting, weighting, v_places, places, v_weights, weights, rfl, _⟩ := h; rfl
  · obtain ⟨F, v_weighting, weighting, v_places, places, v_weights, weights, rfl, e, r_weighting, r_places, r_weights, k⟩ := h
    unfold served at k
    have g_ := Gm.refl (M := []) e
    refine ⟨_, PSs.nox (pss_cons (ps_set (i := 3) sc_served.nd rfl (Or.inl rfl) (pe_kn G_checked_places (hr.mono (by decide)) (pa_cons (pv 1) (pa_nil)))) (pss_cons (ps_set (i := 4) sc_served.nd rfl (Or.inl rfl) (pe_kn G_checked_weights (hr.mono (by decide)) (pa_cons (pv 2) (pa_cons (pe_callB call_lenM (by rfl) B.len (by decide +kernel) (pa_cons (pv 3) pa_nil)) (pa_nil))))) (pss_cons (ps_for PassesOwn.never rfl (pi_range1 rfl B.range (pa_cons (pe_op op_add (pe_op op_mulM (pe_int) (pe_callB call_lenM (by rfl) B.len (by decide +kernel) (pa_cons (pv 3) pa_nil))) (pe_int)) (pa_nil))) (pg_name (i := 5) sc_served.nd rfl (Or.inl rfl)) (pss_cons (ps_if (pt_cmpR (r := rNeM K (e2 PyData.int PyData.int)) (op_neM (sh_e2 sh_int sh_int) (units_of hr)) (pe_kn G_added_up (hr.mono (by decide)) (pa_cons (pv 4) (pa_nil))) (pe_kn G_power_sum (hr.mono (by decide)) (pa_cons (pv 0) (pa_cons (pv 5) (pa_nil)))) (nomark _)) (pss_one (ps_ret (pe_op op_sub (pv 5) (pe_int)))) pss_nil) (pss_one (ps_q (ps_setLc (i := 4) (own := [("place", 6), ("share", 7)]) (g := gTup K 2 (gCons (gName 6) (gCons (gName 7) gNil))) rfl sc_served.nd rfl rfl (sw_true rfl rfl rfl (by decide +kernel)) (pi_zip rfl B.zip (pa_cons (pv 3) (pa_cons (pv 4) (pa_nil)))) (blkOk_by (N := ["weighting", "places", "weights", "found", "shares", "power", "place", "share"]) (sc := defScope s_served) (by decide +kernel)) (fun _ _ _ _ _ => pg_tup (by rfl) (pgs_cons (pg_name (i := 6) sc_served.nd rfl (Or.inl rfl)) (pgs_cons (pg_name (i := 7) sc_served.nd rfl (Or.inl rfl)) (pgs_nil)))) (fun _ _ _ _ _ => pts_nil) (fun _ _ _ _ _ => pe_kn G_times (hr.mono (by decide)) (pa_cons (pv 7) (pa_cons (pv 6) (pa_nil))))))))) (pss_one (ps_ret (pe_non)))))), ?_⟩
    refine ⟨_, rfl, ?_⟩
    refine ⟨F, _, places, rfl, e, r_places, (post_bd k).mono (fun b1 k v6 F2 H3 g4 r5 => ?_) (fun _ z => z)⟩
    have eF2 := g4.s
    have gF2 := g_.trans (g4.weak (by simp))
    replace r_weighting := r_weighting.up g4.f
    replace r_places := r_places.up g4.f
    replace r_weights := r_weights.up g4.f
    refine ⟨_, rfl, _, rfl, ?_⟩
    obtain ⟨p8, xs9, rfl, s10, a11⟩ := dp_lst r5
    refine ⟨_, _, _, rfl, .inl (sq_of (eF2 _ _ s10)), len_all a11, ?_⟩
    refine ⟨F2, _, weights, (b1.length : Int), rfl, eF2, r_weights, (post_bd k).mono (fun b12 k v17 F13 H14 g15 r16 => ?_) (fun _ z => z)⟩
    have eF13 := g15.s
    have gF13 := gF2.trans (g15.weak (by simp))
    replace r_weighting := r_weighting.up g15.f
    replace r_places := r_places.up g15.f
    replace r_weights := r_weights.up g15.f
    replace r5 := r5.up g15.f
    replace s10 := g15.f _ _ s10
    replace a11 := a11.up g15.f
    refine ⟨_, rfl, ?_⟩
    refine ⟨_, _, _, rfl, .inl (sq_of (eF13 _ _ s10)), len_all a11, ?_⟩
    obtain ⟨m19, c20, q21, k⟩ := post_mul k
    refine ⟨_, _, _, rfl, rfl, c20, q21, _, _, rfl, rfl, ?_⟩
    obtain ⟨h22, k⟩ := post_range k
    refine ⟨_, rfl, h22.1, h22.2, ?_⟩
    refine for_mL (M := []) (F := F13) wlk_range (fun b24 F' H' σ' => ∃ (c4 : V) (u5 : Option V) (u6 : Option V) (u7 : Option V), σ' = [some v_weighting, some v_places, some v_weights, some (V.ref p8), some c4, u5, u6, u7] ∧ Dq K F' c4 ((eL (e2 PyData.int PyData.int)) b24)) k eF13 ⟨_, _, _, _, rfl, r16⟩ (fun b24 x25 v33 σ35 F26 H27 F28 H29 g30 i34 g31 r32 nx kfb24 => ?_) (fun b41 σ40 F36 H37 g38 i39 k => ?_)
    · replace r_weighting := r_weighting.up g30.f
      replace r_places := r_places.up g30.f
      replace r_weights := r_weights.up g30.f
      replace r5 := r5.up g30.f
      replace s10 := g30.f _ _ s10
      replace a11 := a11.up g30.f
      replace r16 := r16.up g30.f
      obtain ⟨c42, u43, u44, u45, rfl, r46⟩ := i34
      replace r_weighting := r_weighting.up g31.f
      replace r_places := r_places.up g31.f
      replace r_weights := r_weights.up g31.f
      replace r5 := r5.up g31.f
      replace s10 := g31.f _ _ s10
      replace a11 := a11.up g31.f
      replace r46 := r46.up g31.f
      have eF28 := g31.s
      have gF28 := g30.trans (g31.weak (by simp))
      subst r32
      refine ⟨_, rfl, ?_⟩
      refine ⟨F28, _, b24, rfl, eF28, r46, (post_bd kfb24).mono (fun b47 kfb24 v52 F48 H49 g50 r51 => ?_) (fun _ z => z)⟩
      have eF48 := g50.s
      have gF48 := gF28.trans (g50.weak (by simp))
      replace r_weighting := r_weighting.up g50.f
      replace r_places := r_places.up g50.f
      replace r_weights := r_weights.up g50.f
      replace r5 := r5.up g50.f
      replace s10 := g50.f _ _ s10
      replace a11 := a11.up g50.f
      replace r46 := r46.up g50.f
      refine ⟨_, rfl, _, rfl, ?_⟩
      refine ⟨F48, _, weighting, x25, rfl, eF48, r_weighting, (post_bd kfb24).mono (fun b54 kfb24 v59 F55 H56 g57 r58 => ?_) (fun _ z => z)⟩
      have eF55 := g57.s
      have gF55 := gF48.trans (g57.weak (by simp))
      replace r_weighting := r_weighting.up g57.f
      replace r_places := r_places.up g57.f
      replace r_weights := r_weights.up g57.f
      replace r5 := r5.up g57.f
      replace s10 := g57.f _ _ s10
      replace a11 := a11.up g57.f
      replace r46 := r46.up g57.f
      replace r51 := r51.up g57.f
      refine ⟨b47, b54, r51.dp eF55, r58.dp eF55, ?_⟩
      refine ⟨_, rfl, ?_⟩
      refine cs kfb24 (fun _ kfb24 => ?_) (fun _ kfb24 => ?_)
      · refine ⟨_, rfl, _, _, rfl, rfl, ?_⟩
        exact (show Post (Mm.ok _) _ _ from kfb24.h).h _ _ _ (gF13.trans gF55) (Dq.int (x25 - (1 : Int)))
      · refine ⟨_, rfl, _, rfl, ?_⟩
        obtain ⟨p61, xs62, rfl, s63, a64⟩ := dp_lst r46
        refine ⟨_, _, _, _, rfl, (sq_of (eF55 _ _ s10)), (sq_of (eF55 _ _ s63)), ?_⟩
        obtain ⟨h84, kfb24⟩ := post_guard kfb24
        refine lc_map (K := K) (M := []) (wlk_zip eF55 s10 a11 s63 a64) (e2 PyData.int PyData.int) kfb24 eF55 h84 (fun _ _ => by simp) (fun x67 v82 F75 H76 F77 H78 g79 g80 r81 Q' k65 => ?_) (fun _ z => z) (fun b66 v68 F69 H70 g71 r72 kfb24 => ?_) (gm_tup (gms_cons gm_name (gms_cons gm_name gms_nil)))
        · have g85 := Gm.refl (M := []) g79.s
          replace r_weighting := r_weighting.up g79.f
          replace r_places := r_places.up g79.f
          replace r_weights := r_weights.up g79.f
          replace r5 := r5.up g79.f
          replace s10 := g79.f _ _ s10
          replace a11 := a11.up g79.f
          replace r46 := r46.up g79.f
          replace r51 := r51.up g79.f
          replace r58 := r58.up g79.f
          replace s63 := g79.f _ _ s63
          replace a64 := a64.up g79.f
          replace r_weighting := r_weighting.up g80.f
          replace r_places := r_places.up g80.f
          replace r_weights := r_weights.up g80.f
          replace r5 := r5.up g80.f
          replace s10 := g80.f _ _ s10
          replace a11 := a11.up g80.f
          replace r46 := r46.up g80.f
          replace r51 := r51.up g80.f
          replace r58 := r58.up g80.f
          replace s63 := g80.f _ _ s63
          replace a64 := a64.up g80.f
          have eF77 := g80.s
          have gF77 := g85.trans (g80.weak (by simp))
          obtain ⟨p86, x87, x88, rfl, s89, d90, d91⟩ := dp_tup2 r81
          refine ⟨_, _, rfl, ex_t eF77 s89, rfl, _, _, rfl, _, _, rfl, rfl, rfl, _, rfl, _, rfl, ?_⟩
          refine ⟨F77, _, x67.2, _, x67.1, rfl, eF77, d91, d90, (post_bd k65).mono (fun b92 k65 v97 F93 H94 g95 r96 => ?_) (fun _ z => z)⟩
          have eF93 := g95.s
          have gF93 := gF77.trans (g95.weak (by simp))
          replace r_weighting := r_weighting.up g95.f
          replace r_places := r_places.up g95.f
          replace r_weights := r_weights.up g95.f
          replace r5 := r5.up g95.f
          replace s10 := g95.f _ _ s10
          replace a11 := a11.up g95.f
          replace r46 := r46.up g95.f
          replace r51 := r51.up g95.f
          replace r58 := r58.up g95.f
          replace s63 := g95.f _ _ s63
          replace a64 := a64.up g95.f
          replace r81 := r81.up g95.f
          replace s89 := ex_t g95.f s89
          replace d90 := d90.up g95.f
          replace d91 := d91.up g95.f
          exact k65.h _ _ _ gF93 r96
        have eF69 := g71.s
        have gF69 := gF55.trans (g71.weak (by simp))
        replace r_weighting := r_weighting.up g71.f
        replace r_places := r_places.up g71.f
        replace r_weights := r_weights.up g71.f
        replace r5 := r5.up g71.f
        replace s10 := g71.f _ _ s10
        replace a11 := a11.up g71.f
        replace r46 := r46.up g71.f
        replace r51 := r51.up g71.f
        replace r58 := r58.up g71.f
        replace s63 := g71.f _ _ s63
        replace a64 := a64.up g71.f
        exact kfb24.h _ _ _ gF69 ⟨_, _, _, _, rfl, r72⟩
    have g100 := gF13.trans (g38.weak (by simp))
    replace r_weighting := r_weighting.up g38.f
    replace r_places := r_places.up g38.f
    replace r_weights := r_weights.up g38.f
    replace r5 := r5.up g38.f
    replace s10 := g38.f _ _ s10
    replace a11 := a11.up g38.f
    replace r16 := r16.up g38.f
    have eF36 := g38.s
    obtain ⟨c101, u102, u103, u104, rfl, r105⟩ := i39
    exact k.h _ _ _ g100 Dq.non
/-! ### weights_for -/
abbrev s_weights_for : Stmt := top 43
theorem sc_weights_for : FnScope ["weighting", "places", "found", "index"] ["weighting", "places"] (defScope s_weights_for) := ⟨rfl, rfl, rfl, by decide +kernel, rfl, by decide +kernel, by decide +kernel⟩
def weights_for (weighting : Wt) (places : (List (Int × Int))) : Mm (List (Int × Int)) := (checked_places (places)).bd fun b1 => (rangeM (b1.length : Int)).bd fun l13 => (guardM ((rangeL 0 (b1.length : Int).toNat).length ≤ 50000)).bd fun _ => (mapMm (fun (x16 : Int) => (only_at (b1) (x16)).bd fun b35 => (weighed (weighting) (b35)).bd fun b42 => Mm.ok b42) (rangeL 0 (b1.length : Int).toNat)).bd fun b15 => Mm.ok b15
def sp_weights_for (K : PySem.W.Frag) (C : Addr) : Sp := fun vs H Q _ => ∃ (F : Hp) (v_weighting : V) (weighting : Wt) (v_places : V) (places : (List (Int × Int))), vs = [v_weighting, v_places] ∧ Ex F H ∧ IsW K C F v_weighting weighting ∧ Dq K F v_places ((eV (e2 PyData.int PyData.int)) places) ∧ Post (weights_for weighting places) (fun r => Ret [] F H (fun F' _ v => Dq K F' v ((eV (e2 PyData.int PyData.int)) r)) Q) (fun _ => False)
theorem ok_weights_for {P : Program} {w : World} {K : PySem.W.Frag} {mg : Str → Option Value} {base : Heap} {C f : Addr} {fd : FuncData} (B : Bi mg) (FF : FunD K "weights_for" "weights_for" (defArgs s_weights_for) (defBody s_weights_for) (defScope s_weights_for) [] [] f fd) (G_checked_places : Kn P w K mg base "checked_places" 3 ["places"] (sp_checked_places K)) (G_weighed : Kn P w K mg base "weighed" 4 ["weighting", "coefficients"] (sp_weighed K C)) (G_only_at : Kn P w K mg base "only_at" 5 ["places", "index"] (sp_only_at K)) : FnOk P w K mg base CX0 6 f fd ["weighting", "places"] (sp_weights_for K C) := by
  refine FF.ok sc_weights_for (fun vs H Q E h => ?_) (fun cdv A outer s H vs Q E hr h => ?_)
  · obtain ⟨F, v_weighting, weighting, v_places, places, rfl, _⟩ := h; rfl
  · obtain ⟨F, v_weighting, weighting, v_places, places, rfl, e, r_weighting, r_places, k⟩ := h
    unfold weights_for at k
    have g_ := Gm.refl (M := []) e
    refine ⟨_, PSs.nox (pss_cons (ps_set (i := 2) sc_weights_for.nd rfl (Or.inr rfl) (pe_kn G_checked_places (hr.mono (by decide)) (pa_cons (pv 1) (pa_nil)))) (pss_one (ps_ret (pe_q (pe_callTy call_tuple_of (by rfl) B.tuple (by decide +kernel) (pa_cons (pe_q (pe_lc (own := [("index", 3)]) (g := gName 3) rfl sc_weights_for.nd (pi_range1 rfl B.range (pa_cons (pe_callB call_lenM (by rfl) B.len (by decide +kernel) (pa_cons (pv 2) pa_nil)) (pa_nil))) (blkOk_by (N := ["weighting", "places", "found", "index"]) (sc := defScope s_weights_for) (by decide +kernel)) (fun _ _ _ _ _ => pg_name (i := 3) sc_weights_for.nd rfl (Or.inl rfl)) (fun _ _ _ _ _ => pts_nil) (fun _ _ _ _ _ => pe_kn G_weighed (hr.mono (by decide)) (pa_cons (pv 0) (pa_cons (pe_kn G_only_at (hr.mono (by decide)) (pa_cons (pv 2) (pa_cons (pv 3) (pa_nil)))) (pa_nil)))))) pa_nil)))))), ?_⟩
    refine ⟨_, rfl, ?_⟩
    refine ⟨F, _, places, rfl, e, r_places, (post_bd k).mono (fun b1 k v6 F2 H3 g4 r5 => ?_) (fun _ z => z)⟩
    have eF2 := g4.s
    have gF2 := g_.trans (g4.weak (by simp))
    replace r_weighting := r_weighting.up g4.f
    replace r_places := r_places.up g4.f
    refine ⟨_, rfl, ?_⟩
    obtain ⟨p8, xs9, rfl, s10, a11⟩ := dp_lst r5
    refine ⟨_, _, _, rfl, .inl (sq_of (eF2 _ _ s10)), len_all a11, ?_⟩
    obtain ⟨h12, k⟩ := post_range k
    refine ⟨_, rfl, h12.1, h12.2, ?_⟩
    obtain ⟨h33, k⟩ := post_guard k
    refine lc_map (K := K) (M := []) wlk_range (e2 PyData.int PyData.int) k eF2 h33 (fun _ _ => by simp) (fun x16 v31 F24 H25 F26 H27 g28 g29 r30 Q' k14 => ?_) (fun _ z => z) (fun b15 v17 F18 H19 g20 r21 k => ?_) gm_name
    · have g34 := Gm.refl (M := []) g28.s
      replace r_weighting := r_weighting.up g28.f
      replace r_places := r_places.up g28.f
      replace r5 := r5.up g28.f
      replace s10 := g28.f _ _ s10
      replace a11 := a11.up g28.f
      replace r_weighting := r_weighting.up g29.f
      replace r_places := r_places.up g29.f
      replace r5 := r5.up g29.f
      replace s10 := g29.f _ _ s10
      replace a11 := a11.up g29.f
      have eF26 := g29.s
      have gF26 := g34.trans (g29.weak (by simp))
      subst r30
      refine ⟨rfl, _, rfl, _, rfl, _, rfl, ?_⟩
      refine ⟨F26, _, b1, x16, rfl, eF26, r5, (post_bd k14).mono (fun b35 k14 v40 F36 H37 g38 r39 => ?_) (fun _ z => z)⟩
      have eF36 := g38.s
      have gF36 := gF26.trans (g38.weak (by simp))
      replace r_weighting := r_weighting.up g38.f
      replace r_places := r_places.up g38.f
      replace r5 := r5.up g38.f
      replace s10 := g38.f _ _ s10
      replace a11 := a11.up g38.f
      refine ⟨F36, _, weighting, _, b35, rfl, eF36, r_weighting, r39, (post_bd k14).mono (fun b42 k14 v47 F43 H44 g45 r46 => ?_) (fun _ z => z)⟩
      have eF43 := g45.s
      have gF43 := gF36.trans (g45.weak (by simp))
      replace r_weighting := r_weighting.up g45.f
      replace r_places := r_places.up g45.f
      replace r5 := r5.up g45.f
      replace s10 := g45.f _ _ s10
      replace a11 := a11.up g45.f
      replace r39 := r39.up g45.f
      exact k14.h _ _ _ gF43 r46
    have eF18 := g20.s
    have gF18 := gF2.trans (g20.weak (by simp))
    replace r_weighting := r_weighting.up g20.f
    replace r_places := r_places.up g20.f
    replace r5 := r5.up g20.f
    replace s10 := g20.f _ _ s10
    replace a11 := a11.up g20.f
    obtain ⟨p50, xs51, rfl, s52, a53⟩ := dp_lst r21
    refine to_VL (K := K) (M := []) eF18 s52 a53 (en := (e2 PyData.int PyData.int)) (l := b15) fun v58 F54 H55 g56 r57 => ?_
    have eF54 := g56.s
    have gF54 := gF18.trans (g56.weak (by simp))
    replace r_weighting := r_weighting.up g56.f
    replace r_places := r_places.up g56.f
    replace r5 := r5.up g56.f
    replace s10 := g56.f _ _ s10
    replace a11 := a11.up g56.f
    replace r21 := r21.up g56.f
    replace s52 := g56.f _ _ s52
    replace a53 := a53.up g56.f
    exact k.h _ _ _ gF54 r57
/-! ### bar -/
abbrev s_bar : Stmt := top 44
theorem sc_bar : FnScope ["weighting", "places", "found", "barring", "_"] ["weighting", "places"] (defScope s_bar) := ⟨rfl, rfl, rfl, by decide +kernel, rfl, by decide +kernel, by decide +kernel⟩
def bar (weighting : Wt) (places : (List (Int × Int))) : Mm (Option (List (Int × Int))) := (checked_places (places)).bd fun b1 => (with_roots (b1)).bd fun b8 => (rangeM ((b1.length : Int) + (1 : Int))).bd fun l20 => (foldL (R := (Option (List (Int × Int)))) (fun (b21 : (List (Int × Int))) (x22 : Int) => (weighed (weighting) (b21)).bd fun b42 => cond (!(decide (b42 = ((0, 1) : (Int × Int))))) (Mm.ok (Fl.ret (some b21))) ((guardM ([((0, 1) : (Int × Int))].length + b21.length ≤ 100000)).bd fun _ => Mm.ok (Fl.go ([((0, 1) : (Int × Int))] ++ b21)))) b8 (rangeL 0 ((b1.length : Int) + (1 : Int)).toNat)).bd fun o => o.el (fun b38 => Mm.ok none) (fun r => Mm.ok r)
def sp_bar (K : PySem.W.Frag) (C : Addr) : Sp := fun vs H Q _ => ∃ (F : Hp) (v_weighting : V) (weighting : Wt) (v_places : V) (places : (List (Int × Int))), vs = [v_weighting, v_places] ∧ Ex F H ∧ IsW K C F v_weighting weighting ∧ Dq K F v_places ((eV (e2 PyData.int PyData.int)) places) ∧ Post (bar weighting places) (fun r => Ret [] F H (fun F' _ v => Dq K F' v ((eO (eV (e2 PyData.int PyData.int))) r)) Q) (fun _ => False)
theorem ok_bar {P : Program} {w : World} {K : PySem.W.Frag} {mg : Str → Option Value} {base : Heap} {C f : Addr} {fd : FuncData} (B : Bi mg) (FF : FunD K "bar" "bar" (defArgs s_bar) (defBody s_bar) (defScope s_bar) [] [] f fd) (G_checked_places : Kn P w K mg base "checked_places" 3 ["places"] (sp_checked_places K)) (G_with_roots : Kn P w K mg base "with_roots" 4 ["places"] (sp_with_roots K)) (G_weighed : Kn P w K mg base "weighed" 4 ["weighting", "coefficients"] (sp_weighed K C)) {a_NOUGHT : Addr} (c_NOUGHT : mg "NOUGHT" = some (.ref a_NOUGHT)) (d_NOUGHT : ∀ F, Dq K F (.ref a_NOUGHT) ((e2 PyData.int PyData.int) (0, 1))) : FnOk P w K mg base CX0 5 f fd ["weighting", "places"] (sp_bar K C) := by
  refine FF.ok sc_bar (fun vs H Q E h => ?_) (fun cdv A outer s H vs Q E hr h => ?_)
  · obtain ⟨F, v_weighting, weighting, v_places, places, rfl, _⟩ := h; rfl
  · obtain ⟨F, v_weighting, weighting, v_places, places, rfl, e, r_weighting, r_places, k⟩ := h
    unfold bar at k
    have g_ := Gm.refl (M := []) e
    refine ⟨_, PSs.nox (pss_cons (ps_set (i := 2) sc_bar.nd rfl (Or.inl rfl) (pe_kn G_checked_places (hr.mono (by decide)) (pa_cons (pv 1) (pa_nil)))) (pss_cons (ps_set (i := 3) sc_bar.nd rfl (Or.inl rfl) (pe_kn G_with_roots (hr.mono (by decide)) (pa_cons (pv 2) (pa_nil)))) (pss_cons (ps_for PassesOwn.never rfl (pi_range1 rfl B.range (pa_cons (pe_op op_add (pe_callB call_lenM (by rfl) B.len (by decide +kernel) (pa_cons (pv 2) pa_nil)) (pe_int)) (pa_nil))) (pg_name (i := 4) sc_bar.nd rfl (Or.inl rfl)) (pss_cons (ps_if (pt_cmpR (r := rNeM K (e2 PyData.int PyData.int)) (op_neM (sh_e2 sh_int sh_int) (units_of hr)) (pe_kn G_weighed (hr.mono (by decide)) (pa_cons (pv 0) (pa_cons (pv 3) (pa_nil)))) (pe_gref c_NOUGHT) (nomark _)) (pss_one (ps_ret (pe_q (pe_callTy call_tuple_of (by rfl) B.tuple (by decide +kernel) (pa_cons (pv 3) pa_nil))))) pss_nil) (pss_one (ps_set (i := 3) sc_bar.nd rfl (Or.inl rfl) (pe_q (pe_lst (pa_cons (pe_gref c_NOUGHT) (pa_star (pv 3) pa_nil)))))))) (pss_one (ps_ret (pe_non)))))), ?_⟩
    refine ⟨_, rfl, ?_⟩
    refine ⟨F, _, places, rfl, e, r_places, (post_bd k).mono (fun b1 k v6 F2 H3 g4 r5 => ?_) (fun _ z => z)⟩
    have eF2 := g4.s
    have gF2 := g_.trans (g4.weak (by simp))
    replace r_weighting := r_weighting.up g4.f
    replace r_places := r_places.up g4.f
    refine ⟨_, rfl, ?_⟩
    refine ⟨F2, _, b1, rfl, eF2, r5, (post_bd k).mono (fun b8 k v13 F9 H10 g11 r12 => ?_) (fun _ z => z)⟩
    have eF9 := g11.s
    have gF9 := gF2.trans (g11.weak (by simp))
    replace r_weighting := r_weighting.up g11.f
    replace r_places := r_places.up g11.f
    replace r5 := r5.up g11.f
    refine ⟨_, rfl, ?_⟩
    obtain ⟨p15, xs16, rfl, s17, a18⟩ := dp_lst r5
    refine ⟨_, _, _, rfl, .inl (sq_of (eF9 _ _ s17)), len_all a18, _, _, rfl, rfl, ?_⟩
    obtain ⟨h19, k⟩ := post_range k
    refine ⟨_, rfl, h19.1, h19.2, ?_⟩
    refine for_mL (M := []) (F := F9) wlk_range (fun b21 F' H' σ' => ∃ (c3 : V) (u4 : Option V), σ' = [some v_weighting, some v_places, some (V.ref p15), some c3, u4] ∧ Dq K F' c3 ((eL (e2 PyData.int PyData.int)) b21)) k eF9 ⟨_, _, rfl, r12⟩ (fun b21 x22 v30 σ32 F23 H24 F25 H26 g27 i31 g28 r29 nx kfb21 => ?_) (fun b38 σ37 F33 H34 g35 i36 k => ?_)
    · replace r_weighting := r_weighting.up g27.f
      replace r_places := r_places.up g27.f
      replace r5 := r5.up g27.f
      replace r12 := r12.up g27.f
      replace s17 := g27.f _ _ s17
      replace a18 := a18.up g27.f
      obtain ⟨c39, u40, rfl, r41⟩ := i31
      replace r_weighting := r_weighting.up g28.f
      replace r_places := r_places.up g28.f
      replace r5 := r5.up g28.f
      replace s17 := g28.f _ _ s17
      replace a18 := a18.up g28.f
      replace r41 := r41.up g28.f
      have eF25 := g28.s
      have gF25 := g27.trans (g28.weak (by simp))
      subst r29
      refine ⟨_, rfl, _, rfl, ?_⟩
      refine ⟨F25, _, weighting, _, b21, rfl, eF25, r_weighting, r41, (post_bd kfb21).mono (fun b42 kfb21 v47 F43 H44 g45 r46 => ?_) (fun _ z => z)⟩
      have eF43 := g45.s
      have gF43 := gF25.trans (g45.weak (by simp))
      replace r_weighting := r_weighting.up g45.f
      replace r_places := r_places.up g45.f
      replace r5 := r5.up g45.f
      replace s17 := g45.f _ _ s17
      replace a18 := a18.up g45.f
      replace r41 := r41.up g45.f
      refine ⟨b42, ((0, 1) : (Int × Int)), r46.dp eF43, (d_NOUGHT F43).dp eF43, ?_⟩
      refine ⟨_, rfl, ?_⟩
      refine cs kfb21 (fun _ kfb21 => ?_) (fun _ kfb21 => ?_)
      · refine ⟨_, rfl, ?_⟩
        obtain ⟨p49, xs50, rfl, s51, a52⟩ := dp_lst r41
        refine to_VL (K := K) (M := []) eF43 s51 a52 (en := (e2 PyData.int PyData.int)) (l := b21) fun v57 F53 H54 g55 r56 => ?_
        have eF53 := g55.s
        have gF53 := gF43.trans (g55.weak (by simp))
        replace r_weighting := r_weighting.up g55.f
        replace r_places := r_places.up g55.f
        replace r5 := r5.up g55.f
        replace s17 := g55.f _ _ s17
        replace a18 := a18.up g55.f
        replace r41 := r41.up g55.f
        replace r46 := r46.up g55.f
        replace s51 := g55.f _ _ s51
        replace a52 := a52.up g55.f
        exact (show Post (Mm.ok _) _ _ from kfb21.h).h _ _ _ (gF9.trans gF53) r56
      · refine ⟨_, rfl, ?_⟩
        obtain ⟨p58, xs59, rfl, s60, a61⟩ := dp_lst r41
        refine ⟨_, _, rfl, .inr (sq_of (eF43 _ _ s60)), ?_⟩
        obtain ⟨h62, kfb21⟩ := post_guard kfb21
        show _ ∧ _
        refine new_star (K := K) (M := []) (en := (e2 PyData.int PyData.int)) (pre := [(V.ref a_NOUGHT)]) (pm := [((0, 1) : (Int × Int))]) (xs := xs59) (l := b21) eF43 (.cons (d_NOUGHT F43) .nil) a61 h62 fun v67 F63 H64 g65 r66 => ?_
        have eF63 := g65.s
        have gF63 := gF43.trans (g65.weak (by simp))
        replace r_weighting := r_weighting.up g65.f
        replace r_places := r_places.up g65.f
        replace r5 := r5.up g65.f
        replace s17 := g65.f _ _ s17
        replace a18 := a18.up g65.f
        replace r41 := r41.up g65.f
        replace r46 := r46.up g65.f
        replace s60 := g65.f _ _ s60
        replace a61 := a61.up g65.f
        exact kfb21.h _ _ _ gF63 ⟨_, _, rfl, r66⟩
    have g68 := gF9.trans (g35.weak (by simp))
    replace r_weighting := r_weighting.up g35.f
    replace r_places := r_places.up g35.f
    replace r5 := r5.up g35.f
    replace r12 := r12.up g35.f
    replace s17 := g35.f _ _ s17
    replace a18 := a18.up g35.f
    have eF33 := g35.s
    obtain ⟨c69, u70, rfl, r71⟩ := i36
    exact k.h _ _ _ g68 Dq.non
/-! ### best_degree -/
abbrev s_best_degree : Stmt := top 45
theorem sc_best_degree : FnScope ["weighting", "places", "barring"] ["weighting", "places"] (defScope s_best_degree) := ⟨rfl, rfl, rfl, by decide +kernel, rfl, by decide +kernel, by decide +kernel⟩
def best_degree (weighting : Wt) (places : (List (Int × Int))) : Mm (Option Int) := (bar (weighting) (places)).bd fun b1 => cond b1.isNone (Mm.ok none) ((getO b1).bd fun a8 => Mm.ok (some ((a8.length : Int) - (2 : Int))))
def sp_best_degree (K : PySem.W.Frag) (C : Addr) : Sp := fun vs H Q _ => ∃ (F : Hp) (v_weighting : V) (weighting : Wt) (v_places : V) (places : (List (Int × Int))), vs = [v_weighting, v_places] ∧ Ex F H ∧ IsW K C F v_weighting weighting ∧ Dq K F v_places ((eV (e2 PyData.int PyData.int)) places) ∧ Post (best_degree weighting places) (fun r => Ret [] F H (fun F' _ v => Dq K F' v ((eO PyData.int) r)) Q) (fun _ => False)
theorem ok_best_degree {P : Program} {w : World} {K : PySem.W.Frag} {mg : Str → Option Value} {base : Heap} {C f : Addr} {fd : FuncData} (B : Bi mg) (FF : FunD K "best_degree" "best_degree" (defArgs s_best_degree) (defBody s_best_degree) (defScope s_best_degree) [] [] f fd) (G_bar : Kn P w K mg base "bar" 5 ["weighting", "places"] (sp_bar K C)) : FnOk P w K mg base CX0 6 f fd ["weighting", "places"] (sp_best_degree K C) := by
  refine FF.ok sc_best_degree (fun vs H Q E h => ?_) (fun cdv A outer s H vs Q E hr h => ?_)
  · obtain ⟨F, v_weighting, weighting, v_places, places, rfl, _⟩ := h; rfl
  · obtain ⟨F, v_weighting, weighting, v_places, places, rfl, e, r_weighting, r_places, k⟩ := h
    unfold best_degree at k
    have g_ := Gm.refl (M := []) e
    refine ⟨_, PSs.nox (pss_cons (ps_set (i := 2) sc_best_degree.nd rfl (Or.inl rfl) (pe_kn G_bar (hr.mono (by decide)) (pa_cons (pv 0) (pa_cons (pv 1) (pa_nil))))) (pss_cons (ps_if (pt_cmp (pc_isN (pv 2)) rfl) (pss_one (ps_ret (pe_non))) pss_nil) (pss_one (ps_ret (pe_op op_sub (pe_callB call_lenM (by rfl) B.len (by decide +kernel) (pa_cons (pv 2) pa_nil)) (pe_int)))))), ?_⟩
    refine ⟨_, rfl, _, rfl, ?_⟩
    refine ⟨F, _, weighting, _, places, rfl, e, r_weighting, r_places, (post_bd k).mono (fun b1 k v6 F2 H3 g4 r5 => ?_) (fun _ z => z)⟩
    have eF2 := g4.s
    have gF2 := g_.trans (g4.weak (by simp))
    replace r_weighting := r_weighting.up g4.f
    replace r_places := r_places.up g4.f
    refine ⟨_, rfl, _, rfl, ?_⟩
    rw [none_O r5]
    refine cs k (fun _ k => ?_) (fun _ k => ?_)
    · exact k.h _ _ _ gF2 Dq.non
    · obtain ⟨a8, h9, k⟩ := post_getO k
      have qa8 := dq_some r5 h9
      refine ⟨_, rfl, ?_⟩
      obtain ⟨p10, xs11, rfl, s12, a13⟩ := dp_tup qa8
      refine ⟨_, _, _, rfl, .inr (ex_t eF2 s12), len_all a13, _, _, rfl, rfl, ?_⟩
      exact k.h _ _ _ gF2 (Dq.int ((a8.length : Int) - (2 : Int)))
/-! ### _law_taken -/
abbrev s_law_taken : Stmt := top 47
theorem sc_law_taken : FnScope ["_law_row", "_law_many", "_law_found", "_law_cell"] ["_law_row", "_law_many"] (defScope s_law_taken) := ⟨rfl, rfl, rfl, by decide +kernel, rfl, by decide +kernel, by decide +kernel⟩
theorem ok_law_taken {P : Program} {w : World} {K : PySem.W.Frag} {mg : Str → Option Value} {base : Heap} {f : Addr} {fd : FuncData} (B : Bi mg) (FF : FunD K "_law_taken" "_law_taken" (defArgs s_law_taken) (defBody s_law_taken) (defScope s_law_taken) [] [] f fd) : FnOk P w K mg base CX0 1 f fd ["_law_row", "_law_many"] (spTaken takenA K) := by
  refine FF.ok sc_law_taken (fun vs H Q E h => ?_) (fun cdv A outer s H vs Q E hr h => ?_)
  · obtain ⟨F, sc, ra, scr, st, many, rfl, _⟩ := h; rfl
  · obtain ⟨F, sc, ra, scr, st, many, rfl, e, ⟨hL, hF, hS⟩, k⟩ := h
    obtain ⟨pos, seed, left⟩ := st
    unfold takenA at k
    split at k
    case isFalse => exact k.elim
    rename_i hc
    obtain ⟨h1, h2, h3, h4, h5, h6⟩ := hc
    simp only at h3 h4 h5 h6 k hL
    have cd : ∀ i : Int, CDv i many := fun i => cdv_small ⟨by omega, by omega⟩
    refine ⟨_, PSs.nox (pss_cons (ps_if (pt_cmpR op_gt (pe_ix ix_list (pv 0) pe_int (fun _ _ => rfl)) pe_int (nomark _))
        (pss_cons (ps_set (i := 2) sc_law_taken.nd rfl (.inl rfl) (pe_op op_modM (pe_callTy call_intM (by rfl) B.int (by decide +kernel) (pa_cons (pe_ix ix_list (pv 0) pe_int (fun _ _ => rfl)) pa_nil)) (pv 1)))
          (pss_cons (ps_asg (pe_op op_divM (pe_ix ix_list (pv 0) pe_int (fun _ _ => rfl)) (pv 1)) (pg_sub (pv 0) pe_int set_list)) (pss_one (ps_ret (pv 2))))) pss_nil)
      (pss_cons (ps_asg (pe_op op_add (pe_ix ix_list (pv 0) pe_int (fun _ _ => rfl)) pe_int) (pg_sub (pv 0) pe_int set_list))
      (pss_cons (ps_if (pt_cmpR op_gt (pe_ix ix_list (pv 0) pe_int (fun _ _ => rfl)) (pe_callB call_lenM (by rfl) B.len (by decide +kernel) (pa_cons (pe_ix ix_list (pv 0) pe_int (fun _ _ => rfl)) pa_nil)) (nomark _))
        (pss_cons (ps_asg (pe_op op_modM (pe_callTy call_intM (by rfl) B.int (by decide +kernel) (pa_cons (pe_op op_add (pe_op op_mulM (pe_ix ix_list (pv 0) pe_int (fun _ _ => rfl)) pe_int) pe_int) pa_nil)) pe_int) (pg_sub (pv 0) pe_int set_list))
          (pss_one (ps_ret (pe_op op_modM (pe_callTy call_intM (by rfl) B.int (by decide +kernel) (pa_cons (pe_op op_divM (pe_ix ix_list (pv 0) pe_int (fun _ _ => rfl)) pe_int) pa_nil)) (pv 1))))) pss_nil)
      (pss_cons (ps_set (i := 3) sc_law_taken.nd rfl (.inl rfl) (pe_ix ix_list (pe_ix ix_list (pv 0) pe_int (fun _ _ => rfl)) (pe_op op_sub (pe_ix ix_list (pv 0) pe_int (fun _ _ => rfl)) pe_int) (fun _ _ => rfl)))
      (pss_cons (ps_asg (pe_op op_modM (pe_callTy call_intM (by rfl) B.int (by decide +kernel) (pa_cons (pe_op op_add (pe_op op_add (pe_op op_mulM (pe_ix ix_list (pv 0) pe_int (fun _ _ => rfl)) pe_int) (pv 3)) pe_int) pa_nil)) pe_int) (pg_sub (pv 0) pe_int set_list))
      (pss_cons (ps_asg (pe_ifExp (pt_cmpR op_ge (pv 3) (pe_op op_pow pe_int pe_int) (nomark _)) (pe_op op_divM (pv 3) (pv 1)) pe_int) (pg_sub (pv 0) pe_int set_list))
      (pss_one (ps_ret (pe_op op_modM (pe_callTy call_intM (by rfl) B.int (by decide +kernel) (pa_cons (pv 3) pa_nil)) (pv 1)))))))))), ?_⟩
    refine ⟨_, rfl, _, _, _, _, rfl, rfl, sq_of hL, rfl, _, _, rfl, rfl, _, rfl, ?_⟩
    by_cases c1 : left > 0
    · rw [if_pos (show left > 0 from c1)] at k
      rw [if_pos (decide_eq_true c1)]
      refine ⟨_, rfl, _, _, _, _, rfl, rfl, sq_of hL, rfl, _, rfl, _, rfl, _, _, _, rfl, rfl, by omega, rfl, ?_⟩
      refine ⟨_, rfl, _, _, _, _, rfl, rfl, sq_of hL, rfl, _, rfl, _, _, _, rfl, rfl, cd _, rfl, _, rfl, _, _, _, _, rfl, rfl, hL, rfl, _, rfl, ?_⟩
      rw [fmod_pos h1, fdiv_pos h1]
      exact k.h _ F _ (Gm.put e hL hF) ⟨rfl, upd_same, hF, hS⟩
    · rw [if_neg (show ¬ left > 0 from c1)] at k
      rw [if_neg (by simpa using c1)]
      refine ⟨_, rfl, _, _, _, _, rfl, rfl, sq_of hL, rfl, _, _, rfl, rfl, _, rfl, _, _, _, _, rfl, rfl, hL, rfl, ?_⟩
      generalize hq : upd H ra (.lst ([V.ref sc, V.int pos, V.int seed, V.int left].set (Int.toNat 1) ((fun i j => V.int (i + j)) pos 1))) = H1
      have g1 : Gm [ra] F H F H1 := by rw [← hq]; exact Gm.put e hL hF
      have l1 : H1 ra = some (.lst [.ref sc, .int (pos + 1), .int seed, .int left]) := by rw [← hq]; exact upd_same
      clear hq
      refine ⟨_, rfl, _, _, _, _, rfl, rfl, sq_of l1, rfl, _, rfl, _, _, _, _, rfl, rfl, sq_of l1, rfl, _, _, _, rfl, .inl (ex_l g1.s hS), rfl, _, _, rfl, rfl, _, rfl, ?_⟩
      cases c2 : scr[pos.toNat]? with
      | none =>
        rw [c2] at k
        have hlen : pos + 1 > ((scr.map V.int).length : Int) := by
          have := List.getElem?_eq_none_iff.mp c2
          rw [List.length_map]; omega
        rw [if_pos (decide_eq_true hlen)]
        refine ⟨_, rfl, _, _, _, _, rfl, rfl, sq_of l1, rfl, _, _, _, rfl, rfl, cmul_small (by omega) (by decide), rfl, _, _, rfl, rfl, _, rfl, _, _, _, rfl, rfl, by decide, rfl, _, rfl, _, _, _, _, rfl, rfl, l1, rfl, ?_⟩
        have es : (seed * 48271 + 11).fmod 2147483647 = seedN seed 0 := by rw [fmod_pos (by decide)]; unfold seedN; rw [Int.add_zero]
        have g2 : Gm [ra] F H F (upd H1 ra (.lst [.ref sc, .int (pos + 1), .int (seedN seed 0), .int left])) := g1.trans (Gm.put g1.s l1 hF)
        have l2 : (upd H1 ra (.lst [.ref sc, .int (pos + 1), .int (seedN seed 0), .int left])) ra = some (.lst [.ref sc, .int (pos + 1), .int (seedN seed 0), .int left]) := upd_same
        rw [es]
        refine ⟨_, rfl, _, _, _, _, rfl, rfl, sq_of l2, rfl, _, _, _, rfl, rfl, cdv_small ⟨by decide, by decide⟩, rfl, _, rfl, _, rfl, _, _, _, rfl, rfl, by omega, rfl, ?_⟩
        rw [fmod_pos h1, fdiv_pos (by decide)]
        exact k.h _ F _ g2 ⟨rfl, l2, hF, hS⟩
      | some c =>
        rw [c2] at k
        obtain ⟨hp, ec⟩ := List.getElem?_eq_some_iff.mp c2
        have hlen : ¬ pos + 1 > ((scr.map V.int).length : Int) := by rw [List.length_map]; omega
        rw [if_neg (by simpa using hlen)]
        have hat : atI (scr.map V.int) (pos + 1 - 1) = some (.int c) := by
          unfold atI ixN
          rw [if_pos (by omega), if_pos (by rw [List.length_map]; omega)]
          show (scr.map V.int)[(pos + 1 - 1).toNat]? = _
          rw [show (pos + 1 - 1) = pos by omega, List.getElem?_map, c2]; rfl
        refine ⟨_, rfl, _, _, _, _, rfl, rfl, sq_of l1, rfl, _, rfl, _, _, _, _, rfl, rfl, sq_of l1, rfl, _, _, rfl, rfl, _, _, _, _, rfl, rfl, ex_l g1.s hS, hat, ?_⟩
        refine ⟨_, rfl, _, _, _, _, rfl, rfl, sq_of l1, rfl, _, _, _, rfl, rfl, cmul_small (by omega) (by decide), rfl, _, rfl, _, _, rfl, rfl, _, _, rfl, rfl, _, rfl, _, _, _, rfl, rfl, by decide, rfl, _, rfl, _, _, _, _, rfl, rfl, l1, rfl, ?_⟩
        have es : (seed * 48271 + c + 11).fmod 2147483647 = seedN seed c := by rw [fmod_pos (by decide)]; rfl
        have g2 : Gm [ra] F H F (upd H1 ra (.lst [.ref sc, .int (pos + 1), .int (seedN seed c), .int left])) := g1.trans (Gm.put g1.s l1 hF)
        have l2 : (upd H1 ra (.lst [.ref sc, .int (pos + 1), .int (seedN seed c), .int left])) ra = some (.lst [.ref sc, .int (pos + 1), .int (seedN seed c), .int left]) := upd_same
        rw [es]
        refine ⟨_, rfl, _, _, rfl, rfl, ⟨by decide, by decide, by decide⟩, _, _, rfl, rfl, _, rfl, ?_⟩
        have fin : ∀ x, Gm [ra] F H F (upd (upd H1 ra (.lst [.ref sc, .int (pos + 1), .int (seedN seed c), .int left])) ra (.lst [.ref sc, .int (pos + 1), .int (seedN seed c), .int x])) := fun x => g2.trans (Gm.put g2.s l2 hF)
        by_cases c3 : c ≥ 10 ^ 18
        · simp only [if_pos (show c ≥ 10 ^ 18 from c3)] at k
          refine iteP (decide_eq_true c3) ?_
          refine ⟨_, rfl, _, rfl, _, _, _, rfl, rfl, cd _, rfl, _, rfl, _, _, _, _, rfl, rfl, l2, rfl, ?_⟩
          refine ⟨_, rfl, _, rfl, _, rfl, _, _, _, rfl, rfl, by omega, rfl, ?_⟩
          rw [fmod_pos h1, fdiv_pos h1]
          exact k.h _ F _ (fin _) ⟨rfl, upd_same, hF, hS⟩
        · simp only [if_neg (show ¬ c ≥ 10 ^ 18 from c3)] at k
          refine iteN (decide_eq_false c3) ?_
          refine ⟨_, rfl, _, _, _, _, rfl, rfl, l2, rfl, ?_⟩
          refine ⟨_, rfl, _, rfl, _, rfl, _, _, _, rfl, rfl, by omega, rfl, ?_⟩
          rw [fmod_pos h1]
          exact k.h _ F _ (fin _) ⟨rfl, upd_same, hF, hS⟩

/-! ### _law_pick -/
abbrev s_law_pick : Stmt := top 48
theorem sc_law_pick : FnScope ["_law_row", "_law_some"] ["_law_row", "_law_some"] (defScope s_law_pick) := ⟨rfl, rfl, rfl, by decide +kernel, rfl, by decide +kernel, by decide +kernel⟩
theorem ok_law_pick {P : Program} {w : World} {K : PySem.W.Frag} {mg : Str → Option Value} {base : Heap} {f : Addr} {fd : FuncData} (B : Bi mg) (FF : FunD K "_law_pick" "_law_pick" (defArgs s_law_pick) (defBody s_law_pick) (defScope s_law_pick) [] [] f fd)
    (G_law_taken : Kn P w K mg base "_law_taken" 1 ["_law_row", "_law_many"] (spTaken takenA K)) : FnOk P w K mg base CX0 2 f fd ["_law_row", "_law_some"] (spPick takenA K) := by
  refine FF.ok sc_law_pick (fun vs H Q E h => ?_) (fun cdv A outer s H vs Q E hr h => ?_)
  · obtain ⟨F, sc, ra, scr, st, α, en, v, l, rfl, _⟩ := h; rfl
  · obtain ⟨F, sc, ra, scr, st, α, en, v, l, rfl, e, w, r, k⟩ := h
    obtain ⟨p, xs, rfl, hp, ha⟩ := dp_lst r
    unfold pickM at k
    refine ⟨_, PSs.nox (pss_one (ps_ret (pe_ix ix_list (pv 1) (pe_kn G_law_taken (hr.mono (by decide)) (pa_cons (pv 0) (pa_cons (pe_callB call_lenM (by rfl) B.len (by decide +kernel) (pa_cons (pv 1) pa_nil)) pa_nil))) (fun _ _ => rfl)))), ?_⟩
    refine ⟨_, rfl, _, rfl, _, rfl, _, _, _, rfl, .inl (sq_of (e _ _ hp)), len_all ha, ?_⟩
    refine ⟨F, sc, ra, scr, st, _, rfl, e, w, (post_bd k).mono (fun b k v F1 H1 g h => ?_) (fun _ z => z)⟩
    obtain ⟨rfl, w1⟩ := h
    obtain ⟨a, h1, k⟩ := post_get k
    obtain ⟨u, hu, ru⟩ := dq_at (ha.up g.f) h1
    refine ⟨_, _, _, _, rfl, rfl, sq_of (g.s _ _ (g.f _ _ hp)), hu, ?_⟩
    exact k.h _ _ _ g ⟨ru, w1⟩

/-! ### _law_low -/
abbrev s_law_low : Stmt := top 49
theorem sc_law_low : FnScope ["_law_top", "_law_bottom", "_law_one", "_law_other"] ["_law_top", "_law_bottom"] (defScope s_law_low) := ⟨rfl, rfl, rfl, by decide +kernel, rfl, by decide +kernel, by decide +kernel⟩
def law_low (law_top : Int) (law_bottom : Int) : Mm (Int × Int) := cond (decide (law_top = (0 : Int))) (Mm.ok ((0 : Int), (1 : Int))) ((foldW (fun (b6 : (Int × Int)) => Mm.ok (decide (b6.2 > (0 : Int)))) (fun (b7 : (Int × Int)) => (modM b7.1 b7.2).bd fun m24 => Mm.ok (b7.2, m24)) ((absI law_bottom).toNat + 1) ((absI law_top), (absI law_bottom))).bd fun b8 => (cond (decide (law_bottom > (0 : Int))) ((divM law_top b8.1).bd fun m35 => (divM law_bottom b8.1).bd fun m38 => Mm.ok (m35, m38)) ((divM law_top b8.1).bd fun m46 => (divM law_bottom b8.1).bd fun m49 => Mm.ok (((0 : Int) - m46), ((0 : Int) - m49)))).bd fun b33 => Mm.ok b33)
def sp_law_low (K : PySem.W.Frag) : Sp := fun vs H Q _ => ∃ (F : Hp) (law_top : Int) (law_bottom : Int), vs = [(V.int law_top), (V.int law_bottom)] ∧ Ex F H ∧ Post (law_low law_top law_bottom) (fun r => Ret [] F H (fun F' _ v => Dq K F' v ((e2 PyData.int PyData.int) r)) Q) (fun _ => False)
theorem ok_law_low {P : Program} {w : World} {K : PySem.W.Frag} {mg : Str → Option Value} {base : Heap} {C f : Addr} {fd : FuncData} (B : Bi mg) (FF : FunD K "_law_low" "_law_low" (defArgs s_law_low) (defBody s_law_low) (defScope s_law_low) [] [] f fd) : FnOk P w K mg base CX0 1 f fd ["_law_top", "_law_bottom"] (sp_law_low K) := by
  refine FF.ok sc_law_low (fun vs H Q E h => ?_) (fun cdv A outer s H vs Q E hr h => ?_)
  · obtain ⟨F, law_top, law_bottom, rfl, _⟩ := h; rfl
  · obtain ⟨F, law_top, law_bottom, rfl, e, k⟩ := h
    unfold law_low at k
    have g_ := Gm.refl (M := []) e
    refine ⟨_, PSs.nox (pss_cons (ps_if (pt_cmpR op_eq (pv 0) (pe_int) (nomark _)) (pss_one (ps_ret (pe_q (pe_tup (pa_cons (pe_int) (pa_cons (pe_int) (pa_nil))))))) pss_nil) (pss_cons (ps_par (i := 2) (j := 3) (by rfl) sc_law_low.nd rfl rfl (by decide) rfl rfl (pa_cons (pe_callB call_abs (by rfl) B.abs (by decide +kernel) (pa_cons (pv 0) pa_nil)) (pa_cons (pe_callB call_abs (by rfl) B.abs (by decide +kernel) (pa_cons (pv 1) pa_nil)) (pa_nil))) (by rfl)) (pss_cons (ps_while PassesOwn.never (pt_cmpR op_gt (pv 3) (pe_int) (nomark _)) (pss_one (ps_par (i := 2) (j := 3) (by rfl) sc_law_low.nd rfl rfl (by decide) rfl rfl (pa_cons (pv 3) (pa_cons (pe_op op_modM (pv 2) (pv 3)) (pa_nil))) (by rfl)))) (pss_one (ps_ret (pe_ifExp (pt_cmpR op_gt (pv 1) (pe_int) (nomark _)) (pe_q (pe_tup (pa_cons (pe_op op_divM (pv 0) (pv 2)) (pa_cons (pe_op op_divM (pv 1) (pv 2)) (pa_nil))))) (pe_q (pe_tup (pa_cons (pe_op op_sub (pe_int) (pe_op op_divM (pv 0) (pv 2))) (pa_cons (pe_op op_sub (pe_int) (pe_op op_divM (pv 1) (pv 2))) (pa_nil))))))))))), ?_⟩
    refine ⟨_, rfl, rfl, ?_⟩
    rw [decV_int]
    refine ⟨_, rfl, ?_⟩
    refine cs k (fun _ k => ?_) (fun _ k => ?_)
    · show _ ∧ _
      refine new_tup (K := K) (M := []) e (.cons (Dq.int (0 : Int)) (.cons (Dq.int (1 : Int)) .nil)) (by show 2 ≤ 100000; decide) fun v5 F1 H2 g3 r4 => ?_
      have eF1 := g3.s
      have gF1 := g_.trans (g3.weak (by simp))
      replace r4 : Dq K F1 v5 ((e2 PyData.int PyData.int) ((0 : Int), (1 : Int))) := r4
      exact k.h _ _ _ gF1 r4
    · refine ⟨_, rfl, _, rfl, _, rfl, _, rfl, _, _, rfl, ?_⟩
      refine while_mir (M := []) (F := F) (N := (absI law_bottom).toNat + 1) (fun b6 F' H' σ' => σ' = [some (V.int law_top), some (V.int law_bottom), some (V.int b6.1), some (V.int b6.2)]) k e rfl (fun b6 σ13 F9 H10 g11 i12 Q' kcb6 => ?_) (fun b7 σ18 F14 H15 g16 i17 nx kwb6 => ?_) (fun b8 σ23 F19 H20 g21 i22 k => ?_)
      · obtain rfl := i12
        have eF9 := g11.s
        refine ⟨_, rfl, _, _, rfl, rfl, _, rfl, ?_⟩
        exact kcb6.h _ _ g11 rfl
      · obtain rfl := i17
        have eF14 := g16.s
        refine ⟨_, rfl, _, rfl, _, rfl, ?_⟩
        obtain ⟨m24, c25, q26, kwb6⟩ := post_mod kwb6
        refine ⟨_, _, _, rfl, rfl, c25, q26, _, _, rfl, ?_⟩
        exact kwb6.h _ _ _ g16 rfl
      have g27 := g_.trans (g21.weak (by simp))
      have eF19 := g21.s
      obtain rfl := i22
      refine ⟨_, rfl, _, _, rfl, rfl, _, rfl, ?_⟩
      refine if_jM (M := []) (F := F19) (fun b F' H' v => Dq K F' v ((e2 PyData.int PyData.int) b)) k (fun _ Q' kib33 => ?_) (fun _ Q' kib33 => ?_) (fun b33 v28 F29 H30 g31 r32 k => ?_)
      · have gF19_ := Gm.refl (M := []) eF19
        refine ⟨_, rfl, _, rfl, ?_⟩
        obtain ⟨m35, c36, q37, kib33⟩ := post_div kib33
        refine ⟨_, _, _, rfl, rfl, c36, q37, _, rfl, _, rfl, ?_⟩
        obtain ⟨m38, c39, q40, kib33⟩ := post_div kib33
        refine ⟨_, _, _, rfl, rfl, c39, q40, ?_⟩
        show _ ∧ _
        refine new_tup (K := K) (M := []) eF19 (.cons (Dq.int m35) (.cons (Dq.int m38) .nil)) (by show 2 ≤ 100000; decide) fun v45 F41 H42 g43 r44 => ?_
        have eF41 := g43.s
        have gF41 := gF19_.trans (g43.weak (by simp))
        replace r44 : Dq K F41 v45 ((e2 PyData.int PyData.int) (m35, m38)) := r44
        exact kib33.h _ _ _ gF41 r44
      · have gF19_ := Gm.refl (M := []) eF19
        refine ⟨_, rfl, _, rfl, ?_⟩
        obtain ⟨m46, c47, q48, kib33⟩ := post_div kib33
        refine ⟨_, _, _, rfl, rfl, c47, q48, _, _, rfl, rfl, _, rfl, _, rfl, ?_⟩
        obtain ⟨m49, c50, q51, kib33⟩ := post_div kib33
        refine ⟨_, _, _, rfl, rfl, c50, q51, _, _, rfl, rfl, ?_⟩
        show _ ∧ _
        refine new_tup (K := K) (M := []) eF19 (.cons (Dq.int ((0 : Int) - m46)) (.cons (Dq.int ((0 : Int) - m49)) .nil)) (by show 2 ≤ 100000; decide) fun v56 F52 H53 g54 r55 => ?_
        have eF52 := g54.s
        have gF52 := gF19_.trans (g54.weak (by simp))
        replace r55 : Dq K F52 v56 ((e2 PyData.int PyData.int) (((0 : Int) - m46), ((0 : Int) - m49))) := r55
        exact kib33.h _ _ _ gF52 r55
      have eF29 := g31.s
      have gF29 := g27.trans (g31.weak (by simp))
      exact k.h _ _ _ gF29 r32
/-! ### _law_add -/
abbrev s_law_add : Stmt := top 50
theorem sc_law_add : FnScope ["_law_one", "_law_other"] ["_law_one", "_law_other"] (defScope s_law_add) := ⟨rfl, rfl, rfl, by decide +kernel, rfl, by decide +kernel, by decide +kernel⟩
def law_add (law_one : (Int × Int)) (law_other : (Int × Int)) : Mm (Int × Int) := (mulM law_one.1 law_other.2).bd fun m13 => (mulM law_other.1 law_one.2).bd fun m16 => (mulM law_one.2 law_other.2).bd fun m19 => (law_low ((m13 + m16)) (m19)).bd fun b22 => Mm.ok b22
def sp_law_add (K : PySem.W.Frag) : Sp := fun vs H Q _ => ∃ (F : Hp) (v_law_one : V) (law_one : (Int × Int)) (v_law_other : V) (law_other : (Int × Int)), vs = [v_law_one, v_law_other] ∧ Ex F H ∧ Dq K F v_law_one ((e2 PyData.int PyData.int) law_one) ∧ Dq K F v_law_other ((e2 PyData.int PyData.int) law_other) ∧ Post (law_add law_one law_other) (fun r => Ret [] F H (fun F' _ v => Dq K F' v ((e2 PyData.int PyData.int) r)) Q) (fun _ => False)
theorem ok_law_add {P : Program} {w : World} {K : PySem.W.Frag} {mg : Str → Option Value} {base : Heap} {C f : Addr} {fd : FuncData} (B : Bi mg) (FF : FunD K "_law_add" "_law_add" (defArgs s_law_add) (defBody s_law_add) (defScope s_law_add) [] [] f fd) (G_law_low : Kn P w K mg base "_law_low" 1 ["_law_top", "_law_bottom"] (sp_law_low K)) : FnOk P w K mg base CX0 2 f fd ["_law_one", "_law_other"] (sp_law_add K) := by
  refine FF.ok sc_law_add (fun vs H Q E h => ?_) (fun cdv A outer s H vs Q E hr h => ?_)
  · obtain ⟨F, v_law_one, law_one, v_law_other, law_other, rfl, _⟩ := h; rfl
  · obtain ⟨F, v_law_one, law_one, v_law_other, law_other, rfl, e, r_law_one, r_law_other, k⟩ := h
    unfold law_add at k
    have g_ := Gm.refl (M := []) e
    refine ⟨_, PSs.nox (pss_one (ps_ret (pe_kn G_law_low (hr.mono (by decide)) (pa_cons (pe_op op_add (pe_op op_mulM (pe_ix (r := rIxT K) ix_tup (pv 0) (pe_int) (fun _ _ => rfl)) (pe_ix (r := rIxT K) ix_tup (pv 1) (pe_int) (fun _ _ => rfl))) (pe_op op_mulM (pe_ix (r := rIxT K) ix_tup (pv 1) (pe_int) (fun _ _ => rfl)) (pe_ix (r := rIxT K) ix_tup (pv 0) (pe_int) (fun _ _ => rfl)))) (pa_cons (pe_op op_mulM (pe_ix (r := rIxT K) ix_tup (pv 0) (pe_int) (fun _ _ => rfl)) (pe_ix (r := rIxT K) ix_tup (pv 1) (pe_int) (fun _ _ => rfl))) (pa_nil)))))), ?_⟩
    refine ⟨_, rfl, ?_⟩
    obtain ⟨p1, x2, x3, rfl, s4, d5, d6⟩ := dp_tup2 r_law_one
    obtain rfl := dp_int d5
    obtain rfl := dp_int d6
    refine ⟨_, _, _, _, rfl, rfl, ex_t e s4, rfl, _, rfl, ?_⟩
    obtain ⟨p7, x8, x9, rfl, s10, d11, d12⟩ := dp_tup2 r_law_other
    obtain rfl := dp_int d11
    obtain rfl := dp_int d12
    refine ⟨_, _, _, _, rfl, rfl, ex_t e s10, rfl, ?_⟩
    obtain ⟨m13, c14, q15, k⟩ := post_mul k
    refine ⟨_, _, _, rfl, rfl, c14, q15, _, rfl, ?_⟩
    refine ⟨_, _, _, _, rfl, rfl, ex_t e s10, rfl, _, rfl, ?_⟩
    refine ⟨_, _, _, _, rfl, rfl, ex_t e s4, rfl, ?_⟩
    obtain ⟨m16, c17, q18, k⟩ := post_mul k
    refine ⟨_, _, _, rfl, rfl, c17, q18, _, _, rfl, rfl, _, rfl, ?_⟩
    refine ⟨_, _, _, _, rfl, rfl, ex_t e s4, rfl, _, rfl, ?_⟩
    refine ⟨_, _, _, _, rfl, rfl, ex_t e s10, rfl, ?_⟩
    obtain ⟨m19, c20, q21, k⟩ := post_mul k
    refine ⟨_, _, _, rfl, rfl, c20, q21, ?_⟩
    refine ⟨F, (m13 + m16), m19, rfl, e, (post_bd k).mono (fun b22 k v27 F23 H24 g25 r26 => ?_) (fun _ z => z)⟩
    have eF23 := g25.s
    have gF23 := g_.trans (g25.weak (by simp))
    replace r_law_one := r_law_one.up g25.f
    replace r_law_other := r_law_other.up g25.f
    replace s4 := ex_t g25.f s4
    replace s10 := ex_t g25.f s10
    exact k.h _ _ _ gF23 r26
/-! ### _law_mul -/
abbrev s_law_mul : Stmt := top 51
theorem sc_law_mul : FnScope ["_law_one", "_law_other"] ["_law_one", "_law_other"] (defScope s_law_mul) := ⟨rfl, rfl, rfl, by decide +kernel, rfl, by decide +kernel, by decide +kernel⟩
def law_mul (law_one : (Int × Int)) (law_other : (Int × Int)) : Mm (Int × Int) := (mulM law_one.1 law_other.1).bd fun m13 => (mulM law_one.2 law_other.2).bd fun m16 => (law_low (m13) (m16)).bd fun b19 => Mm.ok b19
def sp_law_mul (K : PySem.W.Frag) : Sp := fun vs H Q _ => ∃ (F : Hp) (v_law_one : V) (law_one : (Int × Int)) (v_law_other : V) (law_other : (Int × Int)), vs = [v_law_one, v_law_other] ∧ Ex F H ∧ Dq K F v_law_one ((e2 PyData.int PyData.int) law_one) ∧ Dq K F v_law_other ((e2 PyData.int PyData.int) law_other) ∧ Post (law_mul law_one law_other) (fun r => Ret [] F H (fun F' _ v => Dq K F' v ((e2 PyData.int PyData.int) r)) Q) (fun _ => False)
theorem ok_law_mul {P : Program} {w : World} {K : PySem.W.Frag} {mg : Str → Option Value} {base : Heap} {C f : Addr} {fd : FuncData} (B : Bi mg) (FF : FunD K "_law_mul" "_law_mul" (defArgs s_law_mul) (defBody s_law_mul) (defScope s_law_mul) [] [] f fd) (G_law_low : Kn P w K mg base "_law_low" 1 ["_law_top", "_law_bottom"] (sp_law_low K)) : FnOk P w K mg base CX0 2 f fd ["_law_one", "_law_other"] (sp_law_mul K) := by
  refine FF.ok sc_law_mul (fun vs H Q E h => ?_) (fun cdv A outer s H vs Q E hr h => ?_)
  · obtain ⟨F, v_law_one, law_one, v_law_other, law_other, rfl, _⟩ := h; rfl
  · obtain ⟨F, v_law_one, law_one, v_law_other, law_other, rfl, e, r_law_one, r_law_other, k⟩ := h
    unfold law_mul at k
    have g_ := Gm.refl (M := []) e
    refine ⟨_, PSs.nox (pss_one (ps_ret (pe_kn G_law_low (hr.mono (by decide)) (pa_cons (pe_op op_mulM (pe_ix (r := rIxT K) ix_tup (pv 0) (pe_int) (fun _ _ => rfl)) (pe_ix (r := rIxT K) ix_tup (pv 1) (pe_int) (fun _ _ => rfl))) (pa_cons (pe_op op_mulM (pe_ix (r := rIxT K) ix_tup (pv 0) (pe_int) (fun _ _ => rfl)) (pe_ix (r := rIxT K) ix_tup (pv 1) (pe_int) (fun _ _ => rfl))) (pa_nil)))))), ?_⟩
    refine ⟨_, rfl, ?_⟩
    obtain ⟨p1, x2, x3, rfl, s4, d5, d6⟩ := dp_tup2 r_law_one
    obtain rfl := dp_int d5
    obtain rfl := dp_int d6
    refine ⟨_, _, _, _, rfl, rfl, ex_t e s4, rfl, _, rfl, ?_⟩
    obtain ⟨p7, x8, x9, rfl, s10, d11, d12⟩ := dp_tup2 r_law_other
    obtain rfl := dp_int d11
    obtain rfl := dp_int d12
    refine ⟨_, _, _, _, rfl, rfl, ex_t e s10, rfl, ?_⟩
    obtain ⟨m13, c14, q15, k⟩ := post_mul k
    refine ⟨_, _, _, rfl, rfl, c14, q15, _, rfl, ?_⟩
    refine ⟨_, _, _, _, rfl, rfl, ex_t e s4, rfl, _, rfl, ?_⟩
    refine ⟨_, _, _, _, rfl, rfl, ex_t e s10, rfl, ?_⟩
    obtain ⟨m16, c17, q18, k⟩ := post_mul k
    refine ⟨_, _, _, rfl, rfl, c17, q18, ?_⟩
    refine ⟨F, m13, m16, rfl, e, (post_bd k).mono (fun b19 k v24 F20 H21 g22 r23 => ?_) (fun _ z => z)⟩
    have eF20 := g22.s
    have gF20 := g_.trans (g22.weak (by simp))
    replace r_law_one := r_law_one.up g22.f
    replace r_law_other := r_law_other.up g22.f
    replace s4 := ex_t g22.f s4
    replace s10 := ex_t g22.f s10
    exact k.h _ _ _ gF20 r23
/-! ### _law_is_less -/
abbrev s_law_is_less : Stmt := top 52
theorem sc_law_is_less : FnScope ["_law_one", "_law_other"] ["_law_one", "_law_other"] (defScope s_law_is_less) := ⟨rfl, rfl, rfl, by decide +kernel, rfl, by decide +kernel, by decide +kernel⟩
def law_is_less (law_one : (Int × Int)) (law_other : (Int × Int)) : Mm Bool := (mulM law_one.1 law_other.2).bd fun m13 => (mulM law_other.1 law_one.2).bd fun m16 => Mm.ok (decide (m13 < m16))
def sp_law_is_less (K : PySem.W.Frag) : Sp := fun vs H Q _ => ∃ (F : Hp) (v_law_one : V) (law_one : (Int × Int)) (v_law_other : V) (law_other : (Int × Int)), vs = [v_law_one, v_law_other] ∧ Ex F H ∧ Dq K F v_law_one ((e2 PyData.int PyData.int) law_one) ∧ Dq K F v_law_other ((e2 PyData.int PyData.int) law_other) ∧ Post (law_is_less law_one law_other) (fun r => Ret [] F H (fun F' _ v => v = V.bl r) Q) (fun _ => False)
theorem ok_law_is_less {P : Program} {w : World} {K : PySem.W.Frag} {mg : Str → Option Value} {base : Heap} {C f : Addr} {fd : FuncData} (B : Bi mg) (FF : FunD K "_law_is_less" "_law_is_less" (defArgs s_law_is_less) (defBody s_law_is_less) (defScope s_law_is_less) [] [] f fd) : FnOk P w K mg base CX0 1 f fd ["_law_one", "_law_other"] (sp_law_is_less K) := by
  refine FF.ok sc_law_is_less (fun vs H Q E h => ?_) (fun cdv A outer s H vs Q E hr h => ?_)
  · obtain ⟨F, v_law_one, law_one, v_law_other, law_other, rfl, _⟩ := h; rfl
  · obtain ⟨F, v_law_one, law_one, v_law_other, law_other, rfl, e, r_law_one, r_law_other, k⟩ := h
    unfold law_is_less at k
    have g_ := Gm.refl (M := []) e
    refine ⟨_, PSs.nox (pss_one (ps_ret (pe_cmpR op_lt (pe_op op_mulM (pe_ix (r := rIxT K) ix_tup (pv 0) (pe_int) (fun _ _ => rfl)) (pe_ix (r := rIxT K) ix_tup (pv 1) (pe_int) (fun _ _ => rfl))) (pe_op op_mulM (pe_ix (r := rIxT K) ix_tup (pv 1) (pe_int) (fun _ _ => rfl)) (pe_ix (r := rIxT K) ix_tup (pv 0) (pe_int) (fun _ _ => rfl))) (nomark _)))), ?_⟩
    refine ⟨_, rfl, ?_⟩
    obtain ⟨p1, x2, x3, rfl, s4, d5, d6⟩ := dp_tup2 r_law_one
    obtain rfl := dp_int d5
    obtain rfl := dp_int d6
    refine ⟨_, _, _, _, rfl, rfl, ex_t e s4, rfl, _, rfl, ?_⟩
    obtain ⟨p7, x8, x9, rfl, s10, d11, d12⟩ := dp_tup2 r_law_other
    obtain rfl := dp_int d11
    obtain rfl := dp_int d12
    refine ⟨_, _, _, _, rfl, rfl, ex_t e s10, rfl, ?_⟩
    obtain ⟨m13, c14, q15, k⟩ := post_mul k
    refine ⟨_, _, _, rfl, rfl, c14, q15, _, rfl, ?_⟩
    refine ⟨_, _, _, _, rfl, rfl, ex_t e s10, rfl, _, rfl, ?_⟩
    refine ⟨_, _, _, _, rfl, rfl, ex_t e s4, rfl, ?_⟩
    obtain ⟨m16, c17, q18, k⟩ := post_mul k
    refine ⟨_, _, _, rfl, rfl, c17, q18, _, _, rfl, rfl, ?_⟩
    exact k.h _ _ _ g_ rfl
/-! ### _law_masses -/
abbrev s_law_masses : Stmt := top 53
theorem sc_law_masses : FnScope ["_law_row", "_law_most", "_law_far", "_law_places_here", "_law_place", "_law_k"] ["_law_row", "_law_most", "_law_far"] (defScope s_law_masses) := ⟨rfl, rfl, rfl, by decide +kernel, rfl, by decide +kernel, by decide +kernel⟩
def law_masses (scr : List Int) (st : Rw) (law_most : Int) (law_far : Int) : Mm ((List (Int × Int)) × Rw) := (takenA scr st ((law_most + (1 : Int)))).bd fun b1 => (rangeM b1.1).bd fun l9 => (guardM ((rangeL 0 b1.1.toNat).length ≤ 50000)).bd fun _ => (mapSt (fun (st19 : Rw) (x12 : Int) => (mulM (2 : Int) law_far).bd fun m31 => (takenA scr st19 ((m31 + (1 : Int)))).bd fun b34 => Mm.ok ((b34.1 - law_far), b34.2)) b1.2 (rangeL 0 b1.1.toNat)).bd fun b11 => (guardM (b11.1.length < 64)).bd fun _ => (guardM ((sortedSet b11.1).length ≤ 50000)).bd fun _ => (mapSt (fun (st65 : Rw) (x58 : Int) => (takenA scr st65 ((3 : Int))).bd fun b77 => (takenA scr b77.2 ((20 : Int))).bd fun b84 => (pickM takenA scr b84.2 [(0 : Int), b77.1, b84.1]).bd fun b96 => Mm.ok ((x58, ((1 : Int) + b96.1)), b96.2)) b11.2 (sortedSet b11.1)).bd fun b57 => Mm.ok (b57.1, b57.2)
def sp_law_masses (K : PySem.W.Frag) : Sp := fun vs H Q _ => ∃ (F : Hp) (sc ra : Addr) (scr : List Int) (st : Rw) (law_most : Int) (law_far : Int), vs = [.ref ra, (V.int law_most), (V.int law_far)] ∧ Ex F H ∧ RowAt K sc ra scr F H st ∧ Post (law_masses scr st law_most law_far) (fun r => Ret [ra] F H (fun F' H' v => Dq K F' v ((eV (e2 PyData.int PyData.int)) r.1) ∧ RowAt K sc ra scr F' H' r.2) Q) (fun _ => False)
theorem ok_law_masses {P : Program} {w : World} {K : PySem.W.Frag} {mg : Str → Option Value} {base : Heap} {C f : Addr} {fd : FuncData} (B : Bi mg) (FF : FunD K "_law_masses" "_law_masses" (defArgs s_law_masses) (defBody s_law_masses) (defScope s_law_masses) [] [] f fd) (G_law_taken : Kn P w K mg base "_law_taken" 1 ["_law_row", "_law_many"] (spTaken takenA K)) (G_law_pick : Kn P w K mg base "_law_pick" 2 ["_law_row", "_law_some"] (spPick takenA K)) : FnOk P w K mg base CX0 3 f fd ["_law_row", "_law_most", "_law_far"] (sp_law_masses K) := by
  refine FF.ok sc_law_masses (fun vs H Q E h => ?_) (fun cdv A outer s H vs Q E hr h => ?_)
  · obtain ⟨F, sc, ra, scr, st, law_most, law_far, rfl, _⟩ := h; rfl
  · obtain ⟨F, sc, ra, scr, st, law_most, law_far, rfl, e, w, k⟩ := h
    unfold law_masses at k
    have g_ := Gm.refl (M := [ra]) e
    refine ⟨_, PSs.nox (pss_cons (ps_set (i := 3) sc_law_masses.nd rfl (Or.inl rfl) (pe_q (pe_callB (cr_sortedSet rfl) (by rfl) B.sorted (by decide +kernel) (pa_cons (pe_callTy (cr_setM rfl) (by rfl) B.set (by decide +kernel) (pa_cons (pe_q (pe_lc (own := [("_law_k", 5)]) (g := gName 5) rfl sc_law_masses.nd (pi_range1 rfl B.range (pa_cons (pe_kn G_law_taken (hr.mono (by decide)) (pa_cons (pv 0) (pa_cons (pe_op op_add (pv 1) (pe_int)) (pa_nil)))) (pa_nil))) (blkOk_by (N := ["_law_row", "_law_most", "_law_far", "_law_places_here", "_law_place", "_law_k"]) (sc := defScope s_law_masses) (by decide +kernel)) (fun _ _ _ _ _ => pg_name (i := 5) sc_law_masses.nd rfl (Or.inl rfl)) (fun _ _ _ _ _ => pts_nil) (fun _ _ _ _ _ => pe_op op_sub (pe_kn G_law_taken (hr.mono (by decide)) (pa_cons (pv 0) (pa_cons (pe_op op_add (pe_op op_mulM (pe_int) (pv 2)) (pe_int)) (pa_nil)))) (pv 2)))) pa_nil)) pa_nil)))) (pss_one (ps_ret (pe_q (pe_callTy call_tuple_of (by rfl) B.tuple (by decide +kernel) (pa_cons (pe_q (pe_lc (own := [("_law_place", 4)]) (g := gName 4) rfl sc_law_masses.nd (pi_list (pv 3)) (blkOk_by (N := ["_law_row", "_law_most", "_law_far", "_law_places_here", "_law_place", "_law_k"]) (sc := defScope s_law_masses) (by decide +kernel)) (fun _ _ _ _ _ => pg_name (i := 4) sc_law_masses.nd rfl (Or.inl rfl)) (fun _ _ _ _ _ => pts_nil) (fun _ _ _ _ _ => pe_q (pe_tup (pa_cons (pv 4) (pa_cons (pe_op op_add (pe_int) (pe_kn G_law_pick (hr.mono (by decide)) (pa_cons (pv 0) (pa_cons (pe_q (pe_lst (pa_cons (pe_int) (pa_cons (pe_kn G_law_taken (hr.mono (by decide)) (pa_cons (pv 0) (pa_cons (pe_int) (pa_nil)))) (pa_cons (pe_kn G_law_taken (hr.mono (by decide)) (pa_cons (pv 0) (pa_cons (pe_int) (pa_nil)))) (pa_nil)))))) pa_nil)))) (pa_nil))))))) pa_nil)))))), ?_⟩
    refine ⟨_, rfl, _, rfl, _, _, rfl, rfl, ?_⟩
    refine ⟨F, sc, ra, scr, st, (law_most + (1 : Int)), rfl, e, w, (post_bd k).mono (fun b1 k v6 F2 H3 g4 ⟨r5, w7⟩ => ?_) (fun _ z => z)⟩
    have eF2 := g4.s
    have gF2 := g_.trans (g4.weak (by simp))
    subst r5
    obtain ⟨h8, k⟩ := post_range k
    refine ⟨_, rfl, h8.1, h8.2, ?_⟩
    obtain ⟨h29, k⟩ := post_guard k
    refine lc_st (K := K) wlk_range PyData.int k eF2 h29 w7 (fun st19 x12 v27 F20 H21 F22 H23 g24 w28 g25 r26 Q' k10 => ?_) (fun _ z => z) (fun b11 v13 F14 H15 g16 ⟨r17, w18⟩ k => ?_) gm_name
    · have g30 := Gm.refl (M := [ra]) g24.s
      clear w7
      replace w28 := w28.keep g25
      have eF22 := g25.s
      have gF22 := g30.trans (g25.weak (by simp))
      subst r26
      refine ⟨rfl, _, rfl, _, rfl, ?_⟩
      obtain ⟨m31, c32, q33, k10⟩ := post_mul k10
      refine ⟨_, _, _, rfl, rfl, c32, q33, _, _, rfl, rfl, ?_⟩
      refine ⟨F22, sc, ra, scr, st19, (m31 + (1 : Int)), rfl, eF22, w28, (post_bd k10).mono (fun b34 k10 v39 F35 H36 g37 ⟨r38, w40⟩ => ?_) (fun _ z => z)⟩
      have eF35 := g37.s
      have gF35 := gF22.trans (g37.weak (by simp))
      subst r38
      refine ⟨_, rfl, _, _, rfl, rfl, ?_⟩
      exact k10.h _ _ _ gF35 ⟨(Dq.int (b34.1 - law_far)), w40⟩
    have eF14 := g16.s
    have gF14 := gF2.trans (g16.weak (by simp))
    obtain ⟨p42, xs43, rfl, s44, a45⟩ := dp_lst r17
    obtain rfl := all_ints a45
    obtain ⟨h46, k⟩ := post_guard k
    refine sorted_set (K := K) (M := []) eF14 s44 h46 fun v51 F47 H48 g49 r50 => ?_
    have eF47 := g49.s
    have gF47 := gF14.trans (g49.weak (by simp))
    replace w18 := w18.keep g49
    replace r17 := r17.up g49.f
    replace s44 := g49.f _ _ s44
    replace a45 := a45.up g49.f
    refine ⟨_, rfl, ?_⟩
    obtain ⟨p52, xs53, rfl, s54, a55⟩ := dp_lst r50
    refine ⟨_, rfl, ⟨_, (sq_of (eF47 _ _ s54))⟩, ?_⟩
    obtain ⟨h75, k⟩ := post_guard k
    refine lc_st (K := K) (wlk_list eF47 s54 a55) (e2 PyData.int PyData.int) k eF47 h75 w18 (fun st65 x58 v73 F66 H67 F68 H69 g70 w74 g71 r72 Q' k56 => ?_) (fun _ z => z) (fun b57 v59 F60 H61 g62 ⟨r63, w64⟩ k => ?_) gm_name
    · have g76 := Gm.refl (M := [ra]) g70.s
      clear w18
      replace r17 := r17.up g70.f
      replace s44 := g70.f _ _ s44
      replace a45 := a45.up g70.f
      replace r50 := r50.up g70.f
      replace s54 := g70.f _ _ s54
      replace a55 := a55.up g70.f
      replace r17 := r17.up g71.f
      replace s44 := g71.f _ _ s44
      replace a45 := a45.up g71.f
      replace r50 := r50.up g71.f
      replace s54 := g71.f _ _ s54
      replace a55 := a55.up g71.f
      replace w74 := w74.keep g71
      have eF68 := g71.s
      have gF68 := g76.trans (g71.weak (by simp))
      obtain rfl := dp_int r72
      refine ⟨rfl, _, rfl, _, rfl, _, rfl, ?_⟩
      refine ⟨F68, sc, ra, scr, st65, (3 : Int), rfl, eF68, w74, (post_bd k56).mono (fun b77 k56 v82 F78 H79 g80 ⟨r81, w83⟩ => ?_) (fun _ z => z)⟩
      have eF78 := g80.s
      have gF78 := gF68.trans (g80.weak (by simp))
      replace r17 := r17.up g80.f
      replace s44 := g80.f _ _ s44
      replace a45 := a45.up g80.f
      replace r50 := r50.up g80.f
      replace s54 := g80.f _ _ s54
      replace a55 := a55.up g80.f
      subst r81
      refine ⟨_, rfl, ?_⟩
      refine ⟨F78, sc, ra, scr, b77.2, (20 : Int), rfl, eF78, w83, (post_bd k56).mono (fun b84 k56 v89 F85 H86 g87 ⟨r88, w90⟩ => ?_) (fun _ z => z)⟩
      have eF85 := g87.s
      have gF85 := gF78.trans (g87.weak (by simp))
      replace r17 := r17.up g87.f
      replace s44 := g87.f _ _ s44
      replace a45 := a45.up g87.f
      replace r50 := r50.up g87.f
      replace s54 := g87.f _ _ s54
      replace a55 := a55.up g87.f
      subst r88
      show _ ∧ _
      refine new_lst (K := K) (M := []) eF85 (.cons (Dq.int (0 : Int)) (.cons (Dq.int b77.1) (.cons (Dq.int b84.1) .nil))) (by show 3 ≤ 100000; decide) fun v95 F91 H92 g93 r94 => ?_
      have eF91 := g93.s
      have gF91 := gF85.trans (g93.weak (by simp))
      replace r17 := r17.up g93.f
      replace s44 := g93.f _ _ s44
      replace a45 := a45.up g93.f
      replace r50 := r50.up g93.f
      replace s54 := g93.f _ _ s54
      replace a55 := a55.up g93.f
      replace w90 := w90.keep g93
      replace r94 : Dq K F91 v95 ((eL PyData.int) [(0 : Int), b77.1, b84.1]) := r94
      refine ⟨F91, sc, ra, scr, b84.2, _, PyData.int, _, [(0 : Int), b77.1, b84.1], rfl, eF91, w90, r94, (post_bd k56).mono (fun b96 k56 v101 F97 H98 g99 ⟨r100, w102⟩ => ?_) (fun _ z => z)⟩
      have eF97 := g99.s
      have gF97 := gF91.trans (g99.weak (by simp))
      replace r17 := r17.up g99.f
      replace s44 := g99.f _ _ s44
      replace a45 := a45.up g99.f
      replace r50 := r50.up g99.f
      replace s54 := g99.f _ _ s54
      replace a55 := a55.up g99.f
      replace r94 := r94.up g99.f
      obtain rfl := dp_int r100
      refine ⟨_, _, rfl, rfl, ?_⟩
      show _ ∧ _
      refine new_tup (K := K) (M := []) eF97 (.cons (Dq.int x58) (.cons (Dq.int ((1 : Int) + b96.1)) .nil)) (by show 2 ≤ 100000; decide) fun v107 F103 H104 g105 r106 => ?_
      have eF103 := g105.s
      have gF103 := gF97.trans (g105.weak (by simp))
      replace r17 := r17.up g105.f
      replace s44 := g105.f _ _ s44
      replace a45 := a45.up g105.f
      replace r50 := r50.up g105.f
      replace s54 := g105.f _ _ s54
      replace a55 := a55.up g105.f
      replace r94 := r94.up g105.f
      replace w102 := w102.keep g105
      replace r106 : Dq K F103 v107 ((e2 PyData.int PyData.int) (x58, ((1 : Int) + b96.1))) := r106
      exact k56.h _ _ _ gF103 ⟨r106, w102⟩
    have eF60 := g62.s
    have gF60 := gF47.trans (g62.weak (by simp))
    replace r17 := r17.up g62.f
    replace s44 := g62.f _ _ s44
    replace a45 := a45.up g62.f
    replace r50 := r50.up g62.f
    replace s54 := g62.f _ _ s54
    replace a55 := a55.up g62.f
    obtain ⟨p109, xs110, rfl, s111, a112⟩ := dp_lst r63
    refine to_VL (K := K) (M := []) eF60 s111 a112 (en := (e2 PyData.int PyData.int)) (l := b57.1) fun v117 F113 H114 g115 r116 => ?_
    have eF113 := g115.s
    have gF113 := gF60.trans (g115.weak (by simp))
    replace r17 := r17.up g115.f
    replace s44 := g115.f _ _ s44
    replace a45 := a45.up g115.f
    replace r50 := r50.up g115.f
    replace s54 := g115.f _ _ s54
    replace a55 := a55.up g115.f
    replace w64 := w64.keep g115
    replace r63 := r63.up g115.f
    replace s111 := g115.f _ _ s111
    replace a112 := a112.up g115.f
    exact k.h _ _ _ gF113 ⟨r116, w64⟩
/-! ### _law_stretches -/
abbrev s_law_stretches : Stmt := top 54
theorem sc_law_stretches : FnScope ["_law_row", "_law_most", "_law_far", "_law_found", "_law_low_here", "_law_k", "_law_high"] ["_law_row", "_law_most", "_law_far"] (defScope s_law_stretches) := ⟨rfl, rfl, rfl, by decide +kernel, rfl, by decide +kernel, by decide +kernel⟩
def law_stretches (scr : List Int) (st : Rw) (law_most : Int) (law_far : Int) : Mm ((List (Int × Int × Int)) × Rw) := (takenA scr st ((law_most + (1 : Int)))).bd fun b8 => (rangeM b8.1).bd fun l16 => (foldM (fun (b17 : (Int × (List (Int × Int × Int)) × Rw)) (x18 : Int) => (takenA scr b17.2.2 (law_far)).bd fun b41 => (takenA scr b41.2 (law_far)).bd fun b48 => cond (decide ((((b17.1 + b41.1) + (1 : Int)) + b48.1) ≤ law_far)) ((takenA scr b48.2 ((4 : Int))).bd fun b55 => (guardM (b17.2.1.length < 100000)).bd fun _ => Mm.ok ((((b17.1 + b41.1) + (1 : Int)) + b48.1), (b17.2.1 ++ [((b17.1 + b41.1), (((b17.1 + b41.1) + (1 : Int)) + b48.1), ((1 : Int) + b55.1))]), b55.2)) (Mm.ok ((b17.1 + b41.1), b17.2.1, b48.2))) (((0 : Int) - law_far), [], b8.2) (rangeL 0 b8.1.toNat)).bd fun b34 => Mm.ok (b34.2.1, b34.2.2)
def sp_law_stretches (K : PySem.W.Frag) : Sp := fun vs H Q _ => ∃ (F : Hp) (sc ra : Addr) (scr : List Int) (st : Rw) (law_most : Int) (law_far : Int), vs = [.ref ra, (V.int law_most), (V.int law_far)] ∧ Ex F H ∧ RowAt K sc ra scr F H st ∧ Post (law_stretches scr st law_most law_far) (fun r => Ret [ra] F H (fun F' H' v => Dq K F' v ((eV (e3 PyData.int PyData.int PyData.int)) r.1) ∧ RowAt K sc ra scr F' H' r.2) Q) (fun _ => False)
theorem ok_law_stretches {P : Program} {w : World} {K : PySem.W.Frag} {mg : Str → Option Value} {base : Heap} {C f : Addr} {fd : FuncData} (B : Bi mg) (FF : FunD K "_law_stretches" "_law_stretches" (defArgs s_law_stretches) (defBody s_law_stretches) (defScope s_law_stretches) [] [] f fd) (G_law_taken : Kn P w K mg base "_law_taken" 1 ["_law_row", "_law_many"] (spTaken takenA K)) : FnOk P w K mg base CX0 2 f fd ["_law_row", "_law_most", "_law_far"] (sp_law_stretches K) := by
  refine FF.ok sc_law_stretches (fun vs H Q E h => ?_) (fun cdv A outer s H vs Q E hr h => ?_)
  · obtain ⟨F, sc, ra, scr, st, law_most, law_far, rfl, _⟩ := h; rfl
  · obtain ⟨F, sc, ra, scr, st, law_most, law_far, rfl, e, w, k⟩ := h
    unfold law_stretches at k
    have g_ := Gm.refl (M := [ra]) e
    refine ⟨_, PSs.nox (pss_cons (ps_par (i := 3) (j := 4) (by rfl) sc_law_stretches.nd rfl rfl (by decide) rfl rfl (pa_cons (pe_q (pe_lst (pa_nil))) (pa_cons (pe_op op_sub (pe_int) (pv 2)) (pa_nil))) (by rfl)) (pss_cons (ps_for PassesOwn.never rfl (pi_range1 rfl B.range (pa_cons (pe_kn G_law_taken (hr.mono (by decide)) (pa_cons (pv 0) (pa_cons (pe_op op_add (pv 1) (pe_int)) (pa_nil)))) (pa_nil))) (pg_name (i := 5) sc_law_stretches.nd rfl (Or.inl rfl)) (pss_cons (ps_set (i := 4) sc_law_stretches.nd rfl (Or.inl rfl) (pe_op op_add (pv 4) (pe_kn G_law_taken (hr.mono (by decide)) (pa_cons (pv 0) (pa_cons (pv 2) (pa_nil)))))) (pss_cons (ps_set (i := 6) sc_law_stretches.nd rfl (Or.inl rfl) (pe_op op_add (pe_op op_add (pv 4) (pe_int)) (pe_kn G_law_taken (hr.mono (by decide)) (pa_cons (pv 0) (pa_cons (pv 2) (pa_nil)))))) (pss_one (ps_if (pt_cmpR op_le (pv 6) (pv 2) (nomark _)) (pss_cons (ps_expr (pe_bm PySem.F.plainAttrs_list PySem.F.slot_list_append PySem.F.type_list_append mt_append (pv 3) (pa_cons (pe_q (pe_tup (pa_cons (pv 4) (pa_cons (pv 6) (pa_cons (pe_op op_add (pe_int) (pe_kn G_law_taken (hr.mono (by decide)) (pa_cons (pv 0) (pa_cons (pe_int) (pa_nil))))) (pa_nil)))))) pa_nil))) (pss_one (ps_set (i := 4) sc_law_stretches.nd rfl (Or.inl rfl) (pv 6)))) (pss_nil)))))) (pss_one (ps_ret (pe_q (pe_callTy call_tuple_of (by rfl) B.tuple (by decide +kernel) (pa_cons (pv 3) pa_nil))))))), ?_⟩
    show _ ∧ _
    refine new_own (K := K) e .nil (by show 0 ≤ 100000; decide) fun p1 H2 g3 y4 o5 => ?_
    have a6 : DqAll K F [] (List.map (e3 PyData.int PyData.int PyData.int) []) := .nil
    have np1 := ne_of_none w.1 y4
    have mp1 := np1.symm
    have zp1 := g_.fresh y4
    have eH2 := g3.s
    have gH2 := g_.trans (g3.weak (by simp))
    replace w := w.keep g3
    refine ⟨_, rfl, _, _, rfl, rfl, _, _, rfl, ?_⟩
    refine ⟨_, rfl, _, rfl, _, _, rfl, rfl, ?_⟩
    refine ⟨F, sc, ra, scr, st, (law_most + (1 : Int)), rfl, eH2, w, (post_bd k).mono (fun b8 k v13 F9 H10 g11 ⟨r12, w14⟩ => ?_) (fun _ z => z)⟩
    have eF9 := g11.s
    have gF9 := gH2.trans (g11.weak (by simp))
    replace o5 := g11.own (by simp [*]) o5.1 o5.2
    replace a6 := a6.up g11.f
    subst r12
    obtain ⟨h15, k⟩ := post_range k
    refine ⟨_, rfl, h15.1, h15.2, ?_⟩
    refine for_m (M := [p1, ra]) (F := F9) wlk_range (fun b17 F' H' σ' => ∃ (u5 : Option V) (u6 : Option V) (xs3 : List V), σ' = [some (V.ref ra), some (V.int law_most), some (V.int law_far), some (V.ref p1), some (V.int b17.1), u5, u6] ∧ (H' p1 = some (.lst xs3) ∧ F' p1 = none) ∧ DqAll K F' xs3 (List.map (e3 PyData.int PyData.int PyData.int) b17.2.1) ∧ RowAt K sc ra scr F' H' b17.2.2) k eF9 ⟨_, _, _, rfl, o5, a6, w14⟩ (fun b17 x18 v26 σ28 F19 H20 F21 H22 g23 i27 g24 r25 nx kfb17 => ?_) (fun b34 σ33 F29 H30 g31 i32 k => ?_)
    · obtain ⟨u35, u36, xs37, rfl, o38, a39, w40⟩ := i27
      replace o38 := g24.own (by simp [*]) o38.1 o38.2
      replace a39 := a39.up g24.f
      replace w40 := w40.keep g24
      have eF21 := g24.s
      have gF21 := g23.trans (g24.weak (by simp))
      subst r25
      refine ⟨_, rfl, _, rfl, _, rfl, ?_⟩
      refine ⟨F21, sc, ra, scr, b17.2.2, law_far, rfl, eF21, w40, (post_bd kfb17).mono (fun b41 kfb17 v46 F42 H43 g44 ⟨r45, w47⟩ => ?_) (fun _ z => z)⟩
      have eF42 := g44.s
      have gF42 := gF21.trans (g44.weak (by simp))
      replace o38 := g44.own (by simp [*]) o38.1 o38.2
      replace a39 := a39.up g44.f
      subst r45
      refine ⟨_, _, rfl, rfl, ?_⟩
      refine ⟨_, rfl, _, _, rfl, rfl, _, rfl, _, rfl, ?_⟩
      refine ⟨F42, sc, ra, scr, b41.2, law_far, rfl, eF42, w47, (post_bd kfb17).mono (fun b48 kfb17 v53 F49 H50 g51 ⟨r52, w54⟩ => ?_) (fun _ z => z)⟩
      have eF49 := g51.s
      have gF49 := gF42.trans (g51.weak (by simp))
      replace o38 := g51.own (by simp [*]) o38.1 o38.2
      replace a39 := a39.up g51.f
      subst r52
      refine ⟨_, _, rfl, rfl, ?_⟩
      refine ⟨_, rfl, _, rfl, _, _, rfl, rfl, _, rfl, ?_⟩
      refine cs kfb17 (fun _ kfb17 => ?_) (fun _ kfb17 => ?_)
      · refine ⟨_, rfl, .inl ⟨rfl, _, sq_of o38.1⟩, _, rfl, _, rfl, _, rfl, ?_⟩
        refine ⟨F49, sc, ra, scr, b48.2, (4 : Int), rfl, eF49, w54, (post_bd kfb17).mono (fun b55 kfb17 v60 F56 H57 g58 ⟨r59, w61⟩ => ?_) (fun _ z => z)⟩
        have eF56 := g58.s
        have gF56 := gF49.trans (g58.weak (by simp))
        replace o38 := g58.own (by simp [*]) o38.1 o38.2
        replace a39 := a39.up g58.f
        subst r59
        refine ⟨_, _, rfl, rfl, ?_⟩
        show _ ∧ _
        refine new_tup (K := K) (M := []) eF56 (.cons (Dq.int (b17.1 + b41.1)) (.cons (Dq.int (((b17.1 + b41.1) + (1 : Int)) + b48.1)) (.cons (Dq.int ((1 : Int) + b55.1)) .nil))) (by show 3 ≤ 100000; decide) fun v66 F62 H63 g64 r65 => ?_
        have eF62 := g64.s
        have gF62 := gF56.trans (g64.weak (by simp))
        replace o38 := g64.own (by simp [*]) o38.1 o38.2
        replace a39 := a39.up g64.f
        replace w61 := w61.keep g64
        replace r65 : Dq K F62 v66 ((e3 PyData.int PyData.int PyData.int) ((b17.1 + b41.1), (((b17.1 + b41.1) + (1 : Int)) + b48.1), ((1 : Int) + b55.1))) := r65
        obtain ⟨h67, kfb17⟩ := post_guard kfb17
        refine ⟨_, _, _, rfl, rfl, o38.1, own_sz a39 h67, ?_⟩
        have g68 := gF62.putOr (o := .lst (xs37 ++ [v66])) (.inl (by simp)) o38.1 o38.2
        replace w61 := w61.put np1 (o := .lst (xs37 ++ [v66]))
        replace o38 : (upd H63 p1 (.lst (xs37 ++ [v66]))) p1 = some (.lst (xs37 ++ [v66])) ∧ F62 p1 = none := ⟨upd_same, o38.2⟩
        replace a39 : DqAll K F62 (xs37 ++ [v66]) (List.map (e3 PyData.int PyData.int PyData.int) (b17.2.1 ++ [((b17.1 + b41.1), (((b17.1 + b41.1) + (1 : Int)) + b48.1), ((1 : Int) + b55.1))])) := by rw [List.map_append]; exact a39.app (.cons r65 .nil)
        have e69 := g68.s
        refine ⟨_, rfl, ?_⟩
        exact kfb17.h _ _ _ g68 ⟨_, _, _, rfl, o38, a39, w61⟩
      · exact kfb17.h _ _ _ gF49 ⟨_, _, _, rfl, o38, a39, w54⟩
    have hy71 : ∀ q ∈ [p1], q ∈ [ra] ∨ H q = none := by intro q hq; simp only [List.mem_cons, List.not_mem_nil, or_false] at hq; rcases hq with rfl; exact (.inr zp1)
    have g70 := Gm.outs [p1] hy71 gF9 (g31.weak (by simp))
    have eF29 := g31.s
    obtain ⟨u72, u73, xs74, rfl, o75, a76, w77⟩ := i32
    refine ⟨_, rfl, ?_⟩
    refine to_VO (K := K) (M := []) eF29 o75.1 a76 (en := (e3 PyData.int PyData.int PyData.int)) (l := b34.2.1) fun v82 F78 H79 g80 r81 => ?_
    have eF78 := g80.s
    have gF78 := g70.trans (g80.weak (by simp))
    replace o75 := g80.own (by simp [*]) o75.1 o75.2
    replace a76 := a76.up g80.f
    replace w77 := w77.keep g80
    exact k.h _ _ _ gF78 ⟨r81, w77⟩
/-! ### _law_parts -/
abbrev s_law_parts : Stmt := top 55
theorem sc_law_parts : FnScope ["_law_row", "_law_far", "_law_masses_here", "_law_stretches_here"] ["_law_row"] (defScope s_law_parts) := ⟨rfl, rfl, rfl, by decide +kernel, rfl, by decide +kernel, by decide +kernel⟩
def law_parts (scr : List Int) (st : Rw) : Mm (((List (Int × Int)) × (List (Int × Int × Int))) × Rw) := (pickM takenA scr st [(3 : Int), (3 : Int), (8 : Int), (20 : Int)]).bd fun b6 => (pickM takenA scr b6.2 [(1 : Int), (3 : Int), (6 : Int)]).bd fun b18 => (law_masses scr b18.2 (b18.1) (b6.1)).bd fun b25 => (law_stretches scr b25.2 ((3 : Int)) (b6.1)).bd fun b32 => (guardM (b25.1.length + b32.1.length ≤ 100000)).bd fun _ => (cond (!(b25.1.isEmpty && b32.1.isEmpty)) (Mm.ok (b25.1, b32.1)) (Mm.ok ([((0 : Int), (1 : Int))], []))).bd fun b63 => Mm.ok (b63, b32.2)
def sp_law_parts (K : PySem.W.Frag) : Sp := fun vs H Q _ => ∃ (F : Hp) (sc ra : Addr) (scr : List Int) (st : Rw), vs = [.ref ra] ∧ Ex F H ∧ RowAt K sc ra scr F H st ∧ Post (law_parts scr st) (fun r => Ret [ra] F H (fun F' H' v => Dq K F' v ((e2 (eV (e2 PyData.int PyData.int)) (eV (e3 PyData.int PyData.int PyData.int))) r.1) ∧ RowAt K sc ra scr F' H' r.2) Q) (fun _ => False)
theorem ok_law_parts {P : Program} {w : World} {K : PySem.W.Frag} {mg : Str → Option Value} {base : Heap} {C f : Addr} {fd : FuncData} (B : Bi mg) (FF : FunD K "_law_parts" "_law_parts" (defArgs s_law_parts) (defBody s_law_parts) (defScope s_law_parts) [] [] f fd) (G_law_pick : Kn P w K mg base "_law_pick" 2 ["_law_row", "_law_some"] (spPick takenA K)) (G_law_masses : Kn P w K mg base "_law_masses" 3 ["_law_row", "_law_most", "_law_far"] (sp_law_masses K)) (G_law_stretches : Kn P w K mg base "_law_stretches" 2 ["_law_row", "_law_most", "_law_far"] (sp_law_stretches K)) : FnOk P w K mg base CX0 4 f fd ["_law_row"] (sp_law_parts K) := by
  refine FF.ok sc_law_parts (fun vs H Q E h => ?_) (fun cdv A outer s H vs Q E hr h => ?_)
  · obtain ⟨F, sc, ra, scr, st, rfl, _⟩ := h; rfl
  · obtain ⟨F, sc, ra, scr, st, rfl, e, w, k⟩ := h
    unfold law_parts at k
    have g_ := Gm.refl (M := [ra]) e
    refine ⟨_, PSs.nox (pss_cons (ps_set (i := 1) sc_law_parts.nd rfl (Or.inl rfl) (pe_kn G_law_pick (hr.mono (by decide)) (pa_cons (pv 0) (pa_cons (pe_q (pe_lst (pa_cons (pe_int) (pa_cons (pe_int) (pa_cons (pe_int) (pa_cons (pe_int) (pa_nil))))))) pa_nil)))) (pss_cons (ps_par (i := 2) (j := 3) (by rfl) sc_law_parts.nd rfl rfl (by decide) rfl rfl (pa_cons (pe_kn G_law_masses (hr.mono (by decide)) (pa_cons (pv 0) (pa_cons (pe_kn G_law_pick (hr.mono (by decide)) (pa_cons (pv 0) (pa_cons (pe_q (pe_lst (pa_cons (pe_int) (pa_cons (pe_int) (pa_cons (pe_int) (pa_nil)))))) pa_nil))) (pa_cons (pv 1) (pa_nil))))) (pa_cons (pe_kn G_law_stretches (hr.mono (by decide)) (pa_cons (pv 0) (pa_cons (pe_int) (pa_cons (pv 1) (pa_nil))))) (pa_nil))) (by rfl)) (pss_one (ps_ret (pe_ifExp (pt_cmpR (op_neNil (units_of hr)) (pe_q (pe_op op_catM (pv 2) (pv 3))) (pe_q (pe_tup (pa_nil))) (nomark _)) (pe_q (pe_tup (pa_cons (pv 2) (pa_cons (pv 3) (pa_nil))))) (pe_q (pe_tup (pa_cons (pe_q (pe_tup (pa_cons (pe_q (pe_tup (pa_cons (pe_int) (pa_cons (pe_int) (pa_nil))))) (pa_nil)))) (pa_cons (pe_q (pe_tup (pa_nil))) (pa_nil)))))))))), ?_⟩
    refine ⟨_, rfl, ?_⟩
    show _ ∧ _
    refine new_lst (K := K) (M := []) e (.cons (Dq.int (3 : Int)) (.cons (Dq.int (3 : Int)) (.cons (Dq.int (8 : Int)) (.cons (Dq.int (20 : Int)) .nil)))) (by show 4 ≤ 100000; decide) fun v5 F1 H2 g3 r4 => ?_
    have eF1 := g3.s
    have gF1 := g_.trans (g3.weak (by simp))
    replace w := w.keep g3
    replace r4 : Dq K F1 v5 ((eL PyData.int) [(3 : Int), (3 : Int), (8 : Int), (20 : Int)]) := r4
    refine ⟨F1, sc, ra, scr, st, _, PyData.int, _, [(3 : Int), (3 : Int), (8 : Int), (20 : Int)], rfl, eF1, w, r4, (post_bd k).mono (fun b6 k v11 F7 H8 g9 ⟨r10, w12⟩ => ?_) (fun _ z => z)⟩
    have eF7 := g9.s
    have gF7 := gF1.trans (g9.weak (by simp))
    replace r4 := r4.up g9.f
    obtain rfl := dp_int r10
    refine ⟨_, rfl, _, rfl, ?_⟩
    show _ ∧ _
    refine new_lst (K := K) (M := []) eF7 (.cons (Dq.int (1 : Int)) (.cons (Dq.int (3 : Int)) (.cons (Dq.int (6 : Int)) .nil))) (by show 3 ≤ 100000; decide) fun v17 F13 H14 g15 r16 => ?_
    have eF13 := g15.s
    have gF13 := gF7.trans (g15.weak (by simp))
    replace r4 := r4.up g15.f
    replace w12 := w12.keep g15
    replace r16 : Dq K F13 v17 ((eL PyData.int) [(1 : Int), (3 : Int), (6 : Int)]) := r16
    refine ⟨F13, sc, ra, scr, b6.2, _, PyData.int, _, [(1 : Int), (3 : Int), (6 : Int)], rfl, eF13, w12, r16, (post_bd k).mono (fun b18 k v23 F19 H20 g21 ⟨r22, w24⟩ => ?_) (fun _ z => z)⟩
    have eF19 := g21.s
    have gF19 := gF13.trans (g21.weak (by simp))
    replace r4 := r4.up g21.f
    replace r16 := r16.up g21.f
    obtain rfl := dp_int r22
    refine ⟨_, rfl, ?_⟩
    refine ⟨F19, sc, ra, scr, b18.2, b18.1, b6.1, rfl, eF19, w24, (post_bd k).mono (fun b25 k v30 F26 H27 g28 ⟨r29, w31⟩ => ?_) (fun _ z => z)⟩
    have eF26 := g28.s
    have gF26 := gF19.trans (g28.weak (by simp))
    replace r4 := r4.up g28.f
    replace r16 := r16.up g28.f
    refine ⟨_, rfl, _, rfl, ?_⟩
    refine ⟨F26, sc, ra, scr, b25.2, (3 : Int), b6.1, rfl, eF26, w31, (post_bd k).mono (fun b32 k v37 F33 H34 g35 ⟨r36, w38⟩ => ?_) (fun _ z => z)⟩
    have eF33 := g35.s
    have gF33 := gF26.trans (g35.weak (by simp))
    replace r4 := r4.up g35.f
    replace r16 := r16.up g35.f
    replace r29 := r29.up g35.f
    refine ⟨_, _, rfl, ?_⟩
    refine ⟨_, rfl, _, rfl, ?_⟩
    obtain ⟨p39, xs40, rfl, s41, a42⟩ := dp_tup r29
    obtain ⟨p43, xs44, rfl, s45, a46⟩ := dp_tup r36
    obtain ⟨h47, k⟩ := post_guard k
    refine cat_tupD (K := K) (M := []) eF33 s41 a42 s45 a46 h47 fun v52 F48 H49 g50 r51 => ?_
    have eF48 := g50.s
    have gF48 := gF33.trans (g50.weak (by simp))
    replace r4 := r4.up g50.f
    replace r16 := r16.up g50.f
    replace r29 := r29.up g50.f
    replace w38 := w38.keep g50
    replace r36 := r36.up g50.f
    replace s41 := ex_t g50.f s41
    replace a42 := a42.up g50.f
    replace s45 := ex_t g50.f s45
    replace a46 := a46.up g50.f
    show _ ∧ _
    refine new_tup (K := K) (M := []) eF48 .nil (by show 0 ≤ 100000; decide) fun v57 F53 H54 g55 r56 => ?_
    have eF53 := g55.s
    have gF53 := gF48.trans (g55.weak (by simp))
    replace r4 := r4.up g55.f
    replace r16 := r16.up g55.f
    replace r29 := r29.up g55.f
    replace w38 := w38.keep g55
    replace r36 := r36.up g55.f
    replace s41 := ex_t g55.f s41
    replace a42 := a42.up g55.f
    replace s45 := ex_t g55.f s45
    replace a46 := a46.up g55.f
    replace r51 := r51.up g55.f
    refine ⟨_, (b25.1.isEmpty && b32.1.isEmpty), r51.dp eF53, r56.dp eF53, shaped_cat (sh_e2 sh_int sh_int) (sh_e3 sh_int sh_int sh_int) _ _, isEmpty_cat _ _, _, rfl, ?_⟩
    refine if_jM (M := []) (F := F53) (fun b F' H' v => Dq K F' v ((e2 (eV (e2 PyData.int PyData.int)) (eV (e3 PyData.int PyData.int PyData.int))) b)) k (fun _ Q' kib63 => ?_) (fun _ Q' kib63 => ?_) (fun b63 v58 F59 H60 g61 r62 k => ?_)
    · have gF53_ := Gm.refl (M := []) eF53
      refine ⟨_, rfl, _, rfl, ?_⟩
      show _ ∧ _
      refine new_tup (K := K) (M := []) eF53 (.cons r29 (.cons r36 .nil)) (by show 2 ≤ 100000; decide) fun v69 F65 H66 g67 r68 => ?_
      have eF65 := g67.s
      have gF65 := gF53_.trans (g67.weak (by simp))
      replace r4 := r4.up g67.f
      replace r16 := r16.up g67.f
      replace r29 := r29.up g67.f
      replace w38 := w38.keep g67
      replace r36 := r36.up g67.f
      replace s41 := ex_t g67.f s41
      replace a42 := a42.up g67.f
      replace s45 := ex_t g67.f s45
      replace a46 := a46.up g67.f
      replace r51 := r51.up g67.f
      replace r56 := r56.up g67.f
      replace r68 : Dq K F65 v69 ((e2 (eV (e2 PyData.int PyData.int)) (eV (e3 PyData.int PyData.int PyData.int))) (b25.1, b32.1)) := r68
      exact kib63.h _ _ _ gF65 r68
    · have gF53_ := Gm.refl (M := []) eF53
      show _ ∧ _
      refine new_tup (K := K) (M := []) eF53 (.cons (Dq.int (0 : Int)) (.cons (Dq.int (1 : Int)) .nil)) (by show 2 ≤ 100000; decide) fun v74 F70 H71 g72 r73 => ?_
      have eF70 := g72.s
      have gF70 := gF53_.trans (g72.weak (by simp))
      replace r4 := r4.up g72.f
      replace r16 := r16.up g72.f
      replace r29 := r29.up g72.f
      replace w38 := w38.keep g72
      replace r36 := r36.up g72.f
      replace s41 := ex_t g72.f s41
      replace a42 := a42.up g72.f
      replace s45 := ex_t g72.f s45
      replace a46 := a46.up g72.f
      replace r51 := r51.up g72.f
      replace r56 := r56.up g72.f
      replace r73 : Dq K F70 v74 ((e2 PyData.int PyData.int) ((0 : Int), (1 : Int))) := r73
      show _ ∧ _
      refine new_tup (K := K) (M := []) eF70 (.cons r73 .nil) (by show 1 ≤ 100000; decide) fun v79 F75 H76 g77 r78 => ?_
      have eF75 := g77.s
      have gF75 := gF70.trans (g77.weak (by simp))
      replace r4 := r4.up g77.f
      replace r16 := r16.up g77.f
      replace r29 := r29.up g77.f
      replace w38 := w38.keep g77
      replace r36 := r36.up g77.f
      replace s41 := ex_t g77.f s41
      replace a42 := a42.up g77.f
      replace s45 := ex_t g77.f s45
      replace a46 := a46.up g77.f
      replace r51 := r51.up g77.f
      replace r56 := r56.up g77.f
      replace r73 := r73.up g77.f
      replace r78 : Dq K F75 v79 ((eV (e2 PyData.int PyData.int)) [((0 : Int), (1 : Int))]) := r78
      show _ ∧ _
      refine new_tup (K := K) (M := []) eF75 .nil (by show 0 ≤ 100000; decide) fun v84 F80 H81 g82 r83 => ?_
      have eF80 := g82.s
      have gF80 := gF75.trans (g82.weak (by simp))
      replace r4 := r4.up g82.f
      replace r16 := r16.up g82.f
      replace r29 := r29.up g82.f
      replace w38 := w38.keep g82
      replace r36 := r36.up g82.f
      replace s41 := ex_t g82.f s41
      replace a42 := a42.up g82.f
      replace s45 := ex_t g82.f s45
      replace a46 := a46.up g82.f
      replace r51 := r51.up g82.f
      replace r56 := r56.up g82.f
      replace r73 := r73.up g82.f
      replace r78 := r78.up g82.f
      replace r83 : Dq K F80 v84 (eV (e3 PyData.int PyData.int PyData.int) []) := r83
      show _ ∧ _
      refine new_tup (K := K) (M := []) eF80 (.cons r78 (.cons r83 .nil)) (by show 2 ≤ 100000; decide) fun v89 F85 H86 g87 r88 => ?_
      have eF85 := g87.s
      have gF85 := gF80.trans (g87.weak (by simp))
      replace r4 := r4.up g87.f
      replace r16 := r16.up g87.f
      replace r29 := r29.up g87.f
      replace w38 := w38.keep g87
      replace r36 := r36.up g87.f
      replace s41 := ex_t g87.f s41
      replace a42 := a42.up g87.f
      replace s45 := ex_t g87.f s45
      replace a46 := a46.up g87.f
      replace r51 := r51.up g87.f
      replace r56 := r56.up g87.f
      replace r73 := r73.up g87.f
      replace r78 := r78.up g87.f
      replace r83 := r83.up g87.f
      replace r88 : Dq K F85 v89 ((e2 (eV (e2 PyData.int PyData.int)) (eV (e3 PyData.int PyData.int PyData.int))) ([((0 : Int), (1 : Int))], [])) := r88
      exact kib63.h _ _ _ gF85 r88
    have eF59 := g61.s
    have gF59 := gF53.trans (g61.weak (by simp))
    replace r4 := r4.up g61.f
    replace r16 := r16.up g61.f
    replace r29 := r29.up g61.f
    replace w38 := w38.keep g61
    replace r36 := r36.up g61.f
    replace s41 := ex_t g61.f s41
    replace a42 := a42.up g61.f
    replace s45 := ex_t g61.f s45
    replace a46 := a46.up g61.f
    replace r51 := r51.up g61.f
    replace r56 := r56.up g61.f
    exact k.h _ _ _ gF59 ⟨r62, w38⟩
/-! ### _law_weighting -/
abbrev s_law_weighting : Stmt := top 56
theorem sc_law_weighting : FnScope ["_law_parts_here"] ["_law_parts_here"] (defScope s_law_weighting) := ⟨rfl, rfl, rfl, by decide +kernel, rfl, by decide +kernel, by decide +kernel⟩
def law_weighting (law_parts_here : ((List (Int × Int)) × (List (Int × Int × Int)))) : Mm Wt := (Weighting_init law_parts_here.1 law_parts_here.2).bd fun b7 => Mm.ok b7
def sp_law_weighting (K : PySem.W.Frag) (C : Addr) : Sp := fun vs H Q _ => ∃ (F : Hp) (v_law_parts_here : V) (law_parts_here : ((List (Int × Int)) × (List (Int × Int × Int)))), vs = [v_law_parts_here] ∧ Ex F H ∧ Dq K F v_law_parts_here ((e2 (eV (e2 PyData.int PyData.int)) (eV (e3 PyData.int PyData.int PyData.int))) law_parts_here) ∧ Post (law_weighting law_parts_here) (fun r => Ret [] F H (fun F' _ v => IsW K C F' v r) Q) (fun _ => False)
theorem ok_law_weighting {P : Program} {w : World} {K : PySem.W.Frag} {mg : Str → Option Value} {base : Heap} {C f : Addr} {fd : FuncData} (B : Bi mg) (FF : FunD K "_law_weighting" "_law_weighting" (defArgs s_law_weighting) (defBody s_law_weighting) (defScope s_law_weighting) [] [] f fd) (GC_Weighting : KnC P w K mg base CX0 "Weighting" C 4 ["self", "masses", "stretches"] (spW0 Weighting_init K C)) : FnOk P w K mg base CX0 6 f fd ["_law_parts_here"] (sp_law_weighting K C) := by
  refine FF.ok sc_law_weighting (fun vs H Q E h => ?_) (fun cdv A outer s H vs Q E hr h => ?_)
  · obtain ⟨F, v_law_parts_here, law_parts_here, rfl, _⟩ := h; rfl
  · obtain ⟨F, v_law_parts_here, law_parts_here, rfl, e, r_law_parts_here, k⟩ := h
    unfold law_weighting at k
    have g_ := Gm.refl (M := []) e
    refine ⟨_, PSs.nox (pss_one (ps_ret (pe_q (pe_knC GC_Weighting (hr.mono (by decide)) pass0 (pa_cons (pe_ix (r := rIxT K) ix_tup (pv 0) (pe_int) (fun _ _ => rfl)) (pa_cons (pe_ix (r := rIxT K) ix_tup (pv 0) (pe_int) (fun _ _ => rfl)) pa_nil)))))), ?_⟩
    refine ⟨_, rfl, ?_⟩
    obtain ⟨p1, x2, x3, rfl, s4, d5, d6⟩ := dp_tup2 r_law_parts_here
    refine ⟨_, _, _, _, rfl, rfl, ex_t e s4, rfl, _, rfl, ?_⟩
    refine ⟨_, _, _, _, rfl, rfl, ex_t e s4, rfl, ?_⟩
    refine make_W e d5 d6 ((post_bd k).mono (fun b7 k v12 F8 H9 g10 r11 => ?_) (fun _ z => z))
    have eF8 := g10.s
    have gF8 := g_.trans (g10.weak (by simp))
    replace r_law_parts_here := r_law_parts_here.up g10.f
    replace s4 := ex_t g10.f s4
    replace d5 := d5.up g10.f
    replace d6 := d6.up g10.f
    exact k.h _ _ _ gF8 r11
/-! ### _law_sum -/
abbrev s_law_sum : Stmt := top 57
theorem sc_law_sum : FnScope ["_law_parts_here", "_law_count", "_law_found", "_law_place", "_law_mass", "_law_by", "_law_turn", "_law_low_here", "_law_high", "_law_height", "_law_above", "_law_below"] ["_law_parts_here", "_law_count"] (defScope s_law_sum) := ⟨rfl, rfl, rfl, by decide +kernel, rfl, by decide +kernel, by decide +kernel⟩
def law_sum (law_parts_here : ((List (Int × Int)) × (List (Int × Int × Int)))) (law_count : Int) : Mm (Int × Int) := (foldM (fun (b16 : (Int × Int)) (x17 : (Int × Int)) => (rangeM law_count).bd fun l52 => (foldM (fun (b53 : Int) (x54 : Int) => (mulM b53 x17.1).bd fun m77 => Mm.ok m77) x17.2 (rangeL 0 law_count.toNat)).bd fun b70 => (law_add (b16) ((b70, (1 : Int)))).bd fun b92 => Mm.ok b92) ((0 : Int), (1 : Int)) law_parts_here.1).bd fun b33 => (foldM (fun (b115 : (Int × Int)) (x116 : (Int × Int × Int)) => (rangeM (law_count + (1 : Int))).bd fun l153 => (foldM (fun (b154 : (Int × Int)) (x155 : Int) => (mulM b154.1 x116.2.1).bd fun m176 => (mulM b154.2 x116.1).bd fun m179 => Mm.ok (m176, m179)) (x116.2.2, x116.2.2) (rangeL 0 (law_count + (1 : Int)).toNat)).bd fun b171 => (law_low ((b171.1 - b171.2)) ((law_count + (1 : Int)))).bd fun b187 => (law_add (b115) (b187)).bd fun b194 => Mm.ok b194) b33 law_parts_here.2).bd fun b132 => Mm.ok b132
def sp_law_sum (K : PySem.W.Frag) : Sp := fun vs H Q _ => ∃ (F : Hp) (v_law_parts_here : V) (law_parts_here : ((List (Int × Int)) × (List (Int × Int × Int)))) (law_count : Int), vs = [v_law_parts_here, (V.int law_count)] ∧ Ex F H ∧ Dq K F v_law_parts_here ((e2 (eV (e2 PyData.int PyData.int)) (eV (e3 PyData.int PyData.int PyData.int))) law_parts_here) ∧ Post (law_sum law_parts_here law_count) (fun r => Ret [] F H (fun F' _ v => Dq K F' v ((e2 PyData.int PyData.int) r)) Q) (fun _ => False)
theorem ok_law_sum {P : Program} {w : World} {K : PySem.W.Frag} {mg : Str → Option Value} {base : Heap} {C f : Addr} {fd : FuncData} (B : Bi mg) (FF : FunD K "_law_sum" "_law_sum" (defArgs s_law_sum) (defBody s_law_sum) (defScope s_law_sum) [] [] f fd) (G_law_add : Kn P w K mg base "_law_add" 2 ["_law_one", "_law_other"] (sp_law_add K)) (G_law_low : Kn P w K mg base "_law_low" 1 ["_law_top", "_law_bottom"] (sp_law_low K)) : FnOk P w K mg base CX0 3 f fd ["_law_parts_here", "_law_count"] (sp_law_sum K) := by
  refine FF.ok sc_law_sum (fun vs H Q E h => ?_) (fun cdv A outer s H vs Q E hr h => ?_)
  · obtain ⟨F, v_law_parts_here, law_parts_here, law_count, rfl, _⟩ := h; rfl
  · obtain ⟨F, v_law_parts_here, law_parts_here, law_count, rfl, e, r_law_parts_here, k⟩ := h
    unfold law_sum at k
    have g_ := Gm.refl (M := []) e
    refine ⟨_, PSs.nox (pss_cons (ps_set (i := 2) sc_law_sum.nd rfl (Or.inl rfl) (pe_q (pe_tup (pa_cons (pe_int) (pa_cons (pe_int) (pa_nil)))))) (pss_cons (ps_for PassesOwn.never rfl (pi_tup (pe_ix (r := rIxT K) ix_tup (pv 0) (pe_int) (fun _ _ => rfl))) (pg_tup (by rfl) (pgs_cons (pg_name (i := 3) sc_law_sum.nd rfl (Or.inl rfl)) (pgs_cons (pg_name (i := 4) sc_law_sum.nd rfl (Or.inl rfl)) (pgs_nil)))) (pss_cons (ps_set (i := 5) sc_law_sum.nd rfl (Or.inl rfl) (pv 4)) (pss_cons (ps_for PassesOwn.never rfl (pi_range1 rfl B.range (pa_cons (pv 1) (pa_nil))) (pg_name (i := 6) sc_law_sum.nd rfl (Or.inl rfl)) (pss_one (ps_set (i := 5) sc_law_sum.nd rfl (Or.inl rfl) (pe_op op_mulM (pv 5) (pv 3))))) (pss_one (ps_set (i := 2) sc_law_sum.nd rfl (Or.inl rfl) (pe_kn G_law_add (hr.mono (by decide)) (pa_cons (pv 2) (pa_cons (pe_q (pe_tup (pa_cons (pv 5) (pa_cons (pe_int) (pa_nil))))) (pa_nil))))))))) (pss_cons (ps_for PassesOwn.never rfl (pi_tup (pe_ix (r := rIxT K) ix_tup (pv 0) (pe_int) (fun _ _ => rfl))) (pg_tup (by rfl) (pgs_cons (pg_name (i := 7) sc_law_sum.nd rfl (Or.inl rfl)) (pgs_cons (pg_name (i := 8) sc_law_sum.nd rfl (Or.inl rfl)) (pgs_cons (pg_name (i := 9) sc_law_sum.nd rfl (Or.inl rfl)) (pgs_nil))))) (pss_cons (ps_par (i := 10) (j := 11) (by rfl) sc_law_sum.nd rfl rfl (by decide) rfl rfl (pa_cons (pv 9) (pa_cons (pv 9) (pa_nil))) (by rfl)) (pss_cons (ps_for PassesOwn.never rfl (pi_range1 rfl B.range (pa_cons (pe_op op_add (pv 1) (pe_int)) (pa_nil))) (pg_name (i := 6) sc_law_sum.nd rfl (Or.inl rfl)) (pss_one (ps_par (i := 10) (j := 11) (by rfl) sc_law_sum.nd rfl rfl (by decide) rfl rfl (pa_cons (pe_op op_mulM (pv 10) (pv 8)) (pa_cons (pe_op op_mulM (pv 11) (pv 7)) (pa_nil))) (by rfl)))) (pss_one (ps_set (i := 2) sc_law_sum.nd rfl (Or.inl rfl) (pe_kn G_law_add (hr.mono (by decide)) (pa_cons (pv 2) (pa_cons (pe_kn G_law_low (hr.mono (by decide)) (pa_cons (pe_op op_sub (pv 10) (pv 11)) (pa_cons (pe_op op_add (pv 1) (pe_int)) (pa_nil)))) (pa_nil))))))))) (pss_one (ps_ret (pv 2)))))), ?_⟩
    show _ ∧ _
    refine new_tup (K := K) (M := []) e (.cons (Dq.int (0 : Int)) (.cons (Dq.int (1 : Int)) .nil)) (by show 2 ≤ 100000; decide) fun v5 F1 H2 g3 r4 => ?_
    have eF1 := g3.s
    have gF1 := g_.trans (g3.weak (by simp))
    replace r_law_parts_here := r_law_parts_here.up g3.f
    replace r4 : Dq K F1 v5 ((e2 PyData.int PyData.int) ((0 : Int), (1 : Int))) := r4
    refine ⟨_, rfl, ?_⟩
    obtain ⟨p6, x7, x8, rfl, s9, d10, d11⟩ := dp_tup2 r_law_parts_here
    refine ⟨_, _, _, _, rfl, rfl, ex_t eF1 s9, rfl, ?_⟩
    obtain ⟨p12, xs13, rfl, s14, a15⟩ := dp_tup d10
    refine ⟨_, rfl, ⟨_, (ex_t eF1 s14)⟩, ?_⟩
    refine for_m (M := []) (F := F1) (wlk_tup eF1 s14 a15) (fun b16 F' H' σ' => ∃ (c2 : V) (u3 : Option V) (u4 : Option V) (u5 : Option V) (u6 : Option V) (u7 : Option V) (u8 : Option V) (u9 : Option V) (u10 : Option V) (u11 : Option V), σ' = [some (V.ref p6), some (V.int law_count), some c2, u3, u4, u5, u6, u7, u8, u9, u10, u11] ∧ Dq K F' c2 ((e2 PyData.int PyData.int) b16)) k eF1 ⟨_, _, _, _, _, _, _, _, _, _, rfl, r4⟩ (fun b16 x17 v25 σ27 F18 H19 F20 H21 g22 i26 g23 r24 nx kfb16 => ?_) (fun b33 σ32 F28 H29 g30 i31 k => ?_)
    · replace r_law_parts_here := r_law_parts_here.up g22.f
      replace r4 := r4.up g22.f
      replace s9 := ex_t g22.f s9
      replace d10 := d10.up g22.f
      replace d11 := d11.up g22.f
      replace s14 := ex_t g22.f s14
      replace a15 := a15.up g22.f
      obtain ⟨c34, u35, u36, u37, u38, u39, u40, u41, u42, u43, rfl, r44⟩ := i26
      replace r_law_parts_here := r_law_parts_here.up g23.f
      replace s9 := ex_t g23.f s9
      replace d10 := d10.up g23.f
      replace d11 := d11.up g23.f
      replace s14 := ex_t g23.f s14
      replace a15 := a15.up g23.f
      replace r44 := r44.up g23.f
      have eF20 := g23.s
      have gF20 := g22.trans (g23.weak (by simp))
      obtain ⟨p45, x46, x47, rfl, s48, d49, d50⟩ := dp_tup2 r24
      obtain rfl := dp_int d49
      obtain rfl := dp_int d50
      refine ⟨_, _, rfl, ex_t eF20 s48, rfl, _, _, rfl, _, _, rfl, rfl, ?_⟩
      refine ⟨_, rfl, ?_⟩
      refine ⟨_, rfl, ?_⟩
      obtain ⟨h51, kfb16⟩ := post_range kfb16
      refine ⟨_, rfl, h51.1, h51.2, ?_⟩
      refine for_m (M := []) (F := F20) wlk_range (fun b53 F' H' σ' => ∃ (u6 : Option V) (u7 : Option V) (u8 : Option V) (u9 : Option V) (u10 : Option V) (u11 : Option V), σ' = [some (V.ref p6), some (V.int law_count), some c34, some (V.int x17.1), some (V.int x17.2), some (V.int b53), u6, u7, u8, u9, u10, u11]) kfb16 eF20 ⟨_, _, _, _, _, _, rfl⟩ (fun b53 x54 v62 σ64 F55 H56 F57 H58 g59 i63 g60 r61 nx kfb16fb53 => ?_) (fun b70 σ69 F65 H66 g67 i68 kfb16 => ?_)
      · replace r_law_parts_here := r_law_parts_here.up g59.f
        replace s9 := ex_t g59.f s9
        replace d10 := d10.up g59.f
        replace d11 := d11.up g59.f
        replace s14 := ex_t g59.f s14
        replace a15 := a15.up g59.f
        replace r44 := r44.up g59.f
        replace r24 := r24.up g59.f
        replace s48 := ex_t g59.f s48
        obtain ⟨u71, u72, u73, u74, u75, u76, rfl⟩ := i63
        replace r_law_parts_here := r_law_parts_here.up g60.f
        replace s9 := ex_t g60.f s9
        replace d10 := d10.up g60.f
        replace d11 := d11.up g60.f
        replace s14 := ex_t g60.f s14
        replace a15 := a15.up g60.f
        replace r44 := r44.up g60.f
        replace r24 := r24.up g60.f
        replace s48 := ex_t g60.f s48
        have eF57 := g60.s
        have gF57 := g59.trans (g60.weak (by simp))
        subst r61
        refine ⟨_, rfl, _, rfl, ?_⟩
        obtain ⟨m77, c78, q79, kfb16fb53⟩ := post_mul kfb16fb53
        refine ⟨_, _, _, rfl, rfl, c78, q79, ?_⟩
        exact kfb16fb53.h _ _ _ gF57 ⟨_, _, _, _, _, _, rfl⟩
      have g80 := gF20.trans (g67.weak (by simp))
      replace r_law_parts_here := r_law_parts_here.up g67.f
      replace s9 := ex_t g67.f s9
      replace d10 := d10.up g67.f
      replace d11 := d11.up g67.f
      replace s14 := ex_t g67.f s14
      replace a15 := a15.up g67.f
      replace r44 := r44.up g67.f
      replace r24 := r24.up g67.f
      replace s48 := ex_t g67.f s48
      have eF65 := g67.s
      obtain ⟨u81, u82, u83, u84, u85, u86, rfl⟩ := i68
      refine ⟨_, rfl, _, rfl, ?_⟩
      show _ ∧ _
      refine new_tup (K := K) (M := []) eF65 (.cons (Dq.int b70) (.cons (Dq.int (1 : Int)) .nil)) (by show 2 ≤ 100000; decide) fun v91 F87 H88 g89 r90 => ?_
      have eF87 := g89.s
      have gF87 := g80.trans (g89.weak (by simp))
      replace r_law_parts_here := r_law_parts_here.up g89.f
      replace s9 := ex_t g89.f s9
      replace d10 := d10.up g89.f
      replace d11 := d11.up g89.f
      replace s14 := ex_t g89.f s14
      replace a15 := a15.up g89.f
      replace r44 := r44.up g89.f
      replace r24 := r24.up g89.f
      replace s48 := ex_t g89.f s48
      replace r90 : Dq K F87 v91 ((e2 PyData.int PyData.int) (b70, (1 : Int))) := r90
      refine ⟨F87, _, b16, _, (b70, (1 : Int)), rfl, eF87, r44, r90, (post_bd kfb16).mono (fun b92 kfb16 v97 F93 H94 g95 r96 => ?_) (fun _ z => z)⟩
      have eF93 := g95.s
      have gF93 := gF87.trans (g95.weak (by simp))
      replace r_law_parts_here := r_law_parts_here.up g95.f
      replace s9 := ex_t g95.f s9
      replace d10 := d10.up g95.f
      replace d11 := d11.up g95.f
      replace s14 := ex_t g95.f s14
      replace a15 := a15.up g95.f
      replace r44 := r44.up g95.f
      replace r24 := r24.up g95.f
      replace s48 := ex_t g95.f s48
      replace r90 := r90.up g95.f
      exact kfb16.h _ _ _ gF93 ⟨_, _, _, _, _, _, _, _, _, _, rfl, r96⟩
    have g99 := gF1.trans (g30.weak (by simp))
    replace r_law_parts_here := r_law_parts_here.up g30.f
    replace r4 := r4.up g30.f
    replace s9 := ex_t g30.f s9
    replace d10 := d10.up g30.f
    replace d11 := d11.up g30.f
    replace s14 := ex_t g30.f s14
    replace a15 := a15.up g30.f
    have eF28 := g30.s
    obtain ⟨c100, u101, u102, u103, u104, u105, u106, u107, u108, u109, rfl, r110⟩ := i31
    refine ⟨_, rfl, ?_⟩
    refine ⟨_, _, _, _, rfl, rfl, ex_t eF28 s9, rfl, ?_⟩
    obtain ⟨p111, xs112, rfl, s113, a114⟩ := dp_tup d11
    refine ⟨_, rfl, ⟨_, (ex_t eF28 s113)⟩, ?_⟩
    refine for_m (M := []) (F := F28) (wlk_tup eF28 s113 a114) (fun b115 F' H' σ' => ∃ (c2 : V) (u3 : Option V) (u4 : Option V) (u5 : Option V) (u6 : Option V) (u7 : Option V) (u8 : Option V) (u9 : Option V) (u10 : Option V) (u11 : Option V), σ' = [some (V.ref p6), some (V.int law_count), some c2, u3, u4, u5, u6, u7, u8, u9, u10, u11] ∧ Dq K F' c2 ((e2 PyData.int PyData.int) b115)) k eF28 ⟨_, _, _, _, _, _, _, _, _, _, rfl, r110⟩ (fun b115 x116 v124 σ126 F117 H118 F119 H120 g121 i125 g122 r123 nx kfb115 => ?_) (fun b132 σ131 F127 H128 g129 i130 k => ?_)
    · replace r_law_parts_here := r_law_parts_here.up g121.f
      replace s9 := ex_t g121.f s9
      replace d10 := d10.up g121.f
      replace d11 := d11.up g121.f
      replace s14 := ex_t g121.f s14
      replace a15 := a15.up g121.f
      replace r110 := r110.up g121.f
      replace s113 := ex_t g121.f s113
      replace a114 := a114.up g121.f
      obtain ⟨c133, u134, u135, u136, u137, u138, u139, u140, u141, u142, rfl, r143⟩ := i125
      replace r_law_parts_here := r_law_parts_here.up g122.f
      replace s9 := ex_t g122.f s9
      replace d10 := d10.up g122.f
      replace d11 := d11.up g122.f
      replace s14 := ex_t g122.f s14
      replace a15 := a15.up g122.f
      replace s113 := ex_t g122.f s113
      replace a114 := a114.up g122.f
      replace r143 := r143.up g122.f
      have eF119 := g122.s
      have gF119 := g121.trans (g122.weak (by simp))
      obtain ⟨p144, x145, x146, x147, rfl, s148, d149, d150, d151⟩ := dp_tup3 r123
      obtain rfl := dp_int d149
      obtain rfl := dp_int d150
      obtain rfl := dp_int d151
      refine ⟨_, _, rfl, ex_t eF119 s148, rfl, _, _, rfl, _, _, rfl, _, _, rfl, rfl, ?_⟩
      refine ⟨_, rfl, _, rfl, _, _, rfl, ?_⟩
      refine ⟨_, rfl, _, _, rfl, rfl, ?_⟩
      obtain ⟨h152, kfb115⟩ := post_range kfb115
      refine ⟨_, rfl, h152.1, h152.2, ?_⟩
      refine for_m (M := []) (F := F119) wlk_range (fun b154 F' H' σ' => ∃ (u3 : Option V) (u4 : Option V) (u5 : Option V) (u6 : Option V), σ' = [some (V.ref p6), some (V.int law_count), some c133, u3, u4, u5, u6, some (V.int x116.1), some (V.int x116.2.1), some (V.int x116.2.2), some (V.int b154.1), some (V.int b154.2)]) kfb115 eF119 ⟨_, _, _, _, rfl⟩ (fun b154 x155 v163 σ165 F156 H157 F158 H159 g160 i164 g161 r162 nx kfb115fb154 => ?_) (fun b171 σ170 F166 H167 g168 i169 kfb115 => ?_)
      · replace r_law_parts_here := r_law_parts_here.up g160.f
        replace s9 := ex_t g160.f s9
        replace d10 := d10.up g160.f
        replace d11 := d11.up g160.f
        replace s14 := ex_t g160.f s14
        replace a15 := a15.up g160.f
        replace s113 := ex_t g160.f s113
        replace a114 := a114.up g160.f
        replace r143 := r143.up g160.f
        replace r123 := r123.up g160.f
        replace s148 := ex_t g160.f s148
        obtain ⟨u172, u173, u174, u175, rfl⟩ := i164
        replace r_law_parts_here := r_law_parts_here.up g161.f
        replace s9 := ex_t g161.f s9
        replace d10 := d10.up g161.f
        replace d11 := d11.up g161.f
        replace s14 := ex_t g161.f s14
        replace a15 := a15.up g161.f
        replace s113 := ex_t g161.f s113
        replace a114 := a114.up g161.f
        replace r143 := r143.up g161.f
        replace r123 := r123.up g161.f
        replace s148 := ex_t g161.f s148
        have eF158 := g161.s
        have gF158 := g160.trans (g161.weak (by simp))
        subst r162
        refine ⟨_, rfl, _, rfl, ?_⟩
        obtain ⟨m176, c177, q178, kfb115fb154⟩ := post_mul kfb115fb154
        refine ⟨_, _, _, rfl, rfl, c177, q178, _, rfl, _, rfl, ?_⟩
        obtain ⟨m179, c180, q181, kfb115fb154⟩ := post_mul kfb115fb154
        refine ⟨_, _, _, rfl, rfl, c180, q181, _, _, rfl, ?_⟩
        exact kfb115fb154.h _ _ _ gF158 ⟨_, _, _, _, rfl⟩
      have g182 := gF119.trans (g168.weak (by simp))
      replace r_law_parts_here := r_law_parts_here.up g168.f
      replace s9 := ex_t g168.f s9
      replace d10 := d10.up g168.f
      replace d11 := d11.up g168.f
      replace s14 := ex_t g168.f s14
      replace a15 := a15.up g168.f
      replace s113 := ex_t g168.f s113
      replace a114 := a114.up g168.f
      replace r143 := r143.up g168.f
      replace r123 := r123.up g168.f
      replace s148 := ex_t g168.f s148
      have eF166 := g168.s
      obtain ⟨u183, u184, u185, u186, rfl⟩ := i169
      refine ⟨_, rfl, _, rfl, _, rfl, _, _, rfl, rfl, _, rfl, _, _, rfl, rfl, ?_⟩
      refine ⟨F166, (b171.1 - b171.2), (law_count + (1 : Int)), rfl, eF166, (post_bd kfb115).mono (fun b187 kfb115 v192 F188 H189 g190 r191 => ?_) (fun _ z => z)⟩
      have eF188 := g190.s
      have gF188 := g182.trans (g190.weak (by simp))
      replace r_law_parts_here := r_law_parts_here.up g190.f
      replace s9 := ex_t g190.f s9
      replace d10 := d10.up g190.f
      replace d11 := d11.up g190.f
      replace s14 := ex_t g190.f s14
      replace a15 := a15.up g190.f
      replace s113 := ex_t g190.f s113
      replace a114 := a114.up g190.f
      replace r143 := r143.up g190.f
      replace r123 := r123.up g190.f
      replace s148 := ex_t g190.f s148
      refine ⟨F188, _, b115, _, b187, rfl, eF188, r143, r191, (post_bd kfb115).mono (fun b194 kfb115 v199 F195 H196 g197 r198 => ?_) (fun _ z => z)⟩
      have eF195 := g197.s
      have gF195 := gF188.trans (g197.weak (by simp))
      replace r_law_parts_here := r_law_parts_here.up g197.f
      replace s9 := ex_t g197.f s9
      replace d10 := d10.up g197.f
      replace d11 := d11.up g197.f
      replace s14 := ex_t g197.f s14
      replace a15 := a15.up g197.f
      replace s113 := ex_t g197.f s113
      replace a114 := a114.up g197.f
      replace r143 := r143.up g197.f
      replace r123 := r123.up g197.f
      replace s148 := ex_t g197.f s148
      replace r191 := r191.up g197.f
      exact kfb115.h _ _ _ gF195 ⟨_, _, _, _, _, _, _, _, _, _, rfl, r198⟩
    have g201 := g99.trans (g129.weak (by simp))
    replace r_law_parts_here := r_law_parts_here.up g129.f
    replace s9 := ex_t g129.f s9
    replace d10 := d10.up g129.f
    replace d11 := d11.up g129.f
    replace s14 := ex_t g129.f s14
    replace a15 := a15.up g129.f
    replace r110 := r110.up g129.f
    replace s113 := ex_t g129.f s113
    replace a114 := a114.up g129.f
    have eF127 := g129.s
    obtain ⟨c202, u203, u204, u205, u206, u207, u208, u209, u210, u211, rfl, r212⟩ := i130
    refine ⟨_, rfl, ?_⟩
    exact k.h _ _ _ g201 r212
/-! ### _law_places -/
abbrev s_law_places : Stmt := top 58
theorem sc_law_places : FnScope ["_law_row", "_law_most", "_law_found", "_law_k", "_law_place", "_law_spot", "_law_one"] ["_law_row", "_law_most"] (defScope s_law_places) := ⟨rfl, rfl, rfl, by decide +kernel, rfl, by decide +kernel, by decide +kernel⟩
def law_places (scr : List Int) (st : Rw) (law_most : Int) : Mm ((List (Int × Int)) × Rw) := (takenA scr st (law_most)).bd fun b6 => (rangeM ((1 : Int) + b6.1)).bd fun l14 => (foldM (fun (b15 : ((List (Int × Int)) × Rw)) (x16 : Int) => (takenA scr b15.2 ((41 : Int))).bd fun b40 => (pickM takenA scr b40.2 [(1 : Int), (1 : Int), (2 : Int), (3 : Int), (10 : Int)]).bd fun b52 => (law_low ((b40.1 - (20 : Int))) (b52.1)).bd fun b59 => cond (!(hasM b15.1 b59)) ((guardM (b15.1.length ≤ 50000)).bd fun _ => (filMm (fun (x72 : (Int × Int)) => (law_is_less (x72) (b59)).bd fun b91 => cond b91 (Mm.ok (some x72)) (Mm.ok none)) b15.1).bd fun b71 => (guardM ((cutL b15.1 none (some (b71.length : Int))).length + [b59].length ≤ 100000)).bd fun _ => (guardM (((cutL b15.1 none (some (b71.length : Int))) ++ [b59]).length + (cutL b15.1 (some (b71.length : Int)) none).length ≤ 100000)).bd fun _ => Mm.ok ((((cutL b15.1 none (some (b71.length : Int))) ++ [b59]) ++ (cutL b15.1 (some (b71.length : Int)) none)), b52.2)) (Mm.ok (b15.1, b52.2))) ([], b6.2) (rangeL 0 ((1 : Int) + b6.1).toNat)).bd fun b32 => Mm.ok (b32.1, b32.2)
def sp_law_places (K : PySem.W.Frag) : Sp := fun vs H Q _ => ∃ (F : Hp) (sc ra : Addr) (scr : List Int) (st : Rw) (law_most : Int), vs = [.ref ra, (V.int law_most)] ∧ Ex F H ∧ RowAt K sc ra scr F H st ∧ Post (law_places scr st law_most) (fun r => Ret [ra] F H (fun F' H' v => Dq K F' v ((eL (e2 PyData.int PyData.int)) r.1) ∧ RowAt K sc ra scr F' H' r.2) Q) (fun _ => False)
theorem ok_law_places {P : Program} {w : World} {K : PySem.W.Frag} {mg : Str → Option Value} {base : Heap} {C f : Addr} {fd : FuncData} (B : Bi mg) (FF : FunD K "_law_places" "_law_places" (defArgs s_law_places) (defBody s_law_places) (defScope s_law_places) [] [] f fd) (G_law_taken : Kn P w K mg base "_law_taken" 1 ["_law_row", "_law_many"] (spTaken takenA K)) (G_law_low : Kn P w K mg base "_law_low" 1 ["_law_top", "_law_bottom"] (sp_law_low K)) (G_law_pick : Kn P w K mg base "_law_pick" 2 ["_law_row", "_law_some"] (spPick takenA K)) (G_law_is_less : Kn P w K mg base "_law_is_less" 1 ["_law_one", "_law_other"] (sp_law_is_less K)) : FnOk P w K mg base CX0 3 f fd ["_law_row", "_law_most"] (sp_law_places K) := by
  refine FF.ok sc_law_places (fun vs H Q E h => ?_) (fun cdv A outer s H vs Q E hr h => ?_)
  · obtain ⟨F, sc, ra, scr, st, law_most, rfl, _⟩ := h; rfl
  · obtain ⟨F, sc, ra, scr, st, law_most, rfl, e, w, k⟩ := h
    unfold law_places at k
    have g_ := Gm.refl (M := [ra]) e
    refine ⟨_, PSs.nox (pss_cons (ps_set (i := 2) sc_law_places.nd rfl (Or.inl rfl) (pe_q (pe_lst (pa_nil)))) (pss_cons (ps_for PassesOwn.never rfl (pi_range1 rfl B.range (pa_cons (pe_op op_add (pe_int) (pe_kn G_law_taken (hr.mono (by decide)) (pa_cons (pv 0) (pa_cons (pv 1) (pa_nil))))) (pa_nil))) (pg_name (i := 3) sc_law_places.nd rfl (Or.inl rfl)) (pss_cons (ps_set (i := 4) sc_law_places.nd rfl (Or.inr rfl) (pe_kn G_law_low (hr.mono (by decide)) (pa_cons (pe_op op_sub (pe_kn G_law_taken (hr.mono (by decide)) (pa_cons (pv 0) (pa_cons (pe_int) (pa_nil)))) (pe_int)) (pa_cons (pe_kn G_law_pick (hr.mono (by decide)) (pa_cons (pv 0) (pa_cons (pe_q (pe_lst (pa_cons (pe_int) (pa_cons (pe_int) (pa_cons (pe_int) (pa_cons (pe_int) (pa_cons (pe_int) (pa_nil)))))))) pa_nil))) (pa_nil))))) (pss_one (ps_if (pt_cmpR (r := rNotInM K (e2 PyData.int PyData.int)) (op_notInM (sh_e2 sh_int sh_int) (units_of2 hr)) (pv 4) (pv 2) (by rfl)) (pss_cons (ps_set (i := 5) sc_law_places.nd rfl (Or.inl rfl) (pe_callB call_lenM (by rfl) B.len (by decide +kernel) (pa_cons (pe_q (pe_lc (own := [("_law_one", 6)]) (g := gName 6) rfl sc_law_places.nd (pi_list (pv 2)) (blkOk_by (N := ["_law_row", "_law_most", "_law_found", "_law_k", "_law_place", "_law_spot", "_law_one"]) (sc := defScope s_law_places) (by decide +kernel)) (fun _ _ _ _ _ => pg_name (i := 6) sc_law_places.nd rfl (Or.inl rfl)) (fun _ _ _ _ _ => pts_one (pt_val (pe_kn G_law_is_less (hr.mono (by decide)) (pa_cons (pv 6) (pa_cons (pv 4) (pa_nil)))))) (fun _ _ _ _ _ => pv 6))) pa_nil))) (pss_one (ps_set (i := 2) sc_law_places.nd rfl (Or.inl rfl) (pe_q (pe_op op_cat (pe_q (pe_op op_cat (pe_q (pe_slice sl_list (pv 2) po_none (po_some (pv 5)))) (pe_q (pe_lst (pa_cons (pv 4) (pa_nil)))))) (pe_q (pe_slice sl_list (pv 2) (po_some (pv 5)) po_none))))))) (pss_nil))))) (pss_one (ps_ret (pv 2))))), ?_⟩
    show _ ∧ _
    refine new_lst (K := K) (M := []) e .nil (by show 0 ≤ 100000; decide) fun v5 F1 H2 g3 r4 => ?_
    have eF1 := g3.s
    have gF1 := g_.trans (g3.weak (by simp))
    replace w := w.keep g3
    replace r4 : Dq K F1 v5 ((eL (e2 PyData.int PyData.int)) []) := r4
    refine ⟨_, rfl, _, rfl, ?_⟩
    refine ⟨F1, sc, ra, scr, st, law_most, rfl, eF1, w, (post_bd k).mono (fun b6 k v11 F7 H8 g9 ⟨r10, w12⟩ => ?_) (fun _ z => z)⟩
    have eF7 := g9.s
    have gF7 := gF1.trans (g9.weak (by simp))
    replace r4 := r4.up g9.f
    subst r10
    refine ⟨_, _, rfl, rfl, ?_⟩
    obtain ⟨h13, k⟩ := post_range k
    refine ⟨_, rfl, h13.1, h13.2, ?_⟩
    refine for_m (M := [ra]) (F := F7) wlk_range (fun b15 F' H' σ' => ∃ (c2 : V) (u3 : Option V) (u4 : Option V) (u5 : Option V) (u6 : Option V), σ' = [some (V.ref ra), some (V.int law_most), some c2, u3, u4, u5, u6] ∧ Dq K F' c2 ((eL (e2 PyData.int PyData.int)) b15.1) ∧ RowAt K sc ra scr F' H' b15.2) k eF7 ⟨_, _, _, _, _, rfl, r4, w12⟩ (fun b15 x16 v24 σ26 F17 H18 F19 H20 g21 i25 g22 r23 nx kfb15 => ?_) (fun b32 σ31 F27 H28 g29 i30 k => ?_)
    · replace r4 := r4.up g21.f
      obtain ⟨c33, u34, u35, u36, u37, rfl, r38, w39⟩ := i25
      replace r38 := r38.up g22.f
      replace w39 := w39.keep g22
      have eF19 := g22.s
      have gF19 := g21.trans (g22.weak (by simp))
      subst r23
      refine ⟨_, rfl, ?_⟩
      refine ⟨F19, sc, ra, scr, b15.2, (41 : Int), rfl, eF19, w39, (post_bd kfb15).mono (fun b40 kfb15 v45 F41 H42 g43 ⟨r44, w46⟩ => ?_) (fun _ z => z)⟩
      have eF41 := g43.s
      have gF41 := gF19.trans (g43.weak (by simp))
      replace r38 := r38.up g43.f
      subst r44
      refine ⟨_, _, rfl, rfl, _, rfl, ?_⟩
      show _ ∧ _
      refine new_lst (K := K) (M := []) eF41 (.cons (Dq.int (1 : Int)) (.cons (Dq.int (1 : Int)) (.cons (Dq.int (2 : Int)) (.cons (Dq.int (3 : Int)) (.cons (Dq.int (10 : Int)) .nil))))) (by show 5 ≤ 100000; decide) fun v51 F47 H48 g49 r50 => ?_
      have eF47 := g49.s
      have gF47 := gF41.trans (g49.weak (by simp))
      replace r38 := r38.up g49.f
      replace w46 := w46.keep g49
      replace r50 : Dq K F47 v51 ((eL PyData.int) [(1 : Int), (1 : Int), (2 : Int), (3 : Int), (10 : Int)]) := r50
      refine ⟨F47, sc, ra, scr, b40.2, _, PyData.int, _, [(1 : Int), (1 : Int), (2 : Int), (3 : Int), (10 : Int)], rfl, eF47, w46, r50, (post_bd kfb15).mono (fun b52 kfb15 v57 F53 H54 g55 ⟨r56, w58⟩ => ?_) (fun _ z => z)⟩
      have eF53 := g55.s
      have gF53 := gF47.trans (g55.weak (by simp))
      replace r38 := r38.up g55.f
      replace r50 := r50.up g55.f
      obtain rfl := dp_int r56
      refine ⟨F53, (b40.1 - (20 : Int)), b52.1, rfl, eF53, (post_bd kfb15).mono (fun b59 kfb15 v64 F60 H61 g62 r63 => ?_) (fun _ z => z)⟩
      have eF60 := g62.s
      have gF60 := gF53.trans (g62.weak (by simp))
      replace r38 := r38.up g62.f
      replace r50 := r50.up g62.f
      replace w58 := w58.keep g62
      refine ⟨_, rfl, _, rfl, b59, b15.1, r63.dp eF60, r38.dp eF60, _, rfl, ?_⟩
      refine cs kfb15 (fun _ kfb15 => ?_) (fun _ kfb15 => ?_)
      · refine ⟨_, rfl, ?_⟩
        obtain ⟨p66, xs67, rfl, s68, a69⟩ := dp_lst r38
        refine ⟨_, rfl, ⟨_, (sq_of (eF60 _ _ s68))⟩, ?_⟩
        obtain ⟨h89, kfb15⟩ := post_guard kfb15
        refine lc_fil (K := K) (M := []) (wlk_list eF60 s68 a69) (e2 PyData.int PyData.int) kfb15 eF60 h89 (fun _ _ => by simp) (fun x72 v87 F80 H81 F82 H83 g84 g85 r86 Q' k70 => ?_) (fun _ z => z) (fun b71 v73 F74 H75 g76 r77 kfb15 => ?_) gm_name
        · have g90 := Gm.refl (M := []) g84.s
          replace r38 := r38.up g84.f
          replace r50 := r50.up g84.f
          replace w58 := w58.keep g84
          replace r63 := r63.up g84.f
          replace s68 := g84.f _ _ s68
          replace a69 := a69.up g84.f
          replace r38 := r38.up g85.f
          replace r50 := r50.up g85.f
          replace w58 := w58.keep g85
          replace r63 := r63.up g85.f
          replace s68 := g85.f _ _ s68
          replace a69 := a69.up g85.f
          have eF82 := g85.s
          have gF82 := g90.trans (g85.weak (by simp))
          refine ⟨rfl, _, rfl, _, rfl, ?_⟩
          refine ⟨F82, _, x72, _, b59, rfl, eF82, r86, r63, (post_bd k70).mono (fun b91 k70 v96 F92 H93 g94 r95 => ?_) (fun _ z => z)⟩
          have eF92 := g94.s
          have gF92 := gF82.trans (g94.weak (by simp))
          replace r38 := r38.up g94.f
          replace r50 := r50.up g94.f
          replace w58 := w58.keep g94
          replace r63 := r63.up g94.f
          replace s68 := g94.f _ _ s68
          replace a69 := a69.up g94.f
          replace r86 := r86.up g94.f
          subst r95
          refine ⟨_, rfl, ?_⟩
          refine cs k70 (fun _ k70 => ?_) (fun _ k70 => ?_)
          · refine ⟨_, rfl, ?_⟩
            exact k70.h _ _ _ gF92 ⟨_, rfl, r86⟩
          · exact k70.h _ _ _ gF92 rfl
        have eF74 := g76.s
        have gF74 := gF60.trans (g76.weak (by simp))
        replace r38 := r38.up g76.f
        replace r50 := r50.up g76.f
        replace w58 := w58.keep g76
        replace r63 := r63.up g76.f
        replace s68 := g76.f _ _ s68
        replace a69 := a69.up g76.f
        obtain ⟨p99, xs100, rfl, s101, a102⟩ := dp_lst r77
        refine ⟨_, _, _, rfl, .inl (sq_of (eF74 _ _ s101)), len_all a102, ?_⟩
        refine ⟨_, rfl, _, rfl, _, rfl, ?_⟩
        refine cut_lst (K := K) (M := []) eF74 s68 a69 fun v107 F103 H104 g105 r106 => ?_
        have eF103 := g105.s
        have gF103 := gF74.trans (g105.weak (by simp))
        replace r38 := r38.up g105.f
        replace r50 := r50.up g105.f
        replace w58 := w58.keep g105
        replace r63 := r63.up g105.f
        replace s68 := g105.f _ _ s68
        replace a69 := a69.up g105.f
        replace r77 := r77.up g105.f
        replace s101 := g105.f _ _ s101
        replace a102 := a102.up g105.f
        refine ⟨_, rfl, ?_⟩
        show _ ∧ _
        refine new_lst (K := K) (M := []) eF103 (.cons r63 .nil) (by show 1 ≤ 100000; decide) fun v112 F108 H109 g110 r111 => ?_
        have eF108 := g110.s
        have gF108 := gF103.trans (g110.weak (by simp))
        replace r38 := r38.up g110.f
        replace r50 := r50.up g110.f
        replace w58 := w58.keep g110
        replace r63 := r63.up g110.f
        replace s68 := g110.f _ _ s68
        replace a69 := a69.up g110.f
        replace r77 := r77.up g110.f
        replace s101 := g110.f _ _ s101
        replace a102 := a102.up g110.f
        replace r106 := r106.up g110.f
        replace r111 : Dq K F108 v112 ((eL (e2 PyData.int PyData.int)) [b59]) := r111
        obtain ⟨p113, xs114, rfl, s115, a116⟩ := dp_lst r106
        obtain ⟨p117, xs118, rfl, s119, a120⟩ := dp_lst r111
        obtain ⟨h122, kfb15⟩ := post_guard kfb15
        refine ⟨_, _, _, _, rfl, rfl, eF108 _ _ s115, eF108 _ _ s119, cat_len a116 a120 h122, new_lstC (K := K) (M := []) (en := (e2 PyData.int PyData.int)) (l := (cutL b15.1 none (some (b71.length : Int)))) (l' := [b59]) eF108 a116 a120 fun v127 F123 H124 g125 r126 => ?_⟩
        have eF123 := g125.s
        have gF123 := gF108.trans (g125.weak (by simp))
        replace r38 := r38.up g125.f
        replace r50 := r50.up g125.f
        replace w58 := w58.keep g125
        replace r63 := r63.up g125.f
        replace s68 := g125.f _ _ s68
        replace a69 := a69.up g125.f
        replace r77 := r77.up g125.f
        replace s101 := g125.f _ _ s101
        replace a102 := a102.up g125.f
        replace r106 := r106.up g125.f
        replace r111 := r111.up g125.f
        replace s115 := g125.f _ _ s115
        replace a116 := a116.up g125.f
        replace s119 := g125.f _ _ s119
        replace a120 := a120.up g125.f
        refine ⟨_, rfl, _, rfl, _, rfl, ?_⟩
        refine cut_lst (K := K) (M := []) eF123 s68 a69 fun v132 F128 H129 g130 r131 => ?_
        have eF128 := g130.s
        have gF128 := gF123.trans (g130.weak (by simp))
        replace r38 := r38.up g130.f
        replace r50 := r50.up g130.f
        replace w58 := w58.keep g130
        replace r63 := r63.up g130.f
        replace s68 := g130.f _ _ s68
        replace a69 := a69.up g130.f
        replace r77 := r77.up g130.f
        replace s101 := g130.f _ _ s101
        replace a102 := a102.up g130.f
        replace r106 := r106.up g130.f
        replace r111 := r111.up g130.f
        replace s115 := g130.f _ _ s115
        replace a116 := a116.up g130.f
        replace s119 := g130.f _ _ s119
        replace a120 := a120.up g130.f
        replace r126 := r126.up g130.f
        obtain ⟨p133, xs134, rfl, s135, a136⟩ := dp_lst r126
        obtain ⟨p137, xs138, rfl, s139, a140⟩ := dp_lst r131
        obtain ⟨h142, kfb15⟩ := post_guard kfb15
        refine ⟨_, _, _, _, rfl, rfl, eF128 _ _ s135, eF128 _ _ s139, cat_len a136 a140 h142, new_lstC (K := K) (M := []) (en := (e2 PyData.int PyData.int)) (l := ((cutL b15.1 none (some (b71.length : Int))) ++ [b59])) (l' := (cutL b15.1 (some (b71.length : Int)) none)) eF128 a136 a140 fun v147 F143 H144 g145 r146 => ?_⟩
        have eF143 := g145.s
        have gF143 := gF128.trans (g145.weak (by simp))
        replace r38 := r38.up g145.f
        replace r50 := r50.up g145.f
        replace w58 := w58.keep g145
        replace r63 := r63.up g145.f
        replace s68 := g145.f _ _ s68
        replace a69 := a69.up g145.f
        replace r77 := r77.up g145.f
        replace s101 := g145.f _ _ s101
        replace a102 := a102.up g145.f
        replace r106 := r106.up g145.f
        replace r111 := r111.up g145.f
        replace s115 := g145.f _ _ s115
        replace a116 := a116.up g145.f
        replace s119 := g145.f _ _ s119
        replace a120 := a120.up g145.f
        replace r126 := r126.up g145.f
        replace r131 := r131.up g145.f
        replace s135 := g145.f _ _ s135
        replace a136 := a136.up g145.f
        replace s139 := g145.f _ _ s139
        replace a140 := a140.up g145.f
        exact kfb15.h _ _ _ gF143 ⟨_, _, _, _, _, rfl, r146, w58⟩
      · exact kfb15.h _ _ _ gF60 ⟨_, _, _, _, _, rfl, r38, w58⟩
    have g148 := gF7.trans (g29.weak (by simp))
    replace r4 := r4.up g29.f
    have eF27 := g29.s
    obtain ⟨c149, u150, u151, u152, u153, rfl, r154, w155⟩ := i30
    refine ⟨_, rfl, ?_⟩
    exact k.h _ _ _ g148 ⟨r154, w155⟩
/-! ### _law_wide -/
abbrev s_law_wide : Stmt := top 59
theorem sc_law_wide : FnScope ["_law_row", "_law_some", "_law_found", "_law_top", "_law_bottom", "_law_by"] ["_law_row", "_law_some"] (defScope s_law_wide) := ⟨rfl, rfl, rfl, by decide +kernel, rfl, by decide +kernel, by decide +kernel⟩
def law_wide (scr : List Int) (st : Rw) (law_some : (List (Int × Int))) : Mm ((List (Int × Int)) × Rw) := (foldM (fun (b12 : ((List (Int × Int)) × Rw)) (x13 : (Int × Int)) => (pickM takenA scr b12.2 [(1 : Int), (2 : Int), (-(1 : Int)), (-(3 : Int))]).bd fun b48 => (mulM x13.1 b48.1).bd fun m55 => (mulM x13.2 b48.1).bd fun m58 => (guardM (b12.1.length < 100000)).bd fun _ => Mm.ok ((b12.1 ++ [(m55, m58)]), b48.2)) ([], st) law_some).bd fun b29 => Mm.ok (b29.1, b29.2)
def sp_law_wide (K : PySem.W.Frag) : Sp := fun vs H Q _ => ∃ (F : Hp) (sc ra : Addr) (scr : List Int) (st : Rw) (v_law_some : V) (law_some : (List (Int × Int))), vs = [.ref ra, v_law_some] ∧ Ex F H ∧ RowAt K sc ra scr F H st ∧ Dq K F v_law_some ((eL (e2 PyData.int PyData.int)) law_some) ∧ Post (law_wide scr st law_some) (fun r => Ret [ra] F H (fun F' H' v => Dq K F' v ((eV (e2 PyData.int PyData.int)) r.1) ∧ RowAt K sc ra scr F' H' r.2) Q) (fun _ => False)
theorem ok_law_wide {P : Program} {w : World} {K : PySem.W.Frag} {mg : Str → Option Value} {base : Heap} {C f : Addr} {fd : FuncData} (B : Bi mg) (FF : FunD K "_law_wide" "_law_wide" (defArgs s_law_wide) (defBody s_law_wide) (defScope s_law_wide) [] [] f fd) (G_law_pick : Kn P w K mg base "_law_pick" 2 ["_law_row", "_law_some"] (spPick takenA K)) : FnOk P w K mg base CX0 3 f fd ["_law_row", "_law_some"] (sp_law_wide K) := by
  refine FF.ok sc_law_wide (fun vs H Q E h => ?_) (fun cdv A outer s H vs Q E hr h => ?_)
  · obtain ⟨F, sc, ra, scr, st, v_law_some, law_some, rfl, _⟩ := h; rfl
  · obtain ⟨F, sc, ra, scr, st, v_law_some, law_some, rfl, e, w, r_law_some, k⟩ := h
    unfold law_wide at k
    have g_ := Gm.refl (M := [ra]) e
    refine ⟨_, PSs.nox (pss_cons (ps_set (i := 2) sc_law_wide.nd rfl (Or.inl rfl) (pe_q (pe_lst (pa_nil)))) (pss_cons (ps_for PassesOwn.never rfl (pi_list (pv 1)) (pg_tup (by rfl) (pgs_cons (pg_name (i := 3) sc_law_wide.nd rfl (Or.inl rfl)) (pgs_cons (pg_name (i := 4) sc_law_wide.nd rfl (Or.inl rfl)) (pgs_nil)))) (pss_cons (ps_set (i := 5) sc_law_wide.nd rfl (Or.inl rfl) (pe_kn G_law_pick (hr.mono (by decide)) (pa_cons (pv 0) (pa_cons (pe_q (pe_lst (pa_cons (pe_int) (pa_cons (pe_int) (pa_cons (pe_un un_neg (pe_int)) (pa_cons (pe_un un_neg (pe_int)) (pa_nil))))))) pa_nil)))) (pss_one (ps_expr (pe_bm PySem.F.plainAttrs_list PySem.F.slot_list_append PySem.F.type_list_append mt_append (pv 2) (pa_cons (pe_q (pe_tup (pa_cons (pe_op op_mulM (pv 3) (pv 5)) (pa_cons (pe_op op_mulM (pv 4) (pv 5)) (pa_nil))))) pa_nil)))))) (pss_one (ps_ret (pe_q (pe_callTy call_tuple_of (by rfl) B.tuple (by decide +kernel) (pa_cons (pv 2) pa_nil))))))), ?_⟩
    show _ ∧ _
    refine new_own (K := K) e .nil (by show 0 ≤ 100000; decide) fun p1 H2 g3 y4 o5 => ?_
    have a6 : DqAll K F [] (List.map (e2 PyData.int PyData.int) []) := .nil
    have np1 := ne_of_none w.1 y4
    have mp1 := np1.symm
    have zp1 := g_.fresh y4
    have eH2 := g3.s
    have gH2 := g_.trans (g3.weak (by simp))
    replace w := w.keep g3
    refine ⟨_, rfl, ?_⟩
    obtain ⟨p8, xs9, rfl, s10, a11⟩ := dp_lst r_law_some
    refine ⟨_, rfl, ⟨_, (sq_of (eH2 _ _ s10))⟩, ?_⟩
    refine for_m (M := [p1, ra]) (F := F) (wlk_list eH2 s10 a11) (fun b12 F' H' σ' => ∃ (u3 : Option V) (u4 : Option V) (u5 : Option V) (xs2 : List V), σ' = [some (V.ref ra), some (V.ref p8), some (V.ref p1), u3, u4, u5] ∧ (H' p1 = some (.lst xs2) ∧ F' p1 = none) ∧ DqAll K F' xs2 (List.map (e2 PyData.int PyData.int) b12.1) ∧ RowAt K sc ra scr F' H' b12.2) k eH2 ⟨_, _, _, _, rfl, o5, a6, w⟩ (fun b12 x13 v21 σ23 F14 H15 F16 H17 g18 i22 g19 r20 nx kfb12 => ?_) (fun b29 σ28 F24 H25 g26 i27 k => ?_)
    · replace r_law_some := r_law_some.up g18.f
      replace s10 := g18.f _ _ s10
      replace a11 := a11.up g18.f
      obtain ⟨u30, u31, u32, xs33, rfl, o34, a35, w36⟩ := i22
      replace r_law_some := r_law_some.up g19.f
      replace s10 := g19.f _ _ s10
      replace a11 := a11.up g19.f
      replace o34 := g19.own (by simp [*]) o34.1 o34.2
      replace a35 := a35.up g19.f
      replace w36 := w36.keep g19
      have eF16 := g19.s
      have gF16 := g18.trans (g19.weak (by simp))
      obtain ⟨p37, x38, x39, rfl, s40, d41, d42⟩ := dp_tup2 r20
      obtain rfl := dp_int d41
      obtain rfl := dp_int d42
      refine ⟨_, _, rfl, ex_t eF16 s40, rfl, _, _, rfl, _, _, rfl, rfl, ?_⟩
      refine ⟨_, rfl, _, rfl, _, rfl, ?_⟩
      show _ ∧ _
      refine new_lst (K := K) (M := []) eF16 (.cons (Dq.int (1 : Int)) (.cons (Dq.int (2 : Int)) (.cons (Dq.int (-(1 : Int))) (.cons (Dq.int (-(3 : Int))) .nil)))) (by show 4 ≤ 100000; decide) fun v47 F43 H44 g45 r46 => ?_
      have eF43 := g45.s
      have gF43 := gF16.trans (g45.weak (by simp))
      replace r_law_some := r_law_some.up g45.f
      replace s10 := g45.f _ _ s10
      replace a11 := a11.up g45.f
      replace o34 := g45.own (by simp [*]) o34.1 o34.2
      replace a35 := a35.up g45.f
      replace w36 := w36.keep g45
      replace r20 := r20.up g45.f
      replace s40 := ex_t g45.f s40
      replace r46 : Dq K F43 v47 ((eL PyData.int) [(1 : Int), (2 : Int), (-(1 : Int)), (-(3 : Int))]) := r46
      refine ⟨F43, sc, ra, scr, b12.2, _, PyData.int, _, [(1 : Int), (2 : Int), (-(1 : Int)), (-(3 : Int))], rfl, eF43, w36, r46, (post_bd kfb12).mono (fun b48 kfb12 v53 F49 H50 g51 ⟨r52, w54⟩ => ?_) (fun _ z => z)⟩
      have eF49 := g51.s
      have gF49 := gF43.trans (g51.weak (by simp))
      replace r_law_some := r_law_some.up g51.f
      replace s10 := g51.f _ _ s10
      replace a11 := a11.up g51.f
      replace o34 := g51.own (by simp [*]) o34.1 o34.2
      replace a35 := a35.up g51.f
      replace r20 := r20.up g51.f
      replace s40 := ex_t g51.f s40
      replace r46 := r46.up g51.f
      obtain rfl := dp_int r52
      refine ⟨_, rfl, .inl ⟨rfl, _, sq_of o34.1⟩, _, rfl, _, rfl, ?_⟩
      obtain ⟨m55, c56, q57, kfb12⟩ := post_mul kfb12
      refine ⟨_, _, _, rfl, rfl, c56, q57, _, rfl, _, rfl, ?_⟩
      obtain ⟨m58, c59, q60, kfb12⟩ := post_mul kfb12
      refine ⟨_, _, _, rfl, rfl, c59, q60, ?_⟩
      show _ ∧ _
      refine new_tup (K := K) (M := []) eF49 (.cons (Dq.int m55) (.cons (Dq.int m58) .nil)) (by show 2 ≤ 100000; decide) fun v65 F61 H62 g63 r64 => ?_
      have eF61 := g63.s
      have gF61 := gF49.trans (g63.weak (by simp))
      replace r_law_some := r_law_some.up g63.f
      replace s10 := g63.f _ _ s10
      replace a11 := a11.up g63.f
      replace o34 := g63.own (by simp [*]) o34.1 o34.2
      replace a35 := a35.up g63.f
      replace r20 := r20.up g63.f
      replace s40 := ex_t g63.f s40
      replace r46 := r46.up g63.f
      replace w54 := w54.keep g63
      replace r64 : Dq K F61 v65 ((e2 PyData.int PyData.int) (m55, m58)) := r64
      obtain ⟨h66, kfb12⟩ := post_guard kfb12
      refine ⟨_, _, _, rfl, rfl, o34.1, own_sz a35 h66, ?_⟩
      have g67 := gF61.putOr (o := .lst (xs33 ++ [v65])) (.inl (by simp)) o34.1 o34.2
      replace w54 := w54.put np1 (o := .lst (xs33 ++ [v65]))
      replace o34 : (upd H62 p1 (.lst (xs33 ++ [v65]))) p1 = some (.lst (xs33 ++ [v65])) ∧ F61 p1 = none := ⟨upd_same, o34.2⟩
      replace a35 : DqAll K F61 (xs33 ++ [v65]) (List.map (e2 PyData.int PyData.int) (b12.1 ++ [(m55, m58)])) := by rw [List.map_append]; exact a35.app (.cons r64 .nil)
      have e68 := g67.s
      exact kfb12.h _ _ _ g67 ⟨_, _, _, _, rfl, o34, a35, w54⟩
    have hy70 : ∀ q ∈ [p1], q ∈ [ra] ∨ H q = none := by intro q hq; simp only [List.mem_cons, List.not_mem_nil, or_false] at hq; rcases hq with rfl; exact (.inr zp1)
    have g69 := Gm.outs [p1] hy70 gH2 (g26.weak (by simp))
    replace r_law_some := r_law_some.up g26.f
    replace s10 := g26.f _ _ s10
    replace a11 := a11.up g26.f
    have eF24 := g26.s
    obtain ⟨u71, u72, u73, xs74, rfl, o75, a76, w77⟩ := i27
    refine ⟨_, rfl, ?_⟩
    refine to_VO (K := K) (M := []) eF24 o75.1 a76 (en := (e2 PyData.int PyData.int)) (l := b29.1) fun v82 F78 H79 g80 r81 => ?_
    have eF78 := g80.s
    have gF78 := g69.trans (g80.weak (by simp))
    replace r_law_some := r_law_some.up g80.f
    replace s10 := g80.f _ _ s10
    replace a11 := a11.up g80.f
    replace o75 := g80.own (by simp [*]) o75.1 o75.2
    replace a76 := a76.up g80.f
    replace w77 := w77.keep g80
    exact k.h _ _ _ gF78 ⟨r81, w77⟩
/-! ### _law_wide#v -/
abbrev s_law_wide_v : Stmt := top 59
theorem sc_law_wide_v : FnScope ["_law_row", "_law_some", "_law_found", "_law_top", "_law_bottom", "_law_by"] ["_law_row", "_law_some"] (defScope s_law_wide_v) := ⟨rfl, rfl, rfl, by decide +kernel, rfl, by decide +kernel, by decide +kernel⟩
def law_wide_v (scr : List Int) (st : Rw) (law_some : (List (Int × Int))) : Mm ((List (Int × Int)) × Rw) := (foldM (fun (b12 : ((List (Int × Int)) × Rw)) (x13 : (Int × Int)) => (pickM takenA scr b12.2 [(1 : Int), (2 : Int), (-(1 : Int)), (-(3 : Int))]).bd fun b48 => (mulM x13.1 b48.1).bd fun m55 => (mulM x13.2 b48.1).bd fun m58 => (guardM (b12.1.length < 100000)).bd fun _ => Mm.ok ((b12.1 ++ [(m55, m58)]), b48.2)) ([], st) law_some).bd fun b29 => Mm.ok (b29.1, b29.2)
def sp_law_wide_v (K : PySem.W.Frag) : Sp := fun vs H Q _ => ∃ (F : Hp) (sc ra : Addr) (scr : List Int) (st : Rw) (v_law_some : V) (law_some : (List (Int × Int))), vs = [.ref ra, v_law_some] ∧ Ex F H ∧ RowAt K sc ra scr F H st ∧ Dq K F v_law_some ((eV (e2 PyData.int PyData.int)) law_some) ∧ Post (law_wide_v scr st law_some) (fun r => Ret [ra] F H (fun F' H' v => Dq K F' v ((eV (e2 PyData.int PyData.int)) r.1) ∧ RowAt K sc ra scr F' H' r.2) Q) (fun _ => False)
theorem ok_law_wide_v {P : Program} {w : World} {K : PySem.W.Frag} {mg : Str → Option Value} {base : Heap} {C f : Addr} {fd : FuncData} (B : Bi mg) (FF : FunD K "_law_wide" "_law_wide" (defArgs s_law_wide_v) (defBody s_law_wide_v) (defScope s_law_wide_v) [] [] f fd) (G_law_pick : Kn P w K mg base "_law_pick" 2 ["_law_row", "_law_some"] (spPick takenA K)) : FnOk P w K mg base CX0 3 f fd ["_law_row", "_law_some"] (sp_law_wide_v K) := by
  refine FF.ok sc_law_wide_v (fun vs H Q E h => ?_) (fun cdv A outer s H vs Q E hr h => ?_)
  · obtain ⟨F, sc, ra, scr, st, v_law_some, law_some, rfl, _⟩ := h; rfl
  · obtain ⟨F, sc, ra, scr, st, v_law_some, law_some, rfl, e, w, r_law_some, k⟩ := h
    unfold law_wide_v at k
    have g_ := Gm.refl (M := [ra]) e
    refine ⟨_, PSs.nox (pss_cons (ps_set (i := 2) sc_law_wide_v.nd rfl (Or.inl rfl) (pe_q (pe_lst (pa_nil)))) (pss_cons (ps_for PassesOwn.never rfl (pi_tup (pv 1)) (pg_tup (by rfl) (pgs_cons (pg_name (i := 3) sc_law_wide_v.nd rfl (Or.inl rfl)) (pgs_cons (pg_name (i := 4) sc_law_wide_v.nd rfl (Or.inl rfl)) (pgs_nil)))) (pss_cons (ps_set (i := 5) sc_law_wide_v.nd rfl (Or.inl rfl) (pe_kn G_law_pick (hr.mono (by decide)) (pa_cons (pv 0) (pa_cons (pe_q (pe_lst (pa_cons (pe_int) (pa_cons (pe_int) (pa_cons (pe_un un_neg (pe_int)) (pa_cons (pe_un un_neg (pe_int)) (pa_nil))))))) pa_nil)))) (pss_one (ps_expr (pe_bm PySem.F.plainAttrs_list PySem.F.slot_list_append PySem.F.type_list_append mt_append (pv 2) (pa_cons (pe_q (pe_tup (pa_cons (pe_op op_mulM (pv 3) (pv 5)) (pa_cons (pe_op op_mulM (pv 4) (pv 5)) (pa_nil))))) pa_nil)))))) (pss_one (ps_ret (pe_q (pe_callTy call_tuple_of (by rfl) B.tuple (by decide +kernel) (pa_cons (pv 2) pa_nil))))))), ?_⟩
    show _ ∧ _
    refine new_own (K := K) e .nil (by show 0 ≤ 100000; decide) fun p1 H2 g3 y4 o5 => ?_
    have a6 : DqAll K F [] (List.map (e2 PyData.int PyData.int) []) := .nil
    have np1 := ne_of_none w.1 y4
    have mp1 := np1.symm
    have zp1 := g_.fresh y4
    have eH2 := g3.s
    have gH2 := g_.trans (g3.weak (by simp))
    replace w := w.keep g3
    refine ⟨_, rfl, ?_⟩
    obtain ⟨p8, xs9, rfl, s10, a11⟩ := dp_tup r_law_some
    refine ⟨_, rfl, ⟨_, (ex_t eH2 s10)⟩, ?_⟩
    refine for_m (M := [p1, ra]) (F := F) (wlk_tup eH2 s10 a11) (fun b12 F' H' σ' => ∃ (u3 : Option V) (u4 : Option V) (u5 : Option V) (xs2 : List V), σ' = [some (V.ref ra), some (V.ref p8), some (V.ref p1), u3, u4, u5] ∧ (H' p1 = some (.lst xs2) ∧ F' p1 = none) ∧ DqAll K F' xs2 (List.map (e2 PyData.int PyData.int) b12.1) ∧ RowAt K sc ra scr F' H' b12.2) k eH2 ⟨_, _, _, _, rfl, o5, a6, w⟩ (fun b12 x13 v21 σ23 F14 H15 F16 H17 g18 i22 g19 r20 nx kfb12 => ?_) (fun b29 σ28 F24 H25 g26 i27 k => ?_)
    · replace r_law_some := r_law_some.up g18.f
      replace s10 := ex_t g18.f s10
      replace a11 := a11.up g18.f
      obtain ⟨u30, u31, u32, xs33, rfl, o34, a35, w36⟩ := i22
      replace r_law_some := r_law_some.up g19.f
      replace s10 := ex_t g19.f s10
      replace a11 := a11.up g19.f
      replace o34 := g19.own (by simp [*]) o34.1 o34.2
      replace a35 := a35.up g19.f
      replace w36 := w36.keep g19
      have eF16 := g19.s
      have gF16 := g18.trans (g19.weak (by simp))
      obtain ⟨p37, x38, x39, rfl, s40, d41, d42⟩ := dp_tup2 r20
      obtain rfl := dp_int d41
      obtain rfl := dp_int d42
      refine ⟨_, _, rfl, ex_t eF16 s40, rfl, _, _, rfl, _, _, rfl, rfl, ?_⟩
      refine ⟨_, rfl, _, rfl, _, rfl, ?_⟩
      show _ ∧ _
      refine new_lst (K := K) (M := []) eF16 (.cons (Dq.int (1 : Int)) (.cons (Dq.int (2 : Int)) (.cons (Dq.int (-(1 : Int))) (.cons (Dq.int (-(3 : Int))) .nil)))) (by show 4 ≤ 100000; decide) fun v47 F43 H44 g45 r46 => ?_
      have eF43 := g45.s
      have gF43 := gF16.trans (g45.weak (by simp))
      replace r_law_some := r_law_some.up g45.f
      replace s10 := ex_t g45.f s10
      replace a11 := a11.up g45.f
      replace o34 := g45.own (by simp [*]) o34.1 o34.2
      replace a35 := a35.up g45.f
      replace w36 := w36.keep g45
      replace r20 := r20.up g45.f
      replace s40 := ex_t g45.f s40
      replace r46 : Dq K F43 v47 ((eL PyData.int) [(1 : Int), (2 : Int), (-(1 : Int)), (-(3 : Int))]) := r46
      refine ⟨F43, sc, ra, scr, b12.2, _, PyData.int, _, [(1 : Int), (2 : Int), (-(1 : Int)), (-(3 : Int))], rfl, eF43, w36, r46, (post_bd kfb12).mono (fun b48 kfb12 v53 F49 H50 g51 ⟨r52, w54⟩ => ?_) (fun _ z => z)⟩
      have eF49 := g51.s
      have gF49 := gF43.trans (g51.weak (by simp))
      replace r_law_some := r_law_some.up g51.f
      replace s10 := ex_t g51.f s10
      replace a11 := a11.up g51.f
      replace o34 := g51.own (by simp [*]) o34.1 o34.2
      replace a35 := a35.up g51.f
      replace r20 := r20.up g51.f
      replace s40 := ex_t g51.f s40
      replace r46 := r46.up g51.f
      obtain rfl := dp_int r52
      refine ⟨_, rfl, .inl ⟨rfl, _, sq_of o34.1⟩, _, rfl, _, rfl, ?_⟩
      obtain ⟨m55, c56, q57, kfb12⟩ := post_mul kfb12
      refine ⟨_, _, _, rfl, rfl, c56, q57, _, rfl, _, rfl, ?_⟩
      obtain ⟨m58, c59, q60, kfb12⟩ := post_mul kfb12
      refine ⟨_, _, _, rfl, rfl, c59, q60, ?_⟩
      show _ ∧ _
      refine new_tup (K := K) (M := []) eF49 (.cons (Dq.int m55) (.cons (Dq.int m58) .nil)) (by show 2 ≤ 100000; decide) fun v65 F61 H62 g63 r64 => ?_
      have eF61 := g63.s
      have gF61 := gF49.trans (g63.weak (by simp))
      replace r_law_some := r_law_some.up g63.f
      replace s10 := ex_t g63.f s10
      replace a11 := a11.up g63.f
      replace o34 := g63.own (by simp [*]) o34.1 o34.2
      replace a35 := a35.up g63.f
      replace r20 := r20.up g63.f
      replace s40 := ex_t g63.f s40
      replace r46 := r46.up g63.f
      replace w54 := w54.keep g63
      replace r64 : Dq K F61 v65 ((e2 PyData.int PyData.int) (m55, m58)) := r64
      obtain ⟨h66, kfb12⟩ := post_guard kfb12
      refine ⟨_, _, _, rfl, rfl, o34.1, own_sz a35 h66, ?_⟩
      have g67 := gF61.putOr (o := .lst (xs33 ++ [v65])) (.inl (by simp)) o34.1 o34.2
      replace w54 := w54.put np1 (o := .lst (xs33 ++ [v65]))
      replace o34 : (upd H62 p1 (.lst (xs33 ++ [v65]))) p1 = some (.lst (xs33 ++ [v65])) ∧ F61 p1 = none := ⟨upd_same, o34.2⟩
      replace a35 : DqAll K F61 (xs33 ++ [v65]) (List.map (e2 PyData.int PyData.int) (b12.1 ++ [(m55, m58)])) := by rw [List.map_append]; exact a35.app (.cons r64 .nil)
      have e68 := g67.s
      exact kfb12.h _ _ _ g67 ⟨_, _, _, _, rfl, o34, a35, w54⟩
    have hy70 : ∀ q ∈ [p1], q ∈ [ra] ∨ H q = none := by intro q hq; simp only [List.mem_cons, List.not_mem_nil, or_false] at hq; rcases hq with rfl; exact (.inr zp1)
    have g69 := Gm.outs [p1] hy70 gH2 (g26.weak (by simp))
    replace r_law_some := r_law_some.up g26.f
    replace s10 := ex_t g26.f s10
    replace a11 := a11.up g26.f
    have eF24 := g26.s
    obtain ⟨u71, u72, u73, xs74, rfl, o75, a76, w77⟩ := i27
    refine ⟨_, rfl, ?_⟩
    refine to_VO (K := K) (M := []) eF24 o75.1 a76 (en := (e2 PyData.int PyData.int)) (l := b29.1) fun v82 F78 H79 g80 r81 => ?_
    have eF78 := g80.s
    have gF78 := g69.trans (g80.weak (by simp))
    replace r_law_some := r_law_some.up g80.f
    replace s10 := ex_t g80.f s10
    replace a11 := a11.up g80.f
    replace o75 := g80.own (by simp [*]) o75.1 o75.2
    replace a76 := a76.up g80.f
    replace w77 := w77.keep g80
    exact k.h _ _ _ gF78 ⟨r81, w77⟩
/-! ### _law_served -/
abbrev s_law_served : Stmt := top 60
theorem sc_law_served : FnScope ["_law_parts_here", "_law_places_here", "_law_weights", "_law_k", "_law_found", "_law_j", "_law_by", "_law_turn"] ["_law_parts_here", "_law_places_here", "_law_weights"] (defScope s_law_served) := ⟨rfl, rfl, rfl, by decide +kernel, rfl, by decide +kernel, by decide +kernel⟩
def law_served (law_parts_here : ((List (Int × Int)) × (List (Int × Int × Int)))) (law_places_here : (List (Int × Int))) (law_weights : (List (Int × Int))) : Mm Int := (rangeM (15 : Int)).bd fun l2 => (foldL (R := Int) (fun (b3 : Unit) (x4 : Int) => (rangeM (law_places_here.length : Int)).bd fun l36 => (foldM (fun (b37 : (Int × Int)) (x38 : Int) => (getM law_weights x38).bd fun i64 => (rangeM x4).bd fun l70 => (foldM (fun (b71 : (Int × Int)) (x72 : Int) => (getM law_places_here x38).bd fun i92 => (law_mul (b71) (i92)).bd fun b97 => Mm.ok b97) i64 (rangeL 0 x4.toNat)).bd fun b88 => (law_add (b37) (b88)).bd fun b108 => Mm.ok b108) ((0 : Int), (1 : Int)) (rangeL 0 (law_places_here.length : Int).toNat)).bd fun b54 => (law_sum (law_parts_here) (x4)).bd fun b121 => cond (!(decide (b54 = b121))) (Mm.ok (Fl.ret (x4 - (1 : Int)))) (Mm.ok (Fl.go ()))) () (rangeL 0 (15 : Int).toNat)).bd fun o => o.el (fun b20 => Mm.ok (14 : Int)) (fun r => Mm.ok r)
def sp_law_served (K : PySem.W.Frag) : Sp := fun vs H Q _ => ∃ (F : Hp) (v_law_parts_here : V) (law_parts_here : ((List (Int × Int)) × (List (Int × Int × Int)))) (v_law_places_here : V) (law_places_here : (List (Int × Int))) (v_law_weights : V) (law_weights : (List (Int × Int))), vs = [v_law_parts_here, v_law_places_here, v_law_weights] ∧ Ex F H ∧ Dq K F v_law_parts_here ((e2 (eV (e2 PyData.int PyData.int)) (eV (e3 PyData.int PyData.int PyData.int))) law_parts_here) ∧ Dq K F v_law_places_here ((eL (e2 PyData.int PyData.int)) law_places_here) ∧ Dq K F v_law_weights ((eV (e2 PyData.int PyData.int)) law_weights) ∧ Post (law_served law_parts_here law_places_here law_weights) (fun r => Ret [] F H (fun F' _ v => v = V.int r) Q) (fun _ => False)
theorem ok_law_served {P : Program} {w : World} {K : PySem.W.Frag} {mg : Str → Option Value} {base : Heap} {C f : Addr} {fd : FuncData} (B : Bi mg) (FF : FunD K "_law_served" "_law_served" (defArgs s_law_served) (defBody s_law_served) (defScope s_law_served) [] [] f fd) (G_law_mul : Kn P w K mg base "_law_mul" 2 ["_law_one", "_law_other"] (sp_law_mul K)) (G_law_add : Kn P w K mg base "_law_add" 2 ["_law_one", "_law_other"] (sp_law_add K)) (G_law_sum : Kn P w K mg base "_law_sum" 3 ["_law_parts_here", "_law_count"] (sp_law_sum K)) : FnOk P w K mg base CX0 4 f fd ["_law_parts_here", "_law_places_here", "_law_weights"] (sp_law_served K) := by
  refine FF.ok sc_law_served (fun vs H Q E h => ?_) (fun cdv A outer s H vs Q E hr h => ?_)
  · obtain ⟨F, v_law_parts_here, law_parts_here, v_law_places_here, law_places_here, v_law_weights, law_weights, rfl, _⟩ := h; rfl
  · obtain ⟨F, v_law_parts_here, law_parts_here, v_law_places_here, law_places_here, v_law_weights, law_weights, rfl, e, r_law_parts_here, r_law_places_here, r_law_weights, k⟩ := h
    unfold law_served at k
    have g_ := Gm.refl (M := []) e
    refine ⟨_, PSs.nox (pss_cons (ps_for PassesOwn.never rfl (pi_range1 rfl B.range (pa_cons (pe_int) (pa_nil))) (pg_name (i := 3) sc_law_served.nd rfl (Or.inl rfl)) (pss_cons (ps_set (i := 4) sc_law_served.nd rfl (Or.inl rfl) (pe_q (pe_tup (pa_cons (pe_int) (pa_cons (pe_int) (pa_nil)))))) (pss_cons (ps_for PassesOwn.never rfl (pi_range1 rfl B.range (pa_cons (pe_callB call_lenM (by rfl) B.len (by decide +kernel) (pa_cons (pv 1) pa_nil)) (pa_nil))) (pg_name (i := 5) sc_law_served.nd rfl (Or.inl rfl)) (pss_cons (ps_set (i := 6) sc_law_served.nd rfl (Or.inl rfl) (pe_ix (r := rIxT K) ix_tup (pv 2) (pv 5) (fun _ _ => rfl))) (pss_cons (ps_for PassesOwn.never rfl (pi_range1 rfl B.range (pa_cons (pv 3) (pa_nil))) (pg_name (i := 7) sc_law_served.nd rfl (Or.inl rfl)) (pss_one (ps_set (i := 6) sc_law_served.nd rfl (Or.inl rfl) (pe_kn G_law_mul (hr.mono (by decide)) (pa_cons (pv 6) (pa_cons (pe_ix (r := rIxL K) ix_list (pv 1) (pv 5) (fun _ _ => rfl)) (pa_nil))))))) (pss_one (ps_set (i := 4) sc_law_served.nd rfl (Or.inl rfl) (pe_kn G_law_add (hr.mono (by decide)) (pa_cons (pv 4) (pa_cons (pv 6) (pa_nil))))))))) (pss_one (ps_if (pt_cmpR (r := rNeM K (e2 PyData.int PyData.int)) (op_neM (sh_e2 sh_int sh_int) (units_of hr)) (pv 4) (pe_kn G_law_sum (hr.mono (by decide)) (pa_cons (pv 0) (pa_cons (pv 3) (pa_nil)))) (nomark _)) (pss_one (ps_ret (pe_op op_sub (pv 3) (pe_int)))) pss_nil))))) (pss_one (ps_ret (pe_int)))), ?_⟩
    obtain ⟨h1, k⟩ := post_range k
    refine ⟨_, rfl, h1.1, h1.2, ?_⟩
    refine for_mL (M := []) (F := F) wlk_range (fun b3 F' H' σ' => ∃ (u3 : Option V) (u4 : Option V) (u5 : Option V) (u6 : Option V) (u7 : Option V), σ' = [some v_law_parts_here, some v_law_places_here, some v_law_weights, u3, u4, u5, u6, u7]) k e ⟨_, _, _, _, _, rfl⟩ (fun b3 x4 v12 σ14 F5 H6 F7 H8 g9 i13 g10 r11 nx kfb3 => ?_) (fun b20 σ19 F15 H16 g17 i18 k => ?_)
    · replace r_law_parts_here := r_law_parts_here.up g9.f
      replace r_law_places_here := r_law_places_here.up g9.f
      replace r_law_weights := r_law_weights.up g9.f
      obtain ⟨u21, u22, u23, u24, u25, rfl⟩ := i13
      replace r_law_parts_here := r_law_parts_here.up g10.f
      replace r_law_places_here := r_law_places_here.up g10.f
      replace r_law_weights := r_law_weights.up g10.f
      have eF7 := g10.s
      have gF7 := g9.trans (g10.weak (by simp))
      subst r11
      show _ ∧ _
      refine new_tup (K := K) (M := []) eF7 (.cons (Dq.int (0 : Int)) (.cons (Dq.int (1 : Int)) .nil)) (by show 2 ≤ 100000; decide) fun v30 F26 H27 g28 r29 => ?_
      have eF26 := g28.s
      have gF26 := gF7.trans (g28.weak (by simp))
      replace r_law_parts_here := r_law_parts_here.up g28.f
      replace r_law_places_here := r_law_places_here.up g28.f
      replace r_law_weights := r_law_weights.up g28.f
      replace r29 : Dq K F26 v30 ((e2 PyData.int PyData.int) ((0 : Int), (1 : Int))) := r29
      refine ⟨_, rfl, ?_⟩
      obtain ⟨p31, xs32, rfl, s33, a34⟩ := dp_lst r_law_places_here
      refine ⟨_, _, _, rfl, .inl (sq_of (eF26 _ _ s33)), len_all a34, ?_⟩
      obtain ⟨h35, kfb3⟩ := post_range kfb3
      refine ⟨_, rfl, h35.1, h35.2, ?_⟩
      refine for_m (M := []) (F := F26) wlk_range (fun b37 F' H' σ' => ∃ (c4 : V) (u5 : Option V) (u6 : Option V) (u7 : Option V), σ' = [some v_law_parts_here, some (V.ref p31), some v_law_weights, some (V.int x4), some c4, u5, u6, u7] ∧ Dq K F' c4 ((e2 PyData.int PyData.int) b37)) kfb3 eF26 ⟨_, _, _, _, rfl, r29⟩ (fun b37 x38 v46 σ48 F39 H40 F41 H42 g43 i47 g44 r45 nx kfb3fb37 => ?_) (fun b54 σ53 F49 H50 g51 i52 kfb3 => ?_)
      · replace r_law_parts_here := r_law_parts_here.up g43.f
        replace r_law_places_here := r_law_places_here.up g43.f
        replace r_law_weights := r_law_weights.up g43.f
        replace r29 := r29.up g43.f
        replace s33 := g43.f _ _ s33
        replace a34 := a34.up g43.f
        obtain ⟨c55, u56, u57, u58, rfl, r59⟩ := i47
        replace r_law_parts_here := r_law_parts_here.up g44.f
        replace r_law_places_here := r_law_places_here.up g44.f
        replace r_law_weights := r_law_weights.up g44.f
        replace s33 := g44.f _ _ s33
        replace a34 := a34.up g44.f
        replace r59 := r59.up g44.f
        have eF41 := g44.s
        have gF41 := g43.trans (g44.weak (by simp))
        subst r45
        refine ⟨_, rfl, _, rfl, ?_⟩
        obtain ⟨p60, xs61, rfl, s62, a63⟩ := dp_tup r_law_weights
        obtain ⟨i64, h65, kfb3fb37⟩ := post_get kfb3fb37
        obtain ⟨v66, h67, r68⟩ := dq_at a63 h65
        refine ⟨_, _, _, _, rfl, rfl, (ex_t eF41 s62), h67, ?_⟩
        refine ⟨_, rfl, ?_⟩
        obtain ⟨h69, kfb3fb37⟩ := post_range kfb3fb37
        refine ⟨_, rfl, h69.1, h69.2, ?_⟩
        refine for_m (M := []) (F := F41) wlk_range (fun b71 F' H' σ' => ∃ (c6 : V) (u7 : Option V), σ' = [some v_law_parts_here, some (V.ref p31), some (V.ref p60), some (V.int x4), some c55, some (V.int x38), some c6, u7] ∧ Dq K F' c6 ((e2 PyData.int PyData.int) b71)) kfb3fb37 eF41 ⟨_, _, rfl, r68⟩ (fun b71 x72 v80 σ82 F73 H74 F75 H76 g77 i81 g78 r79 nx kfb3fb37fb71 => ?_) (fun b88 σ87 F83 H84 g85 i86 kfb3fb37 => ?_)
        · replace r_law_parts_here := r_law_parts_here.up g77.f
          replace r_law_places_here := r_law_places_here.up g77.f
          replace r_law_weights := r_law_weights.up g77.f
          replace s33 := g77.f _ _ s33
          replace a34 := a34.up g77.f
          replace r59 := r59.up g77.f
          replace s62 := ex_t g77.f s62
          replace a63 := a63.up g77.f
          replace r68 := r68.up g77.f
          obtain ⟨c89, u90, rfl, r91⟩ := i81
          replace r_law_parts_here := r_law_parts_here.up g78.f
          replace r_law_places_here := r_law_places_here.up g78.f
          replace r_law_weights := r_law_weights.up g78.f
          replace s33 := g78.f _ _ s33
          replace a34 := a34.up g78.f
          replace r59 := r59.up g78.f
          replace s62 := ex_t g78.f s62
          replace a63 := a63.up g78.f
          replace r91 := r91.up g78.f
          have eF75 := g78.s
          have gF75 := g77.trans (g78.weak (by simp))
          subst r79
          refine ⟨_, rfl, _, rfl, _, rfl, ?_⟩
          obtain ⟨i92, h93, kfb3fb37fb71⟩ := post_get kfb3fb37fb71
          obtain ⟨v94, h95, r96⟩ := dq_at a34 h93
          refine ⟨_, _, _, _, rfl, rfl, (sq_of (eF75 _ _ s33)), h95, ?_⟩
          refine ⟨F75, _, b71, _, i92, rfl, eF75, r91, r96, (post_bd kfb3fb37fb71).mono (fun b97 kfb3fb37fb71 v102 F98 H99 g100 r101 => ?_) (fun _ z => z)⟩
          have eF98 := g100.s
          have gF98 := gF75.trans (g100.weak (by simp))
          replace r_law_parts_here := r_law_parts_here.up g100.f
          replace r_law_places_here := r_law_places_here.up g100.f
          replace r_law_weights := r_law_weights.up g100.f
          replace s33 := g100.f _ _ s33
          replace a34 := a34.up g100.f
          replace r59 := r59.up g100.f
          replace s62 := ex_t g100.f s62
          replace a63 := a63.up g100.f
          replace r91 := r91.up g100.f
          replace r96 := r96.up g100.f
          exact kfb3fb37fb71.h _ _ _ gF98 ⟨_, _, rfl, r101⟩
        have g104 := gF41.trans (g85.weak (by simp))
        replace r_law_parts_here := r_law_parts_here.up g85.f
        replace r_law_places_here := r_law_places_here.up g85.f
        replace r_law_weights := r_law_weights.up g85.f
        replace s33 := g85.f _ _ s33
        replace a34 := a34.up g85.f
        replace r59 := r59.up g85.f
        replace s62 := ex_t g85.f s62
        replace a63 := a63.up g85.f
        replace r68 := r68.up g85.f
        have eF83 := g85.s
        obtain ⟨c105, u106, rfl, r107⟩ := i86
        refine ⟨_, rfl, _, rfl, ?_⟩
        refine ⟨F83, _, b37, _, b88, rfl, eF83, r59, r107, (post_bd kfb3fb37).mono (fun b108 kfb3fb37 v113 F109 H110 g111 r112 => ?_) (fun _ z => z)⟩
        have eF109 := g111.s
        have gF109 := g104.trans (g111.weak (by simp))
        replace r_law_parts_here := r_law_parts_here.up g111.f
        replace r_law_places_here := r_law_places_here.up g111.f
        replace r_law_weights := r_law_weights.up g111.f
        replace s33 := g111.f _ _ s33
        replace a34 := a34.up g111.f
        replace r59 := r59.up g111.f
        replace s62 := ex_t g111.f s62
        replace a63 := a63.up g111.f
        replace r107 := r107.up g111.f
        exact kfb3fb37.h _ _ _ gF109 ⟨_, _, _, _, rfl, r112⟩
      have g115 := gF26.trans (g51.weak (by simp))
      replace r_law_parts_here := r_law_parts_here.up g51.f
      replace r_law_places_here := r_law_places_here.up g51.f
      replace r_law_weights := r_law_weights.up g51.f
      replace r29 := r29.up g51.f
      replace s33 := g51.f _ _ s33
      replace a34 := a34.up g51.f
      have eF49 := g51.s
      obtain ⟨c116, u117, u118, u119, rfl, r120⟩ := i52
      refine ⟨_, rfl, _, rfl, _, rfl, ?_⟩
      refine ⟨F49, _, law_parts_here, x4, rfl, eF49, r_law_parts_here, (post_bd kfb3).mono (fun b121 kfb3 v126 F122 H123 g124 r125 => ?_) (fun _ z => z)⟩
      have eF122 := g124.s
      have gF122 := g115.trans (g124.weak (by simp))
      replace r_law_parts_here := r_law_parts_here.up g124.f
      replace r_law_places_here := r_law_places_here.up g124.f
      replace r_law_weights := r_law_weights.up g124.f
      replace s33 := g124.f _ _ s33
      replace a34 := a34.up g124.f
      replace r120 := r120.up g124.f
      refine ⟨b54, b121, r120.dp eF122, r125.dp eF122, ?_⟩
      refine ⟨_, rfl, ?_⟩
      refine cs kfb3 (fun _ kfb3 => ?_) (fun _ kfb3 => ?_)
      · refine ⟨_, rfl, _, _, rfl, rfl, ?_⟩
        exact (show Post (Mm.ok _) _ _ from kfb3.h).h _ _ _ (g_.trans gF122) rfl
      · exact kfb3.h _ _ _ gF122 ⟨_, _, _, _, _, rfl⟩
    have g128 := g_.trans (g17.weak (by simp))
    replace r_law_parts_here := r_law_parts_here.up g17.f
    replace r_law_places_here := r_law_places_here.up g17.f
    replace r_law_weights := r_law_weights.up g17.f
    have eF15 := g17.s
    obtain ⟨u129, u130, u131, u132, u133, rfl⟩ := i18
    exact k.h _ _ _ g128 rfl
/-! ### _law_served#l -/
abbrev s_law_served_l : Stmt := top 60
theorem sc_law_served_l : FnScope ["_law_parts_here", "_law_places_here", "_law_weights", "_law_k", "_law_found", "_law_j", "_law_by", "_law_turn"] ["_law_parts_here", "_law_places_here", "_law_weights"] (defScope s_law_served_l) := ⟨rfl, rfl, rfl, by decide +kernel, rfl, by decide +kernel, by decide +kernel⟩
def law_served_l (law_parts_here : ((List (Int × Int)) × (List (Int × Int × Int)))) (law_places_here : (List (Int × Int))) (law_weights : (List (Int × Int))) : Mm Int := (rangeM (15 : Int)).bd fun l2 => (foldL (R := Int) (fun (b3 : Unit) (x4 : Int) => (rangeM (law_places_here.length : Int)).bd fun l36 => (foldM (fun (b37 : (Int × Int)) (x38 : Int) => (getM law_weights x38).bd fun i64 => (rangeM x4).bd fun l70 => (foldM (fun (b71 : (Int × Int)) (x72 : Int) => (getM law_places_here x38).bd fun i92 => (law_mul (b71) (i92)).bd fun b97 => Mm.ok b97) i64 (rangeL 0 x4.toNat)).bd fun b88 => (law_add (b37) (b88)).bd fun b108 => Mm.ok b108) ((0 : Int), (1 : Int)) (rangeL 0 (law_places_here.length : Int).toNat)).bd fun b54 => (law_sum (law_parts_here) (x4)).bd fun b121 => cond (!(decide (b54 = b121))) (Mm.ok (Fl.ret (x4 - (1 : Int)))) (Mm.ok (Fl.go ()))) () (rangeL 0 (15 : Int).toNat)).bd fun o => o.el (fun b20 => Mm.ok (14 : Int)) (fun r => Mm.ok r)
def sp_law_served_l (K : PySem.W.Frag) : Sp := fun vs H Q _ => ∃ (F : Hp) (v_law_parts_here : V) (law_parts_here : ((List (Int × Int)) × (List (Int × Int × Int)))) (v_law_places_here : V) (law_places_here : (List (Int × Int))) (v_law_weights : V) (law_weights : (List (Int × Int))), vs = [v_law_parts_here, v_law_places_here, v_law_weights] ∧ Ex F H ∧ Dq K F v_law_parts_here ((e2 (eV (e2 PyData.int PyData.int)) (eV (e3 PyData.int PyData.int PyData.int))) law_parts_here) ∧ Dq K F v_law_places_here ((eL (e2 PyData.int PyData.int)) law_places_here) ∧ Dq K F v_law_weights ((eL (e2 PyData.int PyData.int)) law_weights) ∧ Post (law_served_l law_parts_here law_places_here law_weights) (fun r => Ret [] F H (fun F' _ v => v = V.int r) Q) (fun _ => False)
theorem ok_law_served_l {P : Program} {w : World} {K : PySem.W.Frag} {mg : Str → Option Value} {base : Heap} {C f : Addr} {fd : FuncData} (B : Bi mg) (FF : FunD K "_law_served" "_law_served" (defArgs s_law_served_l) (defBody s_law_served_l) (defScope s_law_served_l) [] [] f fd) (G_law_mul : Kn P w K mg base "_law_mul" 2 ["_law_one", "_law_other"] (sp_law_mul K)) (G_law_add : Kn P w K mg base "_law_add" 2 ["_law_one", "_law_other"] (sp_law_add K)) (G_law_sum : Kn P w K mg base "_law_sum" 3 ["_law_parts_here", "_law_count"] (sp_law_sum K)) : FnOk P w K mg base CX0 4 f fd ["_law_parts_here", "_law_places_here", "_law_weights"] (sp_law_served_l K) := by
  refine FF.ok sc_law_served_l (fun vs H Q E h => ?_) (fun cdv A outer s H vs Q E hr h => ?_)
  · obtain ⟨F, v_law_parts_here, law_parts_here, v_law_places_here, law_places_here, v_law_weights, law_weights, rfl, _⟩ := h; rfl
  · obtain ⟨F, v_law_parts_here, law_parts_here, v_law_places_here, law_places_here, v_law_weights, law_weights, rfl, e, r_law_parts_here, r_law_places_here, r_law_weights, k⟩ := h
    unfold law_served_l at k
    have g_ := Gm.refl (M := []) e
    refine ⟨_, PSs.nox (pss_cons (ps_for PassesOwn.never rfl (pi_range1 rfl B.range (pa_cons (pe_int) (pa_nil))) (pg_name (i := 3) sc_law_served_l.nd rfl (Or.inl rfl)) (pss_cons (ps_set (i := 4) sc_law_served_l.nd rfl (Or.inl rfl) (pe_q (pe_tup (pa_cons (pe_int) (pa_cons (pe_int) (pa_nil)))))) (pss_cons (ps_for PassesOwn.never rfl (pi_range1 rfl B.range (pa_cons (pe_callB call_lenM (by rfl) B.len (by decide +kernel) (pa_cons (pv 1) pa_nil)) (pa_nil))) (pg_name (i := 5) sc_law_served_l.nd rfl (Or.inl rfl)) (pss_cons (ps_set (i := 6) sc_law_served_l.nd rfl (Or.inl rfl) (pe_ix (r := rIxL K) ix_list (pv 2) (pv 5) (fun _ _ => rfl))) (pss_cons (ps_for PassesOwn.never rfl (pi_range1 rfl B.range (pa_cons (pv 3) (pa_nil))) (pg_name (i := 7) sc_law_served_l.nd rfl (Or.inl rfl)) (pss_one (ps_set (i := 6) sc_law_served_l.nd rfl (Or.inl rfl) (pe_kn G_law_mul (hr.mono (by decide)) (pa_cons (pv 6) (pa_cons (pe_ix (r := rIxL K) ix_list (pv 1) (pv 5) (fun _ _ => rfl)) (pa_nil))))))) (pss_one (ps_set (i := 4) sc_law_served_l.nd rfl (Or.inl rfl) (pe_kn G_law_add (hr.mono (by decide)) (pa_cons (pv 4) (pa_cons (pv 6) (pa_nil))))))))) (pss_one (ps_if (pt_cmpR (r := rNeM K (e2 PyData.int PyData.int)) (op_neM (sh_e2 sh_int sh_int) (units_of hr)) (pv 4) (pe_kn G_law_sum (hr.mono (by decide)) (pa_cons (pv 0) (pa_cons (pv 3) (pa_nil)))) (nomark _)) (pss_one (ps_ret (pe_op op_sub (pv 3) (pe_int)))) pss_nil))))) (pss_one (ps_ret (pe_int)))), ?_⟩
    obtain ⟨h1, k⟩ := post_range k
    refine ⟨_, rfl, h1.1, h1.2, ?_⟩
    refine for_mL (M := []) (F := F) wlk_range (fun b3 F' H' σ' => ∃ (u3 : Option V) (u4 : Option V) (u5 : Option V) (u6 : Option V) (u7 : Option V), σ' = [some v_law_parts_here, some v_law_places_here, some v_law_weights, u3, u4, u5, u6, u7]) k e ⟨_, _, _, _, _, rfl⟩ (fun b3 x4 v12 σ14 F5 H6 F7 H8 g9 i13 g10 r11 nx kfb3 => ?_) (fun b20 σ19 F15 H16 g17 i18 k => ?_)
    · replace r_law_parts_here := r_law_parts_here.up g9.f
      replace r_law_places_here := r_law_places_here.up g9.f
      replace r_law_weights := r_law_weights.up g9.f
      obtain ⟨u21, u22, u23, u24, u25, rfl⟩ := i13
      replace r_law_parts_here := r_law_parts_here.up g10.f
      replace r_law_places_here := r_law_places_here.up g10.f
      replace r_law_weights := r_law_weights.up g10.f
      have eF7 := g10.s
      have gF7 := g9.trans (g10.weak (by simp))
      subst r11
      show _ ∧ _
      refine new_tup (K := K) (M := []) eF7 (.cons (Dq.int (0 : Int)) (.cons (Dq.int (1 : Int)) .nil)) (by show 2 ≤ 100000; decide) fun v30 F26 H27 g28 r29 => ?_
      have eF26 := g28.s
      have gF26 := gF7.trans (g28.weak (by simp))
      replace r_law_parts_here := r_law_parts_here.up g28.f
      replace r_law_places_here := r_law_places_here.up g28.f
      replace r_law_weights := r_law_weights.up g28.f
      replace r29 : Dq K F26 v30 ((e2 PyData.int PyData.int) ((0 : Int), (1 : Int))) := r29
      refine ⟨_, rfl, ?_⟩
      obtain ⟨p31, xs32, rfl, s33, a34⟩ := dp_lst r_law_places_here
      refine ⟨_, _, _, rfl, .inl (sq_of (eF26 _ _ s33)), len_all a34, ?_⟩
      obtain ⟨h35, kfb3⟩ := post_range kfb3
      refine ⟨_, rfl, h35.1, h35.2, ?_⟩
      refine for_m (M := []) (F := F26) wlk_range (fun b37 F' H' σ' => ∃ (c4 : V) (u5 : Option V) (u6 : Option V) (u7 : Option V), σ' = [some v_law_parts_here, some (V.ref p31), some v_law_weights, some (V.int x4), some c4, u5, u6, u7] ∧ Dq K F' c4 ((e2 PyData.int PyData.int) b37)) kfb3 eF26 ⟨_, _, _, _, rfl, r29⟩ (fun b37 x38 v46 σ48 F39 H40 F41 H42 g43 i47 g44 r45 nx kfb3fb37 => ?_) (fun b54 σ53 F49 H50 g51 i52 kfb3 => ?_)
      · replace r_law_parts_here := r_law_parts_here.up g43.f
        replace r_law_places_here := r_law_places_here.up g43.f
        replace r_law_weights := r_law_weights.up g43.f
        replace r29 := r29.up g43.f
        replace s33 := g43.f _ _ s33
        replace a34 := a34.up g43.f
        obtain ⟨c55, u56, u57, u58, rfl, r59⟩ := i47
        replace r_law_parts_here := r_law_parts_here.up g44.f
        replace r_law_places_here := r_law_places_here.up g44.f
        replace r_law_weights := r_law_weights.up g44.f
        replace s33 := g44.f _ _ s33
        replace a34 := a34.up g44.f
        replace r59 := r59.up g44.f
        have eF41 := g44.s
        have gF41 := g43.trans (g44.weak (by simp))
        subst r45
        refine ⟨_, rfl, _, rfl, ?_⟩
        obtain ⟨p60, xs61, rfl, s62, a63⟩ := dp_lst r_law_weights
        obtain ⟨i64, h65, kfb3fb37⟩ := post_get kfb3fb37
        obtain ⟨v66, h67, r68⟩ := dq_at a63 h65
        refine ⟨_, _, _, _, rfl, rfl, (sq_of (eF41 _ _ s62)), h67, ?_⟩
        refine ⟨_, rfl, ?_⟩
        obtain ⟨h69, kfb3fb37⟩ := post_range kfb3fb37
        refine ⟨_, rfl, h69.1, h69.2, ?_⟩
        refine for_m (M := []) (F := F41) wlk_range (fun b71 F' H' σ' => ∃ (c6 : V) (u7 : Option V), σ' = [some v_law_parts_here, some (V.ref p31), some (V.ref p60), some (V.int x4), some c55, some (V.int x38), some c6, u7] ∧ Dq K F' c6 ((e2 PyData.int PyData.int) b71)) kfb3fb37 eF41 ⟨_, _, rfl, r68⟩ (fun b71 x72 v80 σ82 F73 H74 F75 H76 g77 i81 g78 r79 nx kfb3fb37fb71 => ?_) (fun b88 σ87 F83 H84 g85 i86 kfb3fb37 => ?_)
        · replace r_law_parts_here := r_law_parts_here.up g77.f
          replace r_law_places_here := r_law_places_here.up g77.f
          replace r_law_weights := r_law_weights.up g77.f
          replace s33 := g77.f _ _ s33
          replace a34 := a34.up g77.f
          replace r59 := r59.up g77.f
          replace s62 := g77.f _ _ s62
          replace a63 := a63.up g77.f
          replace r68 := r68.up g77.f
          obtain ⟨c89, u90, rfl, r91⟩ := i81
          replace r_law_parts_here := r_law_parts_here.up g78.f
          replace r_law_places_here := r_law_places_here.up g78.f
          replace r_law_weights := r_law_weights.up g78.f
          replace s33 := g78.f _ _ s33
          replace a34 := a34.up g78.f
          replace r59 := r59.up g78.f
          replace s62 := g78.f _ _ s62
          replace a63 := a63.up g78.f
          replace r91 := r91.up g78.f
          have eF75 := g78.s
          have gF75 := g77.trans (g78.weak (by simp))
          subst r79
          refine ⟨_, rfl, _, rfl, _, rfl, ?_⟩
          obtain ⟨i92, h93, kfb3fb37fb71⟩ := post_get kfb3fb37fb71
          obtain ⟨v94, h95, r96⟩ := dq_at a34 h93
          refine ⟨_, _, _, _, rfl, rfl, (sq_of (eF75 _ _ s33)), h95, ?_⟩
          refine ⟨F75, _, b71, _, i92, rfl, eF75, r91, r96, (post_bd kfb3fb37fb71).mono (fun b97 kfb3fb37fb71 v102 F98 H99 g100 r101 => ?_) (fun _ z => z)⟩
          have eF98 := g100.s
          have gF98 := gF75.trans (g100.weak (by simp))
          replace r_law_parts_here := r_law_parts_here.up g100.f
          replace r_law_places_here := r_law_places_here.up g100.f
          replace r_law_weights := r_law_weights.up g100.f
          replace s33 := g100.f _ _ s33
          replace a34 := a34.up g100.f
          replace r59 := r59.up g100.f
          replace s62 := g100.f _ _ s62
          replace a63 := a63.up g100.f
          replace r91 := r91.up g100.f
          replace r96 := r96.up g100.f
          exact kfb3fb37fb71.h _ _ _ gF98 ⟨_, _, rfl, r101⟩
        have g104 := gF41.trans (g85.weak (by simp))
        replace r_law_parts_here := r_law_parts_here.up g85.f
        replace r_law_places_here := r_law_places_here.up g85.f
        replace r_law_weights := r_law_weights.up g85.f
        replace s33 := g85.f _ _ s33
        replace a34 := a34.up g85.f
        replace r59 := r59.up g85.f
        replace s62 := g85.f _ _ s62
        replace a63 := a63.up g85.f
        replace r68 := r68.up g85.f
        have eF83 := g85.s
        obtain ⟨c105, u106, rfl, r107⟩ := i86
        refine ⟨_, rfl, _, rfl, ?_⟩
        refine ⟨F83, _, b37, _, b88, rfl, eF83, r59, r107, (post_bd kfb3fb37).mono (fun b108 kfb3fb37 v113 F109 H110 g111 r112 => ?_) (fun _ z => z)⟩
        have eF109 := g111.s
        have gF109 := g104.trans (g111.weak (by simp))
        replace r_law_parts_here := r_law_parts_here.up g111.f
        replace r_law_places_here := r_law_places_here.up g111.f
        replace r_law_weights := r_law_weights.up g111.f
        replace s33 := g111.f _ _ s33
        replace a34 := a34.up g111.f
        replace r59 := r59.up g111.f
        replace s62 := g111.f _ _ s62
        replace a63 := a63.up g111.f
        replace r107 := r107.up g111.f
        exact kfb3fb37.h _ _ _ gF109 ⟨_, _, _, _, rfl, r112⟩
      have g115 := gF26.trans (g51.weak (by simp))
      replace r_law_parts_here := r_law_parts_here.up g51.f
      replace r_law_places_here := r_law_places_here.up g51.f
      replace r_law_weights := r_law_weights.up g51.f
      replace r29 := r29.up g51.f
      replace s33 := g51.f _ _ s33
      replace a34 := a34.up g51.f
      have eF49 := g51.s
      obtain ⟨c116, u117, u118, u119, rfl, r120⟩ := i52
      refine ⟨_, rfl, _, rfl, _, rfl, ?_⟩
      refine ⟨F49, _, law_parts_here, x4, rfl, eF49, r_law_parts_here, (post_bd kfb3).mono (fun b121 kfb3 v126 F122 H123 g124 r125 => ?_) (fun _ z => z)⟩
      have eF122 := g124.s
      have gF122 := g115.trans (g124.weak (by simp))
      replace r_law_parts_here := r_law_parts_here.up g124.f
      replace r_law_places_here := r_law_places_here.up g124.f
      replace r_law_weights := r_law_weights.up g124.f
      replace s33 := g124.f _ _ s33
      replace a34 := a34.up g124.f
      replace r120 := r120.up g124.f
      refine ⟨b54, b121, r120.dp eF122, r125.dp eF122, ?_⟩
      refine ⟨_, rfl, ?_⟩
      refine cs kfb3 (fun _ kfb3 => ?_) (fun _ kfb3 => ?_)
      · refine ⟨_, rfl, _, _, rfl, rfl, ?_⟩
        exact (show Post (Mm.ok _) _ _ from kfb3.h).h _ _ _ (g_.trans gF122) rfl
      · exact kfb3.h _ _ _ gF122 ⟨_, _, _, _, _, rfl⟩
    have g128 := g_.trans (g17.weak (by simp))
    replace r_law_parts_here := r_law_parts_here.up g17.f
    replace r_law_places_here := r_law_places_here.up g17.f
    replace r_law_weights := r_law_weights.up g17.f
    have eF15 := g17.s
    obtain ⟨u129, u130, u131, u132, u133, rfl⟩ := i18
    exact k.h _ _ _ g128 rfl
/-! ### _law_is_all -/
abbrev s_law_is_all : Stmt := top 61
theorem sc_law_is_all : FnScope ["_law_degree"] ["_law_degree"] (defScope s_law_is_all) := ⟨rfl, rfl, rfl, by decide +kernel, rfl, by decide +kernel, by decide +kernel⟩
def law_is_all (law_degree : Int) : Mm (Option Int) := (cond (decide (law_degree = (14 : Int))) (Mm.ok none) (Mm.ok (some law_degree))).bd fun b6 => Mm.ok b6
def sp_law_is_all (K : PySem.W.Frag) : Sp := fun vs H Q _ => ∃ (F : Hp) (law_degree : Int), vs = [(V.int law_degree)] ∧ Ex F H ∧ Post (law_is_all law_degree) (fun r => Ret [] F H (fun F' _ v => Dq K F' v ((eO PyData.int) r)) Q) (fun _ => False)
theorem ok_law_is_all {P : Program} {w : World} {K : PySem.W.Frag} {mg : Str → Option Value} {base : Heap} {C f : Addr} {fd : FuncData} (B : Bi mg) (FF : FunD K "_law_is_all" "_law_is_all" (defArgs s_law_is_all) (defBody s_law_is_all) (defScope s_law_is_all) [] [] f fd) : FnOk P w K mg base CX0 1 f fd ["_law_degree"] (sp_law_is_all K) := by
  refine FF.ok sc_law_is_all (fun vs H Q E h => ?_) (fun cdv A outer s H vs Q E hr h => ?_)
  · obtain ⟨F, law_degree, rfl, _⟩ := h; rfl
  · obtain ⟨F, law_degree, rfl, e, k⟩ := h
    unfold law_is_all at k
    have g_ := Gm.refl (M := []) e
    refine ⟨_, PSs.nox (pss_one (ps_ret (pe_ifExp (pt_cmpR op_eq (pv 0) (pe_int) (nomark _)) (pe_non) (pv 0)))), ?_⟩
    refine ⟨_, rfl, rfl, ?_⟩
    rw [decV_int]
    refine ⟨_, rfl, ?_⟩
    refine if_jM (M := []) (F := F) (fun b F' H' v => Dq K F' v ((eO PyData.int) b)) k (fun _ Q' kib6 => ?_) (fun _ Q' kib6 => ?_) (fun b6 v1 F2 H3 g4 r5 k => ?_)
    · have gF_ := Gm.refl (M := []) e
      exact kib6.h _ _ _ gF_ Dq.non
    · have gF_ := Gm.refl (M := []) e
      refine ⟨_, rfl, ?_⟩
      exact kib6.h _ _ _ gF_ (Dq.int law_degree)
    have eF2 := g4.s
    have gF2 := g_.trans (g4.weak (by simp))
    exact k.h _ _ _ gF2 r5
/-! ### law -/
abbrev s_law : Stmt := top 62
theorem sc_law : FnScope ["_law_script", "_law_row", "_law_parts_here", "_law_one", "_law_places_here", "_law_reach", "_law_weights", "_law_best", "_law_at", "_law_bent", "_law_other", "_law_place", "_law_mass"] ["_law_script"] (defScope s_law) := ⟨rfl, rfl, rfl, by decide +kernel, rfl, by decide +kernel, by decide +kernel⟩
def law (scr : List Int) : Mm Bool := (law_parts scr (Rw.mk 0 0 0)).bd fun b1 => (law_weighting (b1.1)).bd fun b8 => (law_places scr b1.2 ((5 : Int))).bd fun b15 => (cond (decide (b1.1.2 = [])) ((takenA scr b15.2 ((2 : Int))).bd fun b38 => (cond (decide (b38.1 = (0 : Int))) (Mm.ok (decide ((b1.1.1.length : Int) < (6 : Int)))) (Mm.ok false)).bd fun b45 => Mm.ok (b45, b38.2)) (Mm.ok (false, b15.2))).bd fun b33 => (cond b33.1 ((guardM (b1.1.1.length ≤ 50000)).bd fun _ => (mapMm (fun (x65 : (Int × Int)) => Mm.ok (x65.1, (1 : Int))) b1.1.1).bd fun b64 => Mm.ok (b64, b33.2)) (Mm.ok (b15.1, b33.2))).bd fun b53 => (takenA scr b53.2 ((5 : Int))).bd fun b108 => (cond (decide (b108.1 = (0 : Int))) ((takenA scr b108.2 ((9 : Int))).bd fun b121 => (mulM (-(2 : Int)) ((1 : Int) + b121.1)).bd fun m128 => (mulM (2 : Int) ((1 : Int) + b121.1)).bd fun m141 => (law_weighting (([(m128, (1 : Int)), ((0 : Int), (6 : Int)), (m141, (1 : Int))], []))).bd fun b179 => Mm.ok (([(m128, (1 : Int)), ((0 : Int), (6 : Int)), (m141, (1 : Int))], []), [(((0 : Int) - ((1 : Int) + b121.1)), (1 : Int)), (((1 : Int) + b121.1), (1 : Int))], b179, b121.2)) (Mm.ok (b1.1, b53.1, b8, b108.2))).bd fun b115 => (law_wide scr b115.2.2.2 (b115.2.1)).bd fun b202 => (weights_for (b115.2.2.1) (b202.1)).bd fun b209 => (law_served (b115.1) (b115.2.1) (b209)).bd fun b216 => (law_is_all (b216)).bd fun b223 => (cond (!(decide ((b209.length : Int) = (b115.2.1.length : Int)))) (Mm.ok true) ((cond (!b223.isNone) ((getO b223).bd fun a246 => Mm.ok (decide (a246 < ((b115.2.1.length : Int) - (1 : Int))))) (Mm.ok false)).bd fun b242 => Mm.ok b242)).bd fun b238 => cond b238 (Mm.ok false) ((law_wide scr b202.2 (b115.2.1)).bd fun b248 => (best_degree (b115.2.2.1) (b248.1)).bd fun b255 => cond (!(decide (b255 = b223))) (Mm.ok false) ((served (b115.2.2.1) (b115.2.1) (b209)).bd fun b267 => cond (!(decide (b267 = b223))) (Mm.ok false) ((takenA scr b248.2 ((b115.2.1.length : Int))).bd fun b274 => (getM b209 b274.1).bd fun i286 => (takenA scr b274.2 ((9 : Int))).bd fun b291 => (law_add (i286) (((1 : Int), ((1 : Int) + b291.1)))).bd fun b303 => (guardM ((cutL b209 none (some b274.1)).length + [b303].length ≤ 100000)).bd fun _ => (guardM (((cutL b209 none (some b274.1)) ++ [b303]).length + (cutL b209 (some (b274.1 + (1 : Int))) none).length ≤ 100000)).bd fun _ => (law_wide_v scr b291.2 ((((cutL b209 none (some b274.1)) ++ [b303]) ++ (cutL b209 (some (b274.1 + (1 : Int))) none)))).bd fun b355 => (served (b115.2.2.1) (b115.2.1) (b355.1)).bd fun b362 => cond (!(decide (b362 = (some (-(1 : Int)))))) (Mm.ok false) (cond (decide ((b115.2.1.length : Int) < (2 : Int))) (Mm.ok true) ((modM (b274.1 + (1 : Int)) (b115.2.1.length : Int)).bd fun m369 => (getM b209 b274.1).bd fun i378 => (law_add (i378) (((1 : Int), (1 : Int)))).bd fun b388 => (getM b209 m369).bd fun i395 => (law_add (i395) (((-(1 : Int)), (1 : Int)))).bd fun b405 => (setM b209 b274.1 b388).bd fun m417 => (setM m417 m369 b405).bd fun m423 => (served (b115.2.2.1) (b115.2.1) (m423)).bd fun b439 => (law_served_l (b115.1) (b115.2.1) (m423)).bd fun b452 => (law_is_all (b452)).bd fun b459 => Mm.ok (decide (b439 = b459)))))))
def sp_law (K : PySem.W.Frag) : Sp := fun vs H Q _ => ∃ (sc : Addr) (scr : List Int), vs = [.ref sc] ∧ SqL K H sc (scr.map V.int) ∧ Post (law scr) (fun r => ∀ H', Q (.bl r) H') (fun _ => False)
theorem ok_law {P : Program} {w : World} {K : PySem.W.Frag} {mg : Str → Option Value} {base : Heap} {C f : Addr} {fd : FuncData} (B : Bi mg) (FF : FunD K "law" "law" (defArgs s_law) (defBody s_law) (defScope s_law) [] [] f fd) (G_law_parts : Kn P w K mg base "_law_parts" 4 ["_law_row"] (sp_law_parts K)) (G_law_weighting : Kn P w K mg base "_law_weighting" 6 ["_law_parts_here"] (sp_law_weighting K C)) (G_law_places : Kn P w K mg base "_law_places" 3 ["_law_row", "_law_most"] (sp_law_places K)) (G_law_taken : Kn P w K mg base "_law_taken" 1 ["_law_row", "_law_many"] (spTaken takenA K)) (G_weights_for : Kn P w K mg base "weights_for" 6 ["weighting", "places"] (sp_weights_for K C)) (G_law_wide : Kn P w K mg base "_law_wide" 3 ["_law_row", "_law_some"] (sp_law_wide K)) (G_law_is_all : Kn P w K mg base "_law_is_all" 1 ["_law_degree"] (sp_law_is_all K)) (G_law_served : Kn P w K mg base "_law_served" 4 ["_law_parts_here", "_law_places_here", "_law_weights"] (sp_law_served K)) (G_best_degree : Kn P w K mg base "best_degree" 6 ["weighting", "places"] (sp_best_degree K C)) (G_served : Kn P w K mg base "served" 4 ["weighting", "places", "weights"] (sp_served K C)) (G_law_add : Kn P w K mg base "_law_add" 2 ["_law_one", "_law_other"] (sp_law_add K)) (G_law_wide_v : Kn P w K mg base "_law_wide" 3 ["_law_row", "_law_some"] (sp_law_wide_v K)) (G_law_served_l : Kn P w K mg base "_law_served" 4 ["_law_parts_here", "_law_places_here", "_law_weights"] (sp_law_served_l K)) : FnOk P w K mg base CX0 7 f fd ["_law_script"] (sp_law K) := by
  refine FF.ok sc_law (fun vs H Q E h => ?_) (fun cdv A outer s H vs Q E hr h => ?_)
  · obtain ⟨sc, scr, rfl, _⟩ := h; rfl
  · obtain ⟨sc, scr, rfl, hs, k⟩ := h
    unfold law at k
    refine ⟨_, PSs.nox (pss_cons (ps_set (i := 1) sc_law.nd rfl (Or.inl rfl) (pe_q (pe_lst (pa_cons (pv 0) (pa_cons pe_int (pa_cons pe_int (pa_cons pe_int pa_nil))))))) (pss_cons (ps_set (i := 2) sc_law.nd rfl (Or.inl rfl) (pe_kn G_law_parts (hr.mono (by decide)) (pa_cons (pv 1) (pa_nil)))) (pss_cons (ps_par (i := 3) (j := 4) (by rfl) sc_law.nd rfl rfl (by decide) rfl rfl (pa_cons (pe_kn G_law_weighting (hr.mono (by decide)) (pa_cons (pv 2) (pa_nil))) (pa_cons (pe_kn G_law_places (hr.mono (by decide)) (pa_cons (pv 1) (pa_cons (pe_int) (pa_nil)))) (pa_nil))) (by rfl)) (pss_cons (ps_if (PW.pt (pw_and (pt_cmpR (r := rEqM K (eV (e3 PyData.int PyData.int PyData.int))) (op_eqM (sh_eV (sh_e3 sh_int sh_int sh_int)) (units_of hr)) (pe_ix (r := rIxT K) ix_tup (pv 2) (pe_int) (fun _ _ => rfl)) (pe_q (pe_tup (pa_nil))) (nomark _)) (pw_and (pt_cmpR op_eq (pe_kn G_law_taken (hr.mono (by decide)) (pa_cons (pv 1) (pa_cons (pe_int) (pa_nil)))) (pe_int) (nomark _)) (pw_and1 (pt_cmpR op_lt (pe_callB call_lenM (by rfl) B.len (by decide +kernel) (pa_cons (pe_ix (r := rIxT K) ix_tup (pv 2) (pe_int) (fun _ _ => rfl)) pa_nil)) (pe_int) (nomark _)))))) (pss_one (ps_q (ps_setLc (i := 4) (own := [("_law_place", 11), ("_law_mass", 12)]) (g := gTup K 2 (gCons (gName 11) (gCons (gName 12) gNil))) rfl sc_law.nd rfl rfl (sw_true rfl rfl rfl (by decide +kernel)) (pi_tup (pe_ix (r := rIxT K) ix_tup (pv 2) (pe_int) (fun _ _ => rfl))) (blkOk_by (N := ["_law_script", "_law_row", "_law_parts_here", "_law_one", "_law_places_here", "_law_reach", "_law_weights", "_law_best", "_law_at", "_law_bent", "_law_other", "_law_place", "_law_mass"]) (sc := defScope s_law) (by decide +kernel)) (fun _ _ _ _ _ => pg_tup (by rfl) (pgs_cons (pg_name (i := 11) sc_law.nd rfl (Or.inl rfl)) (pgs_cons (pg_name (i := 12) sc_law.nd rfl (Or.inl rfl)) (pgs_nil)))) (fun _ _ _ _ _ => pts_nil) (fun _ _ _ _ _ => pe_q (pe_tup (pa_cons (pv 11) (pa_cons (pe_int) (pa_nil)))))))) (pss_nil)) (pss_cons (ps_if (pt_cmpR op_eq (pe_kn G_law_taken (hr.mono (by decide)) (pa_cons (pv 1) (pa_cons (pe_int) (pa_nil)))) (pe_int) (nomark _)) (pss_cons (ps_set (i := 5) sc_law.nd rfl (Or.inl rfl) (pe_op op_add (pe_int) (pe_kn G_law_taken (hr.mono (by decide)) (pa_cons (pv 1) (pa_cons (pe_int) (pa_nil)))))) (pss_cons (ps_par (i := 2) (j := 4) (by rfl) sc_law.nd rfl rfl (by decide) rfl rfl (pa_cons (pe_q (pe_tup (pa_cons (pe_q (pe_tup (pa_cons (pe_q (pe_tup (pa_cons (pe_op op_mulM (pe_un un_neg (pe_int)) (pv 5)) (pa_cons (pe_int) (pa_nil))))) (pa_cons (pe_q (pe_tup (pa_cons (pe_int) (pa_cons (pe_int) (pa_nil))))) (pa_cons (pe_q (pe_tup (pa_cons (pe_op op_mulM (pe_int) (pv 5)) (pa_cons (pe_int) (pa_nil))))) (pa_nil)))))) (pa_cons (pe_q (pe_tup (pa_nil))) (pa_nil))))) (pa_cons (pe_q (pe_lst (pa_cons (pe_q (pe_tup (pa_cons (pe_op op_sub (pe_int) (pv 5)) (pa_cons (pe_int) (pa_nil))))) (pa_cons (pe_q (pe_tup (pa_cons (pv 5) (pa_cons (pe_int) (pa_nil))))) (pa_nil))))) (pa_nil))) (by rfl)) (pss_one (ps_set (i := 3) sc_law.nd rfl (Or.inl rfl) (pe_kn G_law_weighting (hr.mono (by decide)) (pa_cons (pv 2) (pa_nil))))))) (pss_nil)) (pss_cons (ps_set (i := 6) sc_law.nd rfl (Or.inl rfl) (pe_kn G_weights_for (hr.mono (by decide)) (pa_cons (pv 3) (pa_cons (pe_kn G_law_wide (hr.mono (by decide)) (pa_cons (pv 1) (pa_cons (pv 4) (pa_nil)))) (pa_nil))))) (pss_cons (ps_set (i := 7) sc_law.nd rfl (Or.inl rfl) (pe_kn G_law_is_all (hr.mono (by decide)) (pa_cons (pe_kn G_law_served (hr.mono (by decide)) (pa_cons (pv 2) (pa_cons (pv 4) (pa_cons (pv 6) (pa_nil))))) (pa_nil)))) (pss_cons (ps_if (PW.pt (pw_or (pt_cmpR op_ne (pe_callB call_lenM (by rfl) B.len (by decide +kernel) (pa_cons (pv 6) pa_nil)) (pe_callB call_lenM (by rfl) B.len (by decide +kernel) (pa_cons (pv 4) pa_nil)) (nomark _)) (pw_or1 (PW.pt (pw_and (pt_cmp (pc_notN (pv 7)) rfl) (pw_and1 (pt_cmpR op_lt (pv 7) (pe_op op_sub (pe_callB call_lenM (by rfl) B.len (by decide +kernel) (pa_cons (pv 4) pa_nil)) (pe_int)) (nomark _)))))))) (pss_one (ps_ret (pe_bl))) pss_nil) (pss_cons (ps_if (pt_cmpR (r := rNeM K (eO PyData.int)) (op_neM (sh_eO sh_int) (units_of hr)) (pe_kn G_best_degree (hr.mono (by decide)) (pa_cons (pv 3) (pa_cons (pe_kn G_law_wide (hr.mono (by decide)) (pa_cons (pv 1) (pa_cons (pv 4) (pa_nil)))) (pa_nil)))) (pv 7) (nomark _)) (pss_one (ps_ret (pe_bl))) pss_nil) (pss_cons (ps_if (pt_cmpR (r := rNeM K (eO PyData.int)) (op_neM (sh_eO sh_int) (units_of hr)) (pe_kn G_served (hr.mono (by decide)) (pa_cons (pv 3) (pa_cons (pe_q (pe_callTy call_tuple_of (by rfl) B.tuple (by decide +kernel) (pa_cons (pv 4) pa_nil))) (pa_cons (pv 6) (pa_nil))))) (pv 7) (nomark _)) (pss_one (ps_ret (pe_bl))) pss_nil) (pss_cons (ps_set (i := 8) sc_law.nd rfl (Or.inl rfl) (pe_kn G_law_taken (hr.mono (by decide)) (pa_cons (pv 1) (pa_cons (pe_callB call_lenM (by rfl) B.len (by decide +kernel) (pa_cons (pv 4) pa_nil)) (pa_nil))))) (pss_cons (ps_set (i := 9) sc_law.nd rfl (Or.inl rfl) (pe_q (pe_op op_catM (pe_q (pe_op op_catM (pe_q (pe_slice sl_tupM (pv 6) po_none (po_some (pv 8)))) (pe_q (pe_tup (pa_cons (pe_kn G_law_add (hr.mono (by decide)) (pa_cons (pe_ix (r := rIxT K) ix_tup (pv 6) (pv 8) (fun _ _ => rfl)) (pa_cons (pe_q (pe_tup (pa_cons (pe_int) (pa_cons (pe_op op_add (pe_int) (pe_kn G_law_taken (hr.mono (by decide)) (pa_cons (pv 1) (pa_cons (pe_int) (pa_nil))))) (pa_nil))))) (pa_nil)))) (pa_nil)))))) (pe_q (pe_slice sl_tupM (pv 6) (po_some (pe_op op_add (pv 8) (pe_int))) po_none))))) (pss_cons (ps_if (pt_cmpR (r := rNeM K (eO PyData.int)) (op_neM (sh_eO sh_int) (units_of hr)) (pe_kn G_served (hr.mono (by decide)) (pa_cons (pv 3) (pa_cons (pe_q (pe_callTy call_tuple_of (by rfl) B.tuple (by decide +kernel) (pa_cons (pv 4) pa_nil))) (pa_cons (pe_kn G_law_wide_v (hr.mono (by decide)) (pa_cons (pv 1) (pa_cons (pv 9) (pa_nil)))) (pa_nil))))) (pe_un un_neg (pe_int)) (nomark _)) (pss_one (ps_ret (pe_bl))) pss_nil) (pss_cons (ps_if (pt_cmpR op_lt (pe_callB call_lenM (by rfl) B.len (by decide +kernel) (pa_cons (pv 4) pa_nil)) (pe_int) (nomark _)) (pss_one (ps_ret (pe_bl))) pss_nil) (pss_cons (ps_set (i := 10) sc_law.nd rfl (Or.inl rfl) (pe_op op_modM (pe_op op_add (pv 8) (pe_int)) (pe_callB call_lenM (by rfl) B.len (by decide +kernel) (pa_cons (pv 4) pa_nil)))) (pss_cons (ps_set (i := 9) sc_law.nd rfl (Or.inl rfl) (pe_q (pe_callTy call_list_of (by rfl) B.list (by decide +kernel) (pa_cons (pv 6) pa_nil)))) (pss_cons (ps_asg (pe_q (pe_tup (pa_cons (pe_kn G_law_add (hr.mono (by decide)) (pa_cons (pe_ix (r := rIxL K) ix_list (pv 9) (pv 8) (fun _ _ => rfl)) (pa_cons (pe_q (pe_tup (pa_cons (pe_int) (pa_cons (pe_int) (pa_nil))))) (pa_nil)))) (pa_cons (pe_kn G_law_add (hr.mono (by decide)) (pa_cons (pe_ix (r := rIxL K) ix_list (pv 9) (pv 10) (fun _ _ => rfl)) (pa_cons (pe_q (pe_tup (pa_cons (pe_un un_neg (pe_int)) (pa_cons (pe_int) (pa_nil))))) (pa_nil)))) (pa_nil))))) (pg_tup (by rfl) (pgs_cons (pg_sub (pv 9) (pv 8) set_list) (pgs_cons (pg_sub (pv 9) (pv 10) set_list) (pgs_nil))))) (pss_one (ps_ret (pe_cmpR (r := rEqM K (eO PyData.int)) (op_eqM (sh_eO sh_int) (units_of hr)) (pe_kn G_served (hr.mono (by decide)) (pa_cons (pv 3) (pa_cons (pe_q (pe_callTy call_tuple_of (by rfl) B.tuple (by decide +kernel) (pa_cons (pv 4) pa_nil))) (pa_cons (pe_q (pe_callTy call_tuple_of (by rfl) B.tuple (by decide +kernel) (pa_cons (pv 9) pa_nil))) (pa_nil))))) (pe_kn G_law_is_all (hr.mono (by decide)) (pa_cons (pe_kn G_law_served_l (hr.mono (by decide)) (pa_cons (pv 2) (pa_cons (pv 4) (pa_cons (pv 9) (pa_nil))))) (pa_nil))) (nomark _))))))))))))))))))))), ?_⟩
    refine ⟨_, rfl, ?_⟩
    show _ ∧ _
    refine new_row hs fun ra H0 e w => ?_
    have g_ := Gm.refl (M := [ra]) e
    refine ⟨_, rfl, ?_⟩
    refine ⟨H, sc, ra, scr, (Rw.mk 0 0 0), rfl, e, w, (post_bd k).mono (fun b1 k v6 F2 H3 g4 ⟨r5, w7⟩ => ?_) (fun _ z => z)⟩
    have eF2 := g4.s
    have gF2 := g_.trans (g4.weak (by simp))
    refine ⟨_, rfl, ?_⟩
    refine ⟨F2, _, b1.1, rfl, eF2, r5, (post_bd k).mono (fun b8 k v13 F9 H10 g11 r12 => ?_) (fun _ z => z)⟩
    have eF9 := g11.s
    have gF9 := gF2.trans (g11.weak (by simp))
    replace w7 := w7.keep g11
    replace r5 := r5.up g11.f
    refine ⟨_, rfl, ?_⟩
    refine ⟨F9, sc, ra, scr, b1.2, (5 : Int), rfl, eF9, w7, (post_bd k).mono (fun b15 k v20 F16 H17 g18 ⟨r19, w21⟩ => ?_) (fun _ z => z)⟩
    have eF16 := g18.s
    have gF16 := gF9.trans (g18.weak (by simp))
    replace r5 := r5.up g18.f
    replace r12 := r12.up g18.f
    refine ⟨_, _, rfl, ?_⟩
    refine ⟨_, rfl, ?_⟩
    obtain ⟨p22, x23, x24, rfl, s25, d26, d27⟩ := dp_tup2 r5
    refine ⟨_, _, _, _, rfl, rfl, ex_t eF16 s25, rfl, ?_⟩
    show _ ∧ _
    refine new_tup (K := K) (M := []) eF16 .nil (by show 0 ≤ 100000; decide) fun v32 F28 H29 g30 r31 => ?_
    have eF28 := g30.s
    have gF28 := gF16.trans (g30.weak (by simp))
    replace r5 := r5.up g30.f
    replace r12 := r12.up g30.f
    replace w21 := w21.keep g30
    replace r19 := r19.up g30.f
    replace s25 := ex_t g30.f s25
    replace d26 := d26.up g30.f
    replace d27 := d27.up g30.f
    replace r31 : Dq K F28 v32 (eV (e3 PyData.int PyData.int PyData.int) []) := r31
    refine ⟨b1.1.2, [], d27.dp eF28, r31.dp eF28, ?_⟩
    refine ⟨_, rfl, ?_⟩
    refine and_jS (M := [ra]) (fun st' F' H' => RowAt K sc ra scr F' H' st') eF28 w21 k (fun _ Q' ktb33 => ?_) (fun b33 F34 H35 g36 w37 k => ?_)
    · have gF28_ := Gm.refl (M := [ra]) eF28
      refine ⟨_, rfl, ?_⟩
      refine ⟨F28, sc, ra, scr, b15.2, (2 : Int), rfl, eF28, w21, (post_bd ktb33).mono (fun b38 ktb33 v43 F39 H40 g41 ⟨r42, w44⟩ => ?_) (fun _ z => z)⟩
      have eF39 := g41.s
      have gF39 := gF28_.trans (g41.weak (by simp))
      replace r5 := r5.up g41.f
      replace r12 := r12.up g41.f
      replace r19 := r19.up g41.f
      replace s25 := ex_t g41.f s25
      replace d26 := d26.up g41.f
      replace d27 := d27.up g41.f
      replace r31 := r31.up g41.f
      subst r42
      refine ⟨rfl, ?_⟩
      rw [decV_int]
      refine ⟨_, rfl, ?_⟩
      refine and_jM (M := []) eF39 ktb33 (fun _ Q' ktb33tb45 => ?_) (fun b45 F46 H47 g48 ktb33 => ?_)
      · have gF39_ := Gm.refl (M := []) eF39
        refine ⟨_, rfl, ?_⟩
        refine ⟨_, _, _, _, rfl, rfl, ex_t eF39 s25, rfl, ?_⟩
        obtain ⟨p49, xs50, rfl, s51, a52⟩ := dp_tup d26
        refine ⟨_, _, _, rfl, .inr (ex_t eF39 s51), len_all a52, _, _, rfl, rfl, _, rfl, ?_⟩
        exact ktb33tb45.h _ _ gF39_
      have eF46 := g48.s
      have gF46 := gF39.trans (g48.weak (by simp))
      replace r5 := r5.up g48.f
      replace r12 := r12.up g48.f
      replace r19 := r19.up g48.f
      replace s25 := ex_t g48.f s25
      replace d26 := d26.up g48.f
      replace d27 := d27.up g48.f
      replace r31 := r31.up g48.f
      replace w44 := w44.keep g48
      exact ktb33.h _ _ gF46 w44
    have eF34 := g36.s
    have gF34 := gF28.trans (g36.weak (by simp))
    replace r5 := r5.up g36.f
    replace r12 := r12.up g36.f
    replace r19 := r19.up g36.f
    replace s25 := ex_t g36.f s25
    replace d26 := d26.up g36.f
    replace d27 := d27.up g36.f
    replace r31 := r31.up g36.f
    refine ifs_jM (M := [ra]) (F := F34) (fun b53 F' H' σ' => ∃ (c4 : V) (u5 : Option V) (u6 : Option V) (u7 : Option V) (u8 : Option V) (u9 : Option V) (u10 : Option V) (u11 : Option V) (u12 : Option V), σ' = [some (V.ref sc), some (V.ref ra), some (V.ref p22), some v13, some c4, u5, u6, u7, u8, u9, u10, u11, u12] ∧ Dq K F' c4 ((eL (e2 PyData.int PyData.int)) b53.1) ∧ RowAt K sc ra scr F' H' b53.2) k (fun _ nx kjb53 => ?_) (fun _ nx kjb53 => ?_) (fun b53 σ57 F54 H55 g56 i58 k => ?_)
    · have gF34_ := Gm.refl (M := [ra]) eF34
      refine ⟨_, rfl, ?_⟩
      refine ⟨_, _, _, _, rfl, rfl, ex_t eF34 s25, rfl, ?_⟩
      obtain ⟨p59, xs60, rfl, s61, a62⟩ := dp_tup d26
      refine ⟨_, rfl, ⟨_, (ex_t eF34 s61)⟩, ?_⟩
      obtain ⟨h82, kjb53⟩ := post_guard kjb53
      refine lc_map (K := K) (M := []) (wlk_tup eF34 s61 a62) (e2 PyData.int PyData.int) kjb53 eF34 h82 (fun _ _ => by simp) (fun x65 v80 F73 H74 F75 H76 g77 g78 r79 Q' k63 => ?_) (fun _ z => z) (fun b64 v66 F67 H68 g69 r70 kjb53 => ?_) (gm_tup (gms_cons gm_name (gms_cons gm_name gms_nil)))
      · have g83 := Gm.refl (M := []) g77.s
        replace r5 := r5.up g77.f
        replace r12 := r12.up g77.f
        replace r19 := r19.up g77.f
        replace s25 := ex_t g77.f s25
        replace d26 := d26.up g77.f
        replace d27 := d27.up g77.f
        replace r31 := r31.up g77.f
        replace w37 := w37.keep g77
        replace s61 := ex_t g77.f s61
        replace a62 := a62.up g77.f
        replace r5 := r5.up g78.f
        replace r12 := r12.up g78.f
        replace r19 := r19.up g78.f
        replace s25 := ex_t g78.f s25
        replace d26 := d26.up g78.f
        replace d27 := d27.up g78.f
        replace r31 := r31.up g78.f
        replace w37 := w37.keep g78
        replace s61 := ex_t g78.f s61
        replace a62 := a62.up g78.f
        have eF75 := g78.s
        have gF75 := g83.trans (g78.weak (by simp))
        obtain ⟨p84, x85, x86, rfl, s87, d88, d89⟩ := dp_tup2 r79
        obtain rfl := dp_int d88
        obtain rfl := dp_int d89
        refine ⟨_, _, rfl, ex_t eF75 s87, rfl, _, _, rfl, _, _, rfl, rfl, rfl, _, rfl, ?_⟩
        show _ ∧ _
        refine new_tup (K := K) (M := []) eF75 (.cons (Dq.int x65.1) (.cons (Dq.int (1 : Int)) .nil)) (by show 2 ≤ 100000; decide) fun v94 F90 H91 g92 r93 => ?_
        have eF90 := g92.s
        have gF90 := gF75.trans (g92.weak (by simp))
        replace r5 := r5.up g92.f
        replace r12 := r12.up g92.f
        replace r19 := r19.up g92.f
        replace s25 := ex_t g92.f s25
        replace d26 := d26.up g92.f
        replace d27 := d27.up g92.f
        replace r31 := r31.up g92.f
        replace w37 := w37.keep g92
        replace s61 := ex_t g92.f s61
        replace a62 := a62.up g92.f
        replace r79 := r79.up g92.f
        replace s87 := ex_t g92.f s87
        replace r93 : Dq K F90 v94 ((e2 PyData.int PyData.int) (x65.1, (1 : Int))) := r93
        exact k63.h _ _ _ gF90 r93
      have eF67 := g69.s
      have gF67 := gF34_.trans (g69.weak (by simp))
      replace r5 := r5.up g69.f
      replace r12 := r12.up g69.f
      replace r19 := r19.up g69.f
      replace s25 := ex_t g69.f s25
      replace d26 := d26.up g69.f
      replace d27 := d27.up g69.f
      replace r31 := r31.up g69.f
      replace w37 := w37.keep g69
      replace s61 := ex_t g69.f s61
      replace a62 := a62.up g69.f
      exact kjb53.h _ _ _ gF67 ⟨_, _, _, _, _, _, _, _, _, rfl, r70, w37⟩
    · have gF34_ := Gm.refl (M := [ra]) eF34
      exact kjb53.h _ _ _ gF34_ ⟨_, _, _, _, _, _, _, _, _, rfl, r19, w37⟩
    have g96 := gF34.trans (g56.weak (by simp))
    replace r5 := r5.up g56.f
    replace r12 := r12.up g56.f
    replace r19 := r19.up g56.f
    replace s25 := ex_t g56.f s25
    replace d26 := d26.up g56.f
    replace d27 := d27.up g56.f
    replace r31 := r31.up g56.f
    have eF54 := g56.s
    obtain ⟨c97, u98, u99, u100, u101, u102, u103, u104, u105, rfl, r106, w107⟩ := i58
    refine ⟨_, rfl, ?_⟩
    refine ⟨F54, sc, ra, scr, b53.2, (5 : Int), rfl, eF54, w107, (post_bd k).mono (fun b108 k v113 F109 H110 g111 ⟨r112, w114⟩ => ?_) (fun _ z => z)⟩
    have eF109 := g111.s
    have gF109 := g96.trans (g111.weak (by simp))
    replace r5 := r5.up g111.f
    replace r12 := r12.up g111.f
    replace s25 := ex_t g111.f s25
    replace d26 := d26.up g111.f
    replace d27 := d27.up g111.f
    replace r31 := r31.up g111.f
    replace r106 := r106.up g111.f
    subst r112
    refine ⟨rfl, ?_⟩
    rw [decV_int]
    refine ⟨_, rfl, ?_⟩
    refine ifs_jM (M := [ra]) (F := F109) (fun b115 F' H' σ' => ∃ (c2 : V) (c3 : V) (c4 : V) (u5 : Option V) (u6 : Option V) (u7 : Option V) (u8 : Option V) (u9 : Option V) (u10 : Option V) (u11 : Option V) (u12 : Option V), σ' = [some (V.ref sc), some (V.ref ra), some c2, some c3, some c4, u5, u6, u7, u8, u9, u10, u11, u12] ∧ Dq K F' c2 ((e2 (eV (e2 PyData.int PyData.int)) (eV (e3 PyData.int PyData.int PyData.int))) b115.1) ∧ IsW K C F' c3 b115.2.2.1 ∧ Dq K F' c4 ((eL (e2 PyData.int PyData.int)) b115.2.1) ∧ RowAt K sc ra scr F' H' b115.2.2.2) k (fun _ nx kjb115 => ?_) (fun _ nx kjb115 => ?_) (fun b115 σ119 F116 H117 g118 i120 k => ?_)
    · have gF109_ := Gm.refl (M := [ra]) eF109
      refine ⟨_, rfl, ?_⟩
      refine ⟨F109, sc, ra, scr, b108.2, (9 : Int), rfl, eF109, w114, (post_bd kjb115).mono (fun b121 kjb115 v126 F122 H123 g124 ⟨r125, w127⟩ => ?_) (fun _ z => z)⟩
      have eF122 := g124.s
      have gF122 := gF109_.trans (g124.weak (by simp))
      replace r5 := r5.up g124.f
      replace r12 := r12.up g124.f
      replace s25 := ex_t g124.f s25
      replace d26 := d26.up g124.f
      replace d27 := d27.up g124.f
      replace r31 := r31.up g124.f
      replace r106 := r106.up g124.f
      subst r125
      refine ⟨_, _, rfl, rfl, ?_⟩
      refine ⟨_, rfl, _, rfl, ?_⟩
      obtain ⟨m128, c129, q130, kjb115⟩ := post_mul kjb115
      refine ⟨_, _, _, rfl, rfl, c129, q130, ?_⟩
      show _ ∧ _
      refine new_tup (K := K) (M := []) eF122 (.cons (Dq.int m128) (.cons (Dq.int (1 : Int)) .nil)) (by show 2 ≤ 100000; decide) fun v135 F131 H132 g133 r134 => ?_
      have eF131 := g133.s
      have gF131 := gF122.trans (g133.weak (by simp))
      replace r5 := r5.up g133.f
      replace r12 := r12.up g133.f
      replace s25 := ex_t g133.f s25
      replace d26 := d26.up g133.f
      replace d27 := d27.up g133.f
      replace r31 := r31.up g133.f
      replace r106 := r106.up g133.f
      replace w127 := w127.keep g133
      replace r134 : Dq K F131 v135 ((e2 PyData.int PyData.int) (m128, (1 : Int))) := r134
      show _ ∧ _
      refine new_tup (K := K) (M := []) eF131 (.cons (Dq.int (0 : Int)) (.cons (Dq.int (6 : Int)) .nil)) (by show 2 ≤ 100000; decide) fun v140 F136 H137 g138 r139 => ?_
      have eF136 := g138.s
      have gF136 := gF131.trans (g138.weak (by simp))
      replace r5 := r5.up g138.f
      replace r12 := r12.up g138.f
      replace s25 := ex_t g138.f s25
      replace d26 := d26.up g138.f
      replace d27 := d27.up g138.f
      replace r31 := r31.up g138.f
      replace r106 := r106.up g138.f
      replace w127 := w127.keep g138
      replace r134 := r134.up g138.f
      replace r139 : Dq K F136 v140 ((e2 PyData.int PyData.int) ((0 : Int), (6 : Int))) := r139
      refine ⟨_, rfl, ?_⟩
      obtain ⟨m141, c142, q143, kjb115⟩ := post_mul kjb115
      refine ⟨_, _, _, rfl, rfl, c142, q143, ?_⟩
      show _ ∧ _
      refine new_tup (K := K) (M := []) eF136 (.cons (Dq.int m141) (.cons (Dq.int (1 : Int)) .nil)) (by show 2 ≤ 100000; decide) fun v148 F144 H145 g146 r147 => ?_
      have eF144 := g146.s
      have gF144 := gF136.trans (g146.weak (by simp))
      replace r5 := r5.up g146.f
      replace r12 := r12.up g146.f
      replace s25 := ex_t g146.f s25
      replace d26 := d26.up g146.f
      replace d27 := d27.up g146.f
      replace r31 := r31.up g146.f
      replace r106 := r106.up g146.f
      replace w127 := w127.keep g146
      replace r134 := r134.up g146.f
      replace r139 := r139.up g146.f
      replace r147 : Dq K F144 v148 ((e2 PyData.int PyData.int) (m141, (1 : Int))) := r147
      show _ ∧ _
      refine new_tup (K := K) (M := []) eF144 (.cons r134 (.cons r139 (.cons r147 .nil))) (by show 3 ≤ 100000; decide) fun v153 F149 H150 g151 r152 => ?_
      have eF149 := g151.s
      have gF149 := gF144.trans (g151.weak (by simp))
      replace r5 := r5.up g151.f
      replace r12 := r12.up g151.f
      replace s25 := ex_t g151.f s25
      replace d26 := d26.up g151.f
      replace d27 := d27.up g151.f
      replace r31 := r31.up g151.f
      replace r106 := r106.up g151.f
      replace w127 := w127.keep g151
      replace r134 := r134.up g151.f
      replace r139 := r139.up g151.f
      replace r147 := r147.up g151.f
      replace r152 : Dq K F149 v153 ((eV (e2 PyData.int PyData.int)) [(m128, (1 : Int)), ((0 : Int), (6 : Int)), (m141, (1 : Int))]) := r152
      show _ ∧ _
      refine new_tup (K := K) (M := []) eF149 .nil (by show 0 ≤ 100000; decide) fun v158 F154 H155 g156 r157 => ?_
      have eF154 := g156.s
      have gF154 := gF149.trans (g156.weak (by simp))
      replace r5 := r5.up g156.f
      replace r12 := r12.up g156.f
      replace s25 := ex_t g156.f s25
      replace d26 := d26.up g156.f
      replace d27 := d27.up g156.f
      replace r31 := r31.up g156.f
      replace r106 := r106.up g156.f
      replace w127 := w127.keep g156
      replace r134 := r134.up g156.f
      replace r139 := r139.up g156.f
      replace r147 := r147.up g156.f
      replace r152 := r152.up g156.f
      replace r157 : Dq K F154 v158 (eV (e3 PyData.int PyData.int PyData.int) []) := r157
      show _ ∧ _
      refine new_tup (K := K) (M := []) eF154 (.cons r152 (.cons r157 .nil)) (by show 2 ≤ 100000; decide) fun v163 F159 H160 g161 r162 => ?_
      have eF159 := g161.s
      have gF159 := gF154.trans (g161.weak (by simp))
      replace r5 := r5.up g161.f
      replace r12 := r12.up g161.f
      replace s25 := ex_t g161.f s25
      replace d26 := d26.up g161.f
      replace d27 := d27.up g161.f
      replace r31 := r31.up g161.f
      replace r106 := r106.up g161.f
      replace w127 := w127.keep g161
      replace r134 := r134.up g161.f
      replace r139 := r139.up g161.f
      replace r147 := r147.up g161.f
      replace r152 := r152.up g161.f
      replace r157 := r157.up g161.f
      replace r162 : Dq K F159 v163 ((e2 (eV (e2 PyData.int PyData.int)) (eV (e3 PyData.int PyData.int PyData.int))) ([(m128, (1 : Int)), ((0 : Int), (6 : Int)), (m141, (1 : Int))], [])) := r162
      refine ⟨_, rfl, _, _, rfl, rfl, ?_⟩
      show _ ∧ _
      refine new_tup (K := K) (M := []) eF159 (.cons (Dq.int ((0 : Int) - ((1 : Int) + b121.1))) (.cons (Dq.int (1 : Int)) .nil)) (by show 2 ≤ 100000; decide) fun v168 F164 H165 g166 r167 => ?_
      have eF164 := g166.s
      have gF164 := gF159.trans (g166.weak (by simp))
      replace r5 := r5.up g166.f
      replace r12 := r12.up g166.f
      replace s25 := ex_t g166.f s25
      replace d26 := d26.up g166.f
      replace d27 := d27.up g166.f
      replace r31 := r31.up g166.f
      replace r106 := r106.up g166.f
      replace w127 := w127.keep g166
      replace r134 := r134.up g166.f
      replace r139 := r139.up g166.f
      replace r147 := r147.up g166.f
      replace r152 := r152.up g166.f
      replace r157 := r157.up g166.f
      replace r162 := r162.up g166.f
      replace r167 : Dq K F164 v168 ((e2 PyData.int PyData.int) (((0 : Int) - ((1 : Int) + b121.1)), (1 : Int))) := r167
      refine ⟨_, rfl, ?_⟩
      show _ ∧ _
      refine new_tup (K := K) (M := []) eF164 (.cons (Dq.int ((1 : Int) + b121.1)) (.cons (Dq.int (1 : Int)) .nil)) (by show 2 ≤ 100000; decide) fun v173 F169 H170 g171 r172 => ?_
      have eF169 := g171.s
      have gF169 := gF164.trans (g171.weak (by simp))
      replace r5 := r5.up g171.f
      replace r12 := r12.up g171.f
      replace s25 := ex_t g171.f s25
      replace d26 := d26.up g171.f
      replace d27 := d27.up g171.f
      replace r31 := r31.up g171.f
      replace r106 := r106.up g171.f
      replace w127 := w127.keep g171
      replace r134 := r134.up g171.f
      replace r139 := r139.up g171.f
      replace r147 := r147.up g171.f
      replace r152 := r152.up g171.f
      replace r157 := r157.up g171.f
      replace r162 := r162.up g171.f
      replace r167 := r167.up g171.f
      replace r172 : Dq K F169 v173 ((e2 PyData.int PyData.int) (((1 : Int) + b121.1), (1 : Int))) := r172
      show _ ∧ _
      refine new_lst (K := K) (M := []) eF169 (.cons r167 (.cons r172 .nil)) (by show 2 ≤ 100000; decide) fun v178 F174 H175 g176 r177 => ?_
      have eF174 := g176.s
      have gF174 := gF169.trans (g176.weak (by simp))
      replace r5 := r5.up g176.f
      replace r12 := r12.up g176.f
      replace s25 := ex_t g176.f s25
      replace d26 := d26.up g176.f
      replace d27 := d27.up g176.f
      replace r31 := r31.up g176.f
      replace r106 := r106.up g176.f
      replace w127 := w127.keep g176
      replace r134 := r134.up g176.f
      replace r139 := r139.up g176.f
      replace r147 := r147.up g176.f
      replace r152 := r152.up g176.f
      replace r157 := r157.up g176.f
      replace r162 := r162.up g176.f
      replace r167 := r167.up g176.f
      replace r172 := r172.up g176.f
      replace r177 : Dq K F174 v178 ((eL (e2 PyData.int PyData.int)) [(((0 : Int) - ((1 : Int) + b121.1)), (1 : Int)), (((1 : Int) + b121.1), (1 : Int))]) := r177
      refine ⟨_, _, rfl, ?_⟩
      refine ⟨_, rfl, ?_⟩
      refine ⟨F174, _, ([(m128, (1 : Int)), ((0 : Int), (6 : Int)), (m141, (1 : Int))], []), rfl, eF174, r162, (post_bd kjb115).mono (fun b179 kjb115 v184 F180 H181 g182 r183 => ?_) (fun _ z => z)⟩
      have eF180 := g182.s
      have gF180 := gF174.trans (g182.weak (by simp))
      replace r5 := r5.up g182.f
      replace r12 := r12.up g182.f
      replace s25 := ex_t g182.f s25
      replace d26 := d26.up g182.f
      replace d27 := d27.up g182.f
      replace r31 := r31.up g182.f
      replace r106 := r106.up g182.f
      replace w127 := w127.keep g182
      replace r134 := r134.up g182.f
      replace r139 := r139.up g182.f
      replace r147 := r147.up g182.f
      replace r152 := r152.up g182.f
      replace r157 := r157.up g182.f
      replace r162 := r162.up g182.f
      replace r167 := r167.up g182.f
      replace r172 := r172.up g182.f
      replace r177 := r177.up g182.f
      exact kjb115.h _ _ _ gF180 ⟨_, _, _, _, _, _, _, _, _, _, _, rfl, r162, r183, r177, w127⟩
    · have gF109_ := Gm.refl (M := [ra]) eF109
      exact kjb115.h _ _ _ gF109_ ⟨_, _, _, _, _, _, _, _, _, _, _, rfl, r5, r12, r106, w114⟩
    have g186 := gF109.trans (g118.weak (by simp))
    replace r5 := r5.up g118.f
    replace r12 := r12.up g118.f
    replace s25 := ex_t g118.f s25
    replace d26 := d26.up g118.f
    replace d27 := d27.up g118.f
    replace r31 := r31.up g118.f
    replace r106 := r106.up g118.f
    have eF116 := g118.s
    obtain ⟨c187, c188, c189, u190, u191, u192, u193, u194, u195, u196, u197, rfl, r198, r199, r200, w201⟩ := i120
    refine ⟨_, rfl, _, rfl, _, rfl, ?_⟩
    refine ⟨F116, sc, ra, scr, b115.2.2.2, _, b115.2.1, rfl, eF116, w201, r200, (post_bd k).mono (fun b202 k v207 F203 H204 g205 ⟨r206, w208⟩ => ?_) (fun _ z => z)⟩
    have eF203 := g205.s
    have gF203 := g186.trans (g205.weak (by simp))
    replace s25 := ex_t g205.f s25
    replace d26 := d26.up g205.f
    replace d27 := d27.up g205.f
    replace r31 := r31.up g205.f
    replace r198 := r198.up g205.f
    replace r199 := r199.up g205.f
    replace r200 := r200.up g205.f
    refine ⟨F203, _, b115.2.2.1, _, b202.1, rfl, eF203, r199, r206, (post_bd k).mono (fun b209 k v214 F210 H211 g212 r213 => ?_) (fun _ z => z)⟩
    have eF210 := g212.s
    have gF210 := gF203.trans (g212.weak (by simp))
    replace s25 := ex_t g212.f s25
    replace d26 := d26.up g212.f
    replace d27 := d27.up g212.f
    replace r31 := r31.up g212.f
    replace r198 := r198.up g212.f
    replace r199 := r199.up g212.f
    replace r200 := r200.up g212.f
    replace w208 := w208.keep g212
    replace r206 := r206.up g212.f
    refine ⟨_, rfl, _, rfl, _, rfl, ?_⟩
    refine ⟨F210, _, b115.1, _, b115.2.1, _, b209, rfl, eF210, r198, r200, r213, (post_bd k).mono (fun b216 k v221 F217 H218 g219 r220 => ?_) (fun _ z => z)⟩
    have eF217 := g219.s
    have gF217 := gF210.trans (g219.weak (by simp))
    replace s25 := ex_t g219.f s25
    replace d26 := d26.up g219.f
    replace d27 := d27.up g219.f
    replace r31 := r31.up g219.f
    replace r198 := r198.up g219.f
    replace r199 := r199.up g219.f
    replace r200 := r200.up g219.f
    replace w208 := w208.keep g219
    replace r206 := r206.up g219.f
    replace r213 := r213.up g219.f
    subst r220
    refine ⟨F217, b216, rfl, eF217, (post_bd k).mono (fun b223 k v228 F224 H225 g226 r227 => ?_) (fun _ z => z)⟩
    have eF224 := g226.s
    have gF224 := gF217.trans (g226.weak (by simp))
    replace s25 := ex_t g226.f s25
    replace d26 := d26.up g226.f
    replace d27 := d27.up g226.f
    replace r31 := r31.up g226.f
    replace r198 := r198.up g226.f
    replace r199 := r199.up g226.f
    replace r200 := r200.up g226.f
    replace w208 := w208.keep g226
    replace r206 := r206.up g226.f
    replace r213 := r213.up g226.f
    refine ⟨_, rfl, ?_⟩
    obtain ⟨p230, xs231, rfl, s232, a233⟩ := dp_tup r213
    refine ⟨_, _, _, rfl, .inr (ex_t eF224 s232), len_all a233, _, rfl, ?_⟩
    obtain ⟨p234, xs235, rfl, s236, a237⟩ := dp_lst r200
    refine ⟨_, _, _, rfl, .inl (sq_of (eF224 _ _ s236)), len_all a237, rfl, ?_⟩
    rw [decV_int]
    refine ⟨_, rfl, ?_⟩
    refine or_jM (M := []) eF224 k (fun _ Q' ktb238 => ?_) (fun b238 F239 H240 g241 k => ?_)
    · have gF224_ := Gm.refl (M := []) eF224
      refine ⟨_, rfl, _, rfl, ?_⟩
      rw [none_O r227]
      refine and_jM (M := []) eF224 ktb238 (fun _ Q' ktb238tb242 => ?_) (fun b242 F243 H244 g245 ktb238 => ?_)
      · have gF224_ := Gm.refl (M := []) eF224
        obtain ⟨a246, h247, ktb238tb242⟩ := post_getO ktb238tb242
        have qa246 := dq_some r227 h247
        obtain rfl := dp_int qa246
        refine ⟨_, rfl, _, rfl, ?_⟩
        refine ⟨_, _, _, rfl, .inl (sq_of (eF224 _ _ s236)), len_all a237, _, _, rfl, rfl, _, _, rfl, rfl, _, rfl, ?_⟩
        exact ktb238tb242.h _ _ gF224_
      have eF243 := g245.s
      have gF243 := gF224_.trans (g245.weak (by simp))
      replace s25 := ex_t g245.f s25
      replace d26 := d26.up g245.f
      replace d27 := d27.up g245.f
      replace r31 := r31.up g245.f
      replace r198 := r198.up g245.f
      replace r199 := r199.up g245.f
      replace r200 := r200.up g245.f
      replace w208 := w208.keep g245
      replace r206 := r206.up g245.f
      replace r213 := r213.up g245.f
      replace r227 := r227.up g245.f
      replace s232 := ex_t g245.f s232
      replace a233 := a233.up g245.f
      replace s236 := g245.f _ _ s236
      replace a237 := a237.up g245.f
      exact ktb238.h _ _ gF243
    have eF239 := g241.s
    have gF239 := gF224.trans (g241.weak (by simp))
    replace s25 := ex_t g241.f s25
    replace d26 := d26.up g241.f
    replace d27 := d27.up g241.f
    replace r31 := r31.up g241.f
    replace r198 := r198.up g241.f
    replace r199 := r199.up g241.f
    replace r200 := r200.up g241.f
    replace w208 := w208.keep g241
    replace r206 := r206.up g241.f
    replace r213 := r213.up g241.f
    replace r227 := r227.up g241.f
    replace s232 := ex_t g241.f s232
    replace a233 := a233.up g241.f
    replace s236 := g241.f _ _ s236
    replace a237 := a237.up g241.f
    refine cs k (fun _ k => ?_) (fun _ k => ?_)
    · exact k.h _
    · refine ⟨_, rfl, _, rfl, _, rfl, ?_⟩
      refine ⟨F239, sc, ra, scr, b202.2, _, b115.2.1, rfl, eF239, w208, r200, (post_bd k).mono (fun b248 k v253 F249 H250 g251 ⟨r252, w254⟩ => ?_) (fun _ z => z)⟩
      have eF249 := g251.s
      have gF249 := gF239.trans (g251.weak (by simp))
      replace s25 := ex_t g251.f s25
      replace d26 := d26.up g251.f
      replace d27 := d27.up g251.f
      replace r31 := r31.up g251.f
      replace r198 := r198.up g251.f
      replace r199 := r199.up g251.f
      replace r200 := r200.up g251.f
      replace r206 := r206.up g251.f
      replace r213 := r213.up g251.f
      replace r227 := r227.up g251.f
      replace s232 := ex_t g251.f s232
      replace a233 := a233.up g251.f
      replace s236 := g251.f _ _ s236
      replace a237 := a237.up g251.f
      refine ⟨F249, _, b115.2.2.1, _, b248.1, rfl, eF249, r199, r252, (post_bd k).mono (fun b255 k v260 F256 H257 g258 r259 => ?_) (fun _ z => z)⟩
      have eF256 := g258.s
      have gF256 := gF249.trans (g258.weak (by simp))
      replace s25 := ex_t g258.f s25
      replace d26 := d26.up g258.f
      replace d27 := d27.up g258.f
      replace r31 := r31.up g258.f
      replace r198 := r198.up g258.f
      replace r199 := r199.up g258.f
      replace r200 := r200.up g258.f
      replace r206 := r206.up g258.f
      replace r213 := r213.up g258.f
      replace r227 := r227.up g258.f
      replace s232 := ex_t g258.f s232
      replace a233 := a233.up g258.f
      replace s236 := g258.f _ _ s236
      replace a237 := a237.up g258.f
      replace w254 := w254.keep g258
      replace r252 := r252.up g258.f
      refine ⟨_, rfl, b255, b223, r259.dp eF256, r227.dp eF256, ?_⟩
      refine ⟨_, rfl, ?_⟩
      refine cs k (fun _ k => ?_) (fun _ k => ?_)
      · exact k.h _
      · refine ⟨_, rfl, _, rfl, ?_⟩
        refine to_VL (K := K) (M := []) eF256 s236 a237 (en := (e2 PyData.int PyData.int)) (l := b115.2.1) fun v266 F262 H263 g264 r265 => ?_
        have eF262 := g264.s
        have gF262 := gF256.trans (g264.weak (by simp))
        replace s25 := ex_t g264.f s25
        replace d26 := d26.up g264.f
        replace d27 := d27.up g264.f
        replace r31 := r31.up g264.f
        replace r198 := r198.up g264.f
        replace r199 := r199.up g264.f
        replace r200 := r200.up g264.f
        replace r206 := r206.up g264.f
        replace r213 := r213.up g264.f
        replace r227 := r227.up g264.f
        replace s232 := ex_t g264.f s232
        replace a233 := a233.up g264.f
        replace s236 := g264.f _ _ s236
        replace a237 := a237.up g264.f
        replace w254 := w254.keep g264
        replace r252 := r252.up g264.f
        replace r259 := r259.up g264.f
        refine ⟨_, rfl, ?_⟩
        refine ⟨F262, _, b115.2.2.1, _, b115.2.1, _, b209, rfl, eF262, r199, r265, r213, (post_bd k).mono (fun b267 k v272 F268 H269 g270 r271 => ?_) (fun _ z => z)⟩
        have eF268 := g270.s
        have gF268 := gF262.trans (g270.weak (by simp))
        replace s25 := ex_t g270.f s25
        replace d26 := d26.up g270.f
        replace d27 := d27.up g270.f
        replace r31 := r31.up g270.f
        replace r198 := r198.up g270.f
        replace r199 := r199.up g270.f
        replace r200 := r200.up g270.f
        replace r206 := r206.up g270.f
        replace r213 := r213.up g270.f
        replace r227 := r227.up g270.f
        replace s232 := ex_t g270.f s232
        replace a233 := a233.up g270.f
        replace s236 := g270.f _ _ s236
        replace a237 := a237.up g270.f
        replace w254 := w254.keep g270
        replace r252 := r252.up g270.f
        replace r259 := r259.up g270.f
        replace r265 := r265.up g270.f
        refine ⟨_, rfl, b267, b223, r271.dp eF268, r227.dp eF268, ?_⟩
        refine ⟨_, rfl, ?_⟩
        refine cs k (fun _ k => ?_) (fun _ k => ?_)
        · exact k.h _
        · refine ⟨_, rfl, _, rfl, ?_⟩
          refine ⟨_, _, _, rfl, .inl (sq_of (eF268 _ _ s236)), len_all a237, ?_⟩
          refine ⟨F268, sc, ra, scr, b248.2, (b115.2.1.length : Int), rfl, eF268, w254, (post_bd k).mono (fun b274 k v279 F275 H276 g277 ⟨r278, w280⟩ => ?_) (fun _ z => z)⟩
          have eF275 := g277.s
          have gF275 := gF268.trans (g277.weak (by simp))
          replace s25 := ex_t g277.f s25
          replace d26 := d26.up g277.f
          replace d27 := d27.up g277.f
          replace r31 := r31.up g277.f
          replace r198 := r198.up g277.f
          replace r199 := r199.up g277.f
          replace r200 := r200.up g277.f
          replace r206 := r206.up g277.f
          replace r213 := r213.up g277.f
          replace r227 := r227.up g277.f
          replace s232 := ex_t g277.f s232
          replace a233 := a233.up g277.f
          replace s236 := g277.f _ _ s236
          replace a237 := a237.up g277.f
          replace r252 := r252.up g277.f
          replace r259 := r259.up g277.f
          replace r265 := r265.up g277.f
          replace r271 := r271.up g277.f
          subst r278
          refine ⟨_, rfl, _, rfl, _, rfl, ?_⟩
          refine cut_tup (K := K) (M := []) eF275 s232 a233 fun v285 F281 H282 g283 r284 => ?_
          have eF281 := g283.s
          have gF281 := gF275.trans (g283.weak (by simp))
          replace s25 := ex_t g283.f s25
          replace d26 := d26.up g283.f
          replace d27 := d27.up g283.f
          replace r31 := r31.up g283.f
          replace r198 := r198.up g283.f
          replace r199 := r199.up g283.f
          replace r200 := r200.up g283.f
          replace r206 := r206.up g283.f
          replace r213 := r213.up g283.f
          replace r227 := r227.up g283.f
          replace s232 := ex_t g283.f s232
          replace a233 := a233.up g283.f
          replace s236 := g283.f _ _ s236
          replace a237 := a237.up g283.f
          replace r252 := r252.up g283.f
          replace r259 := r259.up g283.f
          replace r265 := r265.up g283.f
          replace r271 := r271.up g283.f
          replace w280 := w280.keep g283
          refine ⟨_, rfl, _, rfl, ?_⟩
          obtain ⟨i286, h287, k⟩ := post_get k
          obtain ⟨v288, h289, r290⟩ := dq_at a233 h287
          refine ⟨_, _, _, _, rfl, rfl, (ex_t eF281 s232), h289, ?_⟩
          refine ⟨_, rfl, ?_⟩
          refine ⟨F281, sc, ra, scr, b274.2, (9 : Int), rfl, eF281, w280, (post_bd k).mono (fun b291 k v296 F292 H293 g294 ⟨r295, w297⟩ => ?_) (fun _ z => z)⟩
          have eF292 := g294.s
          have gF292 := gF281.trans (g294.weak (by simp))
          replace s25 := ex_t g294.f s25
          replace d26 := d26.up g294.f
          replace d27 := d27.up g294.f
          replace r31 := r31.up g294.f
          replace r198 := r198.up g294.f
          replace r199 := r199.up g294.f
          replace r200 := r200.up g294.f
          replace r206 := r206.up g294.f
          replace r213 := r213.up g294.f
          replace r227 := r227.up g294.f
          replace s232 := ex_t g294.f s232
          replace a233 := a233.up g294.f
          replace s236 := g294.f _ _ s236
          replace a237 := a237.up g294.f
          replace r252 := r252.up g294.f
          replace r259 := r259.up g294.f
          replace r265 := r265.up g294.f
          replace r271 := r271.up g294.f
          replace r284 := r284.up g294.f
          replace r290 := r290.up g294.f
          subst r295
          refine ⟨_, _, rfl, rfl, ?_⟩
          show _ ∧ _
          refine new_tup (K := K) (M := []) eF292 (.cons (Dq.int (1 : Int)) (.cons (Dq.int ((1 : Int) + b291.1)) .nil)) (by show 2 ≤ 100000; decide) fun v302 F298 H299 g300 r301 => ?_
          have eF298 := g300.s
          have gF298 := gF292.trans (g300.weak (by simp))
          replace s25 := ex_t g300.f s25
          replace d26 := d26.up g300.f
          replace d27 := d27.up g300.f
          replace r31 := r31.up g300.f
          replace r198 := r198.up g300.f
          replace r199 := r199.up g300.f
          replace r200 := r200.up g300.f
          replace r206 := r206.up g300.f
          replace r213 := r213.up g300.f
          replace r227 := r227.up g300.f
          replace s232 := ex_t g300.f s232
          replace a233 := a233.up g300.f
          replace s236 := g300.f _ _ s236
          replace a237 := a237.up g300.f
          replace r252 := r252.up g300.f
          replace r259 := r259.up g300.f
          replace r265 := r265.up g300.f
          replace r271 := r271.up g300.f
          replace r284 := r284.up g300.f
          replace r290 := r290.up g300.f
          replace w297 := w297.keep g300
          replace r301 : Dq K F298 v302 ((e2 PyData.int PyData.int) ((1 : Int), ((1 : Int) + b291.1))) := r301
          refine ⟨F298, _, i286, _, ((1 : Int), ((1 : Int) + b291.1)), rfl, eF298, r290, r301, (post_bd k).mono (fun b303 k v308 F304 H305 g306 r307 => ?_) (fun _ z => z)⟩
          have eF304 := g306.s
          have gF304 := gF298.trans (g306.weak (by simp))
          replace s25 := ex_t g306.f s25
          replace d26 := d26.up g306.f
          replace d27 := d27.up g306.f
          replace r31 := r31.up g306.f
          replace r198 := r198.up g306.f
          replace r199 := r199.up g306.f
          replace r200 := r200.up g306.f
          replace r206 := r206.up g306.f
          replace r213 := r213.up g306.f
          replace r227 := r227.up g306.f
          replace s232 := ex_t g306.f s232
          replace a233 := a233.up g306.f
          replace s236 := g306.f _ _ s236
          replace a237 := a237.up g306.f
          replace r252 := r252.up g306.f
          replace r259 := r259.up g306.f
          replace r265 := r265.up g306.f
          replace r271 := r271.up g306.f
          replace r284 := r284.up g306.f
          replace r290 := r290.up g306.f
          replace w297 := w297.keep g306
          replace r301 := r301.up g306.f
          show _ ∧ _
          refine new_tup (K := K) (M := []) eF304 (.cons r307 .nil) (by show 1 ≤ 100000; decide) fun v314 F310 H311 g312 r313 => ?_
          have eF310 := g312.s
          have gF310 := gF304.trans (g312.weak (by simp))
          replace s25 := ex_t g312.f s25
          replace d26 := d26.up g312.f
          replace d27 := d27.up g312.f
          replace r31 := r31.up g312.f
          replace r198 := r198.up g312.f
          replace r199 := r199.up g312.f
          replace r200 := r200.up g312.f
          replace r206 := r206.up g312.f
          replace r213 := r213.up g312.f
          replace r227 := r227.up g312.f
          replace s232 := ex_t g312.f s232
          replace a233 := a233.up g312.f
          replace s236 := g312.f _ _ s236
          replace a237 := a237.up g312.f
          replace r252 := r252.up g312.f
          replace r259 := r259.up g312.f
          replace r265 := r265.up g312.f
          replace r271 := r271.up g312.f
          replace r284 := r284.up g312.f
          replace r290 := r290.up g312.f
          replace w297 := w297.keep g312
          replace r301 := r301.up g312.f
          replace r307 := r307.up g312.f
          replace r313 : Dq K F310 v314 ((eV (e2 PyData.int PyData.int)) [b303]) := r313
          obtain ⟨p315, xs316, rfl, s317, a318⟩ := dp_tup r284
          obtain ⟨p319, xs320, rfl, s321, a322⟩ := dp_tup r313
          obtain ⟨h324, k⟩ := post_guard k
          refine cat_tup (K := K) (M := []) eF310 s317 a318 s321 a322 h324 fun v329 F325 H326 g327 r328 => ?_
          have eF325 := g327.s
          have gF325 := gF310.trans (g327.weak (by simp))
          replace s25 := ex_t g327.f s25
          replace d26 := d26.up g327.f
          replace d27 := d27.up g327.f
          replace r31 := r31.up g327.f
          replace r198 := r198.up g327.f
          replace r199 := r199.up g327.f
          replace r200 := r200.up g327.f
          replace r206 := r206.up g327.f
          replace r213 := r213.up g327.f
          replace r227 := r227.up g327.f
          replace s232 := ex_t g327.f s232
          replace a233 := a233.up g327.f
          replace s236 := g327.f _ _ s236
          replace a237 := a237.up g327.f
          replace r252 := r252.up g327.f
          replace r259 := r259.up g327.f
          replace r265 := r265.up g327.f
          replace r271 := r271.up g327.f
          replace r284 := r284.up g327.f
          replace r290 := r290.up g327.f
          replace w297 := w297.keep g327
          replace r301 := r301.up g327.f
          replace r307 := r307.up g327.f
          replace r313 := r313.up g327.f
          replace s317 := ex_t g327.f s317
          replace a318 := a318.up g327.f
          replace s321 := ex_t g327.f s321
          replace a322 := a322.up g327.f
          refine ⟨_, rfl, _, rfl, _, _, rfl, rfl, _, rfl, ?_⟩
          refine cut_tup (K := K) (M := []) eF325 s232 a233 fun v334 F330 H331 g332 r333 => ?_
          have eF330 := g332.s
          have gF330 := gF325.trans (g332.weak (by simp))
          replace s25 := ex_t g332.f s25
          replace d26 := d26.up g332.f
          replace d27 := d27.up g332.f
          replace r31 := r31.up g332.f
          replace r198 := r198.up g332.f
          replace r199 := r199.up g332.f
          replace r200 := r200.up g332.f
          replace r206 := r206.up g332.f
          replace r213 := r213.up g332.f
          replace r227 := r227.up g332.f
          replace s232 := ex_t g332.f s232
          replace a233 := a233.up g332.f
          replace s236 := g332.f _ _ s236
          replace a237 := a237.up g332.f
          replace r252 := r252.up g332.f
          replace r259 := r259.up g332.f
          replace r265 := r265.up g332.f
          replace r271 := r271.up g332.f
          replace r284 := r284.up g332.f
          replace r290 := r290.up g332.f
          replace w297 := w297.keep g332
          replace r301 := r301.up g332.f
          replace r307 := r307.up g332.f
          replace r313 := r313.up g332.f
          replace s317 := ex_t g332.f s317
          replace a318 := a318.up g332.f
          replace s321 := ex_t g332.f s321
          replace a322 := a322.up g332.f
          replace r328 := r328.up g332.f
          obtain ⟨p335, xs336, rfl, s337, a338⟩ := dp_tup r328
          obtain ⟨p339, xs340, rfl, s341, a342⟩ := dp_tup r333
          obtain ⟨h344, k⟩ := post_guard k
          refine cat_tup (K := K) (M := []) eF330 s337 a338 s341 a342 h344 fun v349 F345 H346 g347 r348 => ?_
          have eF345 := g347.s
          have gF345 := gF330.trans (g347.weak (by simp))
          replace s25 := ex_t g347.f s25
          replace d26 := d26.up g347.f
          replace d27 := d27.up g347.f
          replace r31 := r31.up g347.f
          replace r198 := r198.up g347.f
          replace r199 := r199.up g347.f
          replace r200 := r200.up g347.f
          replace r206 := r206.up g347.f
          replace r213 := r213.up g347.f
          replace r227 := r227.up g347.f
          replace s232 := ex_t g347.f s232
          replace a233 := a233.up g347.f
          replace s236 := g347.f _ _ s236
          replace a237 := a237.up g347.f
          replace r252 := r252.up g347.f
          replace r259 := r259.up g347.f
          replace r265 := r265.up g347.f
          replace r271 := r271.up g347.f
          replace r284 := r284.up g347.f
          replace r290 := r290.up g347.f
          replace w297 := w297.keep g347
          replace r301 := r301.up g347.f
          replace r307 := r307.up g347.f
          replace r313 := r313.up g347.f
          replace s317 := ex_t g347.f s317
          replace a318 := a318.up g347.f
          replace s321 := ex_t g347.f s321
          replace a322 := a322.up g347.f
          replace r328 := r328.up g347.f
          replace r333 := r333.up g347.f
          replace s337 := ex_t g347.f s337
          replace a338 := a338.up g347.f
          replace s341 := ex_t g347.f s341
          replace a342 := a342.up g347.f
          refine ⟨_, rfl, _, rfl, ?_⟩
          refine to_VL (K := K) (M := []) eF345 s236 a237 (en := (e2 PyData.int PyData.int)) (l := b115.2.1) fun v354 F350 H351 g352 r353 => ?_
          have eF350 := g352.s
          have gF350 := gF345.trans (g352.weak (by simp))
          replace s25 := ex_t g352.f s25
          replace d26 := d26.up g352.f
          replace d27 := d27.up g352.f
          replace r31 := r31.up g352.f
          replace r198 := r198.up g352.f
          replace r199 := r199.up g352.f
          replace r200 := r200.up g352.f
          replace r206 := r206.up g352.f
          replace r213 := r213.up g352.f
          replace r227 := r227.up g352.f
          replace s232 := ex_t g352.f s232
          replace a233 := a233.up g352.f
          replace s236 := g352.f _ _ s236
          replace a237 := a237.up g352.f
          replace r252 := r252.up g352.f
          replace r259 := r259.up g352.f
          replace r265 := r265.up g352.f
          replace r271 := r271.up g352.f
          replace r284 := r284.up g352.f
          replace r290 := r290.up g352.f
          replace w297 := w297.keep g352
          replace r301 := r301.up g352.f
          replace r307 := r307.up g352.f
          replace r313 := r313.up g352.f
          replace s317 := ex_t g352.f s317
          replace a318 := a318.up g352.f
          replace s321 := ex_t g352.f s321
          replace a322 := a322.up g352.f
          replace r328 := r328.up g352.f
          replace r333 := r333.up g352.f
          replace s337 := ex_t g352.f s337
          replace a338 := a338.up g352.f
          replace s341 := ex_t g352.f s341
          replace a342 := a342.up g352.f
          replace r348 := r348.up g352.f
          refine ⟨_, rfl, _, rfl, ?_⟩
          refine ⟨F350, sc, ra, scr, b291.2, _, (((cutL b209 none (some b274.1)) ++ [b303]) ++ (cutL b209 (some (b274.1 + (1 : Int))) none)), rfl, eF350, w297, r348, (post_bd k).mono (fun b355 k v360 F356 H357 g358 ⟨r359, w361⟩ => ?_) (fun _ z => z)⟩
          have eF356 := g358.s
          have gF356 := gF350.trans (g358.weak (by simp))
          replace s25 := ex_t g358.f s25
          replace d26 := d26.up g358.f
          replace d27 := d27.up g358.f
          replace r31 := r31.up g358.f
          replace r198 := r198.up g358.f
          replace r199 := r199.up g358.f
          replace r200 := r200.up g358.f
          replace r206 := r206.up g358.f
          replace r213 := r213.up g358.f
          replace r227 := r227.up g358.f
          replace s232 := ex_t g358.f s232
          replace a233 := a233.up g358.f
          replace s236 := g358.f _ _ s236
          replace a237 := a237.up g358.f
          replace r252 := r252.up g358.f
          replace r259 := r259.up g358.f
          replace r265 := r265.up g358.f
          replace r271 := r271.up g358.f
          replace r284 := r284.up g358.f
          replace r290 := r290.up g358.f
          replace r301 := r301.up g358.f
          replace r307 := r307.up g358.f
          replace r313 := r313.up g358.f
          replace s317 := ex_t g358.f s317
          replace a318 := a318.up g358.f
          replace s321 := ex_t g358.f s321
          replace a322 := a322.up g358.f
          replace r328 := r328.up g358.f
          replace r333 := r333.up g358.f
          replace s337 := ex_t g358.f s337
          replace a338 := a338.up g358.f
          replace s341 := ex_t g358.f s341
          replace a342 := a342.up g358.f
          replace r348 := r348.up g358.f
          replace r353 := r353.up g358.f
          refine ⟨F356, _, b115.2.2.1, _, b115.2.1, _, b355.1, rfl, eF356, r199, r353, r359, (post_bd k).mono (fun b362 k v367 F363 H364 g365 r366 => ?_) (fun _ z => z)⟩
          have eF363 := g365.s
          have gF363 := gF356.trans (g365.weak (by simp))
          replace s25 := ex_t g365.f s25
          replace d26 := d26.up g365.f
          replace d27 := d27.up g365.f
          replace r31 := r31.up g365.f
          replace r198 := r198.up g365.f
          replace r199 := r199.up g365.f
          replace r200 := r200.up g365.f
          replace r206 := r206.up g365.f
          replace r213 := r213.up g365.f
          replace r227 := r227.up g365.f
          replace s232 := ex_t g365.f s232
          replace a233 := a233.up g365.f
          replace s236 := g365.f _ _ s236
          replace a237 := a237.up g365.f
          replace r252 := r252.up g365.f
          replace r259 := r259.up g365.f
          replace r265 := r265.up g365.f
          replace r271 := r271.up g365.f
          replace r284 := r284.up g365.f
          replace r290 := r290.up g365.f
          replace r301 := r301.up g365.f
          replace r307 := r307.up g365.f
          replace r313 := r313.up g365.f
          replace s317 := ex_t g365.f s317
          replace a318 := a318.up g365.f
          replace s321 := ex_t g365.f s321
          replace a322 := a322.up g365.f
          replace r328 := r328.up g365.f
          replace r333 := r333.up g365.f
          replace s337 := ex_t g365.f s337
          replace a338 := a338.up g365.f
          replace s341 := ex_t g365.f s341
          replace a342 := a342.up g365.f
          replace r348 := r348.up g365.f
          replace r353 := r353.up g365.f
          replace w361 := w361.keep g365
          replace r359 := r359.up g365.f
          refine ⟨_, rfl, b362, (some (-(1 : Int))), r366.dp eF363, (Dq.int (-(1 : Int))).dp eF363, ?_⟩
          refine ⟨_, rfl, ?_⟩
          refine cs k (fun _ k => ?_) (fun _ k => ?_)
          · exact k.h _
          · refine ⟨_, rfl, ?_⟩
            refine ⟨_, _, _, rfl, .inl (sq_of (eF363 _ _ s236)), len_all a237, _, _, rfl, rfl, _, rfl, ?_⟩
            refine cs k (fun _ k => ?_) (fun _ k => ?_)
            · exact k.h _
            · refine ⟨_, rfl, _, _, rfl, rfl, _, rfl, ?_⟩
              refine ⟨_, _, _, rfl, .inl (sq_of (eF363 _ _ s236)), len_all a237, ?_⟩
              obtain ⟨m369, c370, q371, k⟩ := post_mod k
              refine ⟨_, _, _, rfl, rfl, c370, q371, ?_⟩
              refine ⟨_, rfl, ?_⟩
              refine to_own (K := K) eF363 (.inr (ex_t eF363 s232)) fun p372 H373 g374 y375 o376 => ?_
              have a377 : DqAll K F363 xs231 (List.map (e2 PyData.int PyData.int) b209) := a233
              have np372 := ne_of_none w361.1 y375
              have mp372 := np372.symm
              have zp372 := gF363.fresh y375
              have eH373 := g374.s
              have gH373 := gF363.trans (g374.weak (by simp))
              replace w361 := w361.keep g374
              refine ⟨_, rfl, _, rfl, ?_⟩
              obtain ⟨i378, h379, k⟩ := post_get k
              obtain ⟨v380, h381, r382⟩ := dq_at a377 h379
              refine ⟨_, _, _, _, rfl, rfl, (sq_of o376.1), h381, ?_⟩
              show _ ∧ _
              refine new_tup (K := K) (M := []) eH373 (.cons (Dq.int (1 : Int)) (.cons (Dq.int (1 : Int)) .nil)) (by show 2 ≤ 100000; decide) fun v387 F383 H384 g385 r386 => ?_
              have eF383 := g385.s
              have gF383 := gH373.trans (g385.weak (by simp))
              replace s25 := ex_t g385.f s25
              replace d26 := d26.up g385.f
              replace d27 := d27.up g385.f
              replace r31 := r31.up g385.f
              replace r198 := r198.up g385.f
              replace r199 := r199.up g385.f
              replace r200 := r200.up g385.f
              replace r206 := r206.up g385.f
              replace r213 := r213.up g385.f
              replace r227 := r227.up g385.f
              replace s232 := ex_t g385.f s232
              replace a233 := a233.up g385.f
              replace s236 := g385.f _ _ s236
              replace a237 := a237.up g385.f
              replace r252 := r252.up g385.f
              replace r259 := r259.up g385.f
              replace r265 := r265.up g385.f
              replace r271 := r271.up g385.f
              replace r284 := r284.up g385.f
              replace r290 := r290.up g385.f
              replace r301 := r301.up g385.f
              replace r307 := r307.up g385.f
              replace r313 := r313.up g385.f
              replace s317 := ex_t g385.f s317
              replace a318 := a318.up g385.f
              replace s321 := ex_t g385.f s321
              replace a322 := a322.up g385.f
              replace r328 := r328.up g385.f
              replace r333 := r333.up g385.f
              replace s337 := ex_t g385.f s337
              replace a338 := a338.up g385.f
              replace s341 := ex_t g385.f s341
              replace a342 := a342.up g385.f
              replace r348 := r348.up g385.f
              replace r353 := r353.up g385.f
              replace w361 := w361.keep g385
              replace r359 := r359.up g385.f
              replace r366 := r366.up g385.f
              replace o376 := g385.own (by simp [*]) o376.1 o376.2
              replace a377 := a377.up g385.f
              replace r382 := r382.up g385.f
              replace r386 : Dq K F383 v387 ((e2 PyData.int PyData.int) ((1 : Int), (1 : Int))) := r386
              refine ⟨F383, _, i378, _, ((1 : Int), (1 : Int)), rfl, eF383, r382, r386, (post_bd k).mono (fun b388 k v393 F389 H390 g391 r392 => ?_) (fun _ z => z)⟩
              have eF389 := g391.s
              have gF389 := gF383.trans (g391.weak (by simp))
              replace s25 := ex_t g391.f s25
              replace d26 := d26.up g391.f
              replace d27 := d27.up g391.f
              replace r31 := r31.up g391.f
              replace r198 := r198.up g391.f
              replace r199 := r199.up g391.f
              replace r200 := r200.up g391.f
              replace r206 := r206.up g391.f
              replace r213 := r213.up g391.f
              replace r227 := r227.up g391.f
              replace s232 := ex_t g391.f s232
              replace a233 := a233.up g391.f
              replace s236 := g391.f _ _ s236
              replace a237 := a237.up g391.f
              replace r252 := r252.up g391.f
              replace r259 := r259.up g391.f
              replace r265 := r265.up g391.f
              replace r271 := r271.up g391.f
              replace r284 := r284.up g391.f
              replace r290 := r290.up g391.f
              replace r301 := r301.up g391.f
              replace r307 := r307.up g391.f
              replace r313 := r313.up g391.f
              replace s317 := ex_t g391.f s317
              replace a318 := a318.up g391.f
              replace s321 := ex_t g391.f s321
              replace a322 := a322.up g391.f
              replace r328 := r328.up g391.f
              replace r333 := r333.up g391.f
              replace s337 := ex_t g391.f s337
              replace a338 := a338.up g391.f
              replace s341 := ex_t g391.f s341
              replace a342 := a342.up g391.f
              replace r348 := r348.up g391.f
              replace r353 := r353.up g391.f
              replace w361 := w361.keep g391
              replace r359 := r359.up g391.f
              replace r366 := r366.up g391.f
              replace o376 := g391.own (by simp [*]) o376.1 o376.2
              replace a377 := a377.up g391.f
              replace r382 := r382.up g391.f
              replace r386 := r386.up g391.f
              refine ⟨_, rfl, _, rfl, ?_⟩
              obtain ⟨i395, h396, k⟩ := post_get k
              obtain ⟨v397, h398, r399⟩ := dq_at a377 h396
              refine ⟨_, _, _, _, rfl, rfl, (sq_of o376.1), h398, ?_⟩
              refine ⟨_, rfl, ?_⟩
              show _ ∧ _
              refine new_tup (K := K) (M := []) eF389 (.cons (Dq.int (-(1 : Int))) (.cons (Dq.int (1 : Int)) .nil)) (by show 2 ≤ 100000; decide) fun v404 F400 H401 g402 r403 => ?_
              have eF400 := g402.s
              have gF400 := gF389.trans (g402.weak (by simp))
              replace s25 := ex_t g402.f s25
              replace d26 := d26.up g402.f
              replace d27 := d27.up g402.f
              replace r31 := r31.up g402.f
              replace r198 := r198.up g402.f
              replace r199 := r199.up g402.f
              replace r200 := r200.up g402.f
              replace r206 := r206.up g402.f
              replace r213 := r213.up g402.f
              replace r227 := r227.up g402.f
              replace s232 := ex_t g402.f s232
              replace a233 := a233.up g402.f
              replace s236 := g402.f _ _ s236
              replace a237 := a237.up g402.f
              replace r252 := r252.up g402.f
              replace r259 := r259.up g402.f
              replace r265 := r265.up g402.f
              replace r271 := r271.up g402.f
              replace r284 := r284.up g402.f
              replace r290 := r290.up g402.f
              replace r301 := r301.up g402.f
              replace r307 := r307.up g402.f
              replace r313 := r313.up g402.f
              replace s317 := ex_t g402.f s317
              replace a318 := a318.up g402.f
              replace s321 := ex_t g402.f s321
              replace a322 := a322.up g402.f
              replace r328 := r328.up g402.f
              replace r333 := r333.up g402.f
              replace s337 := ex_t g402.f s337
              replace a338 := a338.up g402.f
              replace s341 := ex_t g402.f s341
              replace a342 := a342.up g402.f
              replace r348 := r348.up g402.f
              replace r353 := r353.up g402.f
              replace w361 := w361.keep g402
              replace r359 := r359.up g402.f
              replace r366 := r366.up g402.f
              replace o376 := g402.own (by simp [*]) o376.1 o376.2
              replace a377 := a377.up g402.f
              replace r382 := r382.up g402.f
              replace r386 := r386.up g402.f
              replace r392 := r392.up g402.f
              replace r399 := r399.up g402.f
              replace r403 : Dq K F400 v404 ((e2 PyData.int PyData.int) ((-(1 : Int)), (1 : Int))) := r403
              refine ⟨F400, _, i395, _, ((-(1 : Int)), (1 : Int)), rfl, eF400, r399, r403, (post_bd k).mono (fun b405 k v410 F406 H407 g408 r409 => ?_) (fun _ z => z)⟩
              have eF406 := g408.s
              have gF406 := gF400.trans (g408.weak (by simp))
              replace s25 := ex_t g408.f s25
              replace d26 := d26.up g408.f
              replace d27 := d27.up g408.f
              replace r31 := r31.up g408.f
              replace r198 := r198.up g408.f
              replace r199 := r199.up g408.f
              replace r200 := r200.up g408.f
              replace r206 := r206.up g408.f
              replace r213 := r213.up g408.f
              replace r227 := r227.up g408.f
              replace s232 := ex_t g408.f s232
              replace a233 := a233.up g408.f
              replace s236 := g408.f _ _ s236
              replace a237 := a237.up g408.f
              replace r252 := r252.up g408.f
              replace r259 := r259.up g408.f
              replace r265 := r265.up g408.f
              replace r271 := r271.up g408.f
              replace r284 := r284.up g408.f
              replace r290 := r290.up g408.f
              replace r301 := r301.up g408.f
              replace r307 := r307.up g408.f
              replace r313 := r313.up g408.f
              replace s317 := ex_t g408.f s317
              replace a318 := a318.up g408.f
              replace s321 := ex_t g408.f s321
              replace a322 := a322.up g408.f
              replace r328 := r328.up g408.f
              replace r333 := r333.up g408.f
              replace s337 := ex_t g408.f s337
              replace a338 := a338.up g408.f
              replace s341 := ex_t g408.f s341
              replace a342 := a342.up g408.f
              replace r348 := r348.up g408.f
              replace r353 := r353.up g408.f
              replace w361 := w361.keep g408
              replace r359 := r359.up g408.f
              replace r366 := r366.up g408.f
              replace o376 := g408.own (by simp [*]) o376.1 o376.2
              replace a377 := a377.up g408.f
              replace r382 := r382.up g408.f
              replace r386 := r386.up g408.f
              replace r392 := r392.up g408.f
              replace r399 := r399.up g408.f
              replace r403 := r403.up g408.f
              show _ ∧ _
              refine new_tupR (K := K) (M := []) eF406 (by show 2 ≤ 100000; decide) fun p412 F413 H414 g415 s416 => ?_
              have eF413 := g415.s
              have gF413 := gF406.trans (g415.weak (by simp))
              replace s25 := ex_t g415.f s25
              replace d26 := d26.up g415.f
              replace d27 := d27.up g415.f
              replace r31 := r31.up g415.f
              replace r198 := r198.up g415.f
              replace r199 := r199.up g415.f
              replace r200 := r200.up g415.f
              replace r206 := r206.up g415.f
              replace r213 := r213.up g415.f
              replace r227 := r227.up g415.f
              replace s232 := ex_t g415.f s232
              replace a233 := a233.up g415.f
              replace s236 := g415.f _ _ s236
              replace a237 := a237.up g415.f
              replace r252 := r252.up g415.f
              replace r259 := r259.up g415.f
              replace r265 := r265.up g415.f
              replace r271 := r271.up g415.f
              replace r284 := r284.up g415.f
              replace r290 := r290.up g415.f
              replace r301 := r301.up g415.f
              replace r307 := r307.up g415.f
              replace r313 := r313.up g415.f
              replace s317 := ex_t g415.f s317
              replace a318 := a318.up g415.f
              replace s321 := ex_t g415.f s321
              replace a322 := a322.up g415.f
              replace r328 := r328.up g415.f
              replace r333 := r333.up g415.f
              replace s337 := ex_t g415.f s337
              replace a338 := a338.up g415.f
              replace s341 := ex_t g415.f s341
              replace a342 := a342.up g415.f
              replace r348 := r348.up g415.f
              replace r353 := r353.up g415.f
              replace w361 := w361.keep g415
              replace r359 := r359.up g415.f
              replace r366 := r366.up g415.f
              replace o376 := g415.own (by simp [*]) o376.1 o376.2
              replace a377 := a377.up g415.f
              replace r382 := r382.up g415.f
              replace r386 := r386.up g415.f
              replace r392 := r392.up g415.f
              replace r399 := r399.up g415.f
              replace r403 := r403.up g415.f
              replace r409 := r409.up g415.f
              refine ⟨_, _, rfl, ex_t eF413 s416, rfl, _, _, rfl, ?_⟩
              refine ⟨_, rfl, _, rfl, ?_⟩
              obtain ⟨m417, j418, h419, h420, k⟩ := post_set k
              refine ⟨_, _, _, _, rfl, rfl, o376.1, all_ix a377 h419, ?_⟩
              have g421 := gF413.putOr (o := (.lst (List.set xs231 j418 v393))) (.inr zp372) o376.1 o376.2
              replace w361 := w361.put np372 (o := (.lst (List.set xs231 j418 v393)))
              replace o376 : (upd H414 p372 (.lst (List.set xs231 j418 v393))) p372 = some (.lst (List.set xs231 j418 v393)) ∧ F413 p372 = none := ⟨upd_same, o376.2⟩
              replace a377 : DqAll K F413 (List.set xs231 j418 v393) (List.map (e2 PyData.int PyData.int) m417) := all_set a377 r392 h420
              have e422 := g421.s
              refine ⟨_, _, rfl, ?_⟩
              refine ⟨_, rfl, _, rfl, ?_⟩
              obtain ⟨m423, j424, h425, h426, k⟩ := post_set k
              refine ⟨_, _, _, _, rfl, rfl, o376.1, all_ix a377 h425, ?_⟩
              have g427 := g421.putOr (o := (.lst (List.set (List.set xs231 j418 v393) j424 v410))) (.inr zp372) o376.1 o376.2
              replace w361 := w361.put np372 (o := (.lst (List.set (List.set xs231 j418 v393) j424 v410)))
              replace o376 : (upd (upd H414 p372 (.lst (List.set xs231 j418 v393))) p372 (.lst (List.set (List.set xs231 j418 v393) j424 v410))) p372 = some (.lst (List.set (List.set xs231 j418 v393) j424 v410)) ∧ F413 p372 = none := ⟨upd_same, o376.2⟩
              replace a377 : DqAll K F413 (List.set (List.set xs231 j418 v393) j424 v410) (List.map (e2 PyData.int PyData.int) m423) := all_set a377 r409 h426
              have e428 := g427.s
              refine ⟨rfl, ?_⟩
              refine ⟨_, rfl, _, rfl, ?_⟩
              refine to_VL (K := K) (M := []) e428 s236 a237 (en := (e2 PyData.int PyData.int)) (l := b115.2.1) fun v433 F429 H430 g431 r432 => ?_
              have eF429 := g431.s
              have gF429 := g427.trans (g431.weak (by simp))
              replace s25 := ex_t g431.f s25
              replace d26 := d26.up g431.f
              replace d27 := d27.up g431.f
              replace r31 := r31.up g431.f
              replace r198 := r198.up g431.f
              replace r199 := r199.up g431.f
              replace r200 := r200.up g431.f
              replace r206 := r206.up g431.f
              replace r213 := r213.up g431.f
              replace r227 := r227.up g431.f
              replace s232 := ex_t g431.f s232
              replace a233 := a233.up g431.f
              replace s236 := g431.f _ _ s236
              replace a237 := a237.up g431.f
              replace r252 := r252.up g431.f
              replace r259 := r259.up g431.f
              replace r265 := r265.up g431.f
              replace r271 := r271.up g431.f
              replace r284 := r284.up g431.f
              replace r290 := r290.up g431.f
              replace r301 := r301.up g431.f
              replace r307 := r307.up g431.f
              replace r313 := r313.up g431.f
              replace s317 := ex_t g431.f s317
              replace a318 := a318.up g431.f
              replace s321 := ex_t g431.f s321
              replace a322 := a322.up g431.f
              replace r328 := r328.up g431.f
              replace r333 := r333.up g431.f
              replace s337 := ex_t g431.f s337
              replace a338 := a338.up g431.f
              replace s341 := ex_t g431.f s341
              replace a342 := a342.up g431.f
              replace r348 := r348.up g431.f
              replace r353 := r353.up g431.f
              replace w361 := w361.keep g431
              replace r359 := r359.up g431.f
              replace r366 := r366.up g431.f
              replace o376 := g431.own (by simp [*]) o376.1 o376.2
              replace a377 := a377.up g431.f
              replace r382 := r382.up g431.f
              replace r386 := r386.up g431.f
              replace r392 := r392.up g431.f
              replace r399 := r399.up g431.f
              replace r403 := r403.up g431.f
              replace r409 := r409.up g431.f
              replace s416 := ex_t g431.f s416
              refine ⟨_, rfl, ?_⟩
              refine to_VO (K := K) (M := []) eF429 o376.1 a377 (en := (e2 PyData.int PyData.int)) (l := m423) fun v438 F434 H435 g436 r437 => ?_
              have eF434 := g436.s
              have gF434 := gF429.trans (g436.weak (by simp))
              replace s25 := ex_t g436.f s25
              replace d26 := d26.up g436.f
              replace d27 := d27.up g436.f
              replace r31 := r31.up g436.f
              replace r198 := r198.up g436.f
              replace r199 := r199.up g436.f
              replace r200 := r200.up g436.f
              replace r206 := r206.up g436.f
              replace r213 := r213.up g436.f
              replace r227 := r227.up g436.f
              replace s232 := ex_t g436.f s232
              replace a233 := a233.up g436.f
              replace s236 := g436.f _ _ s236
              replace a237 := a237.up g436.f
              replace r252 := r252.up g436.f
              replace r259 := r259.up g436.f
              replace r265 := r265.up g436.f
              replace r271 := r271.up g436.f
              replace r284 := r284.up g436.f
              replace r290 := r290.up g436.f
              replace r301 := r301.up g436.f
              replace r307 := r307.up g436.f
              replace r313 := r313.up g436.f
              replace s317 := ex_t g436.f s317
              replace a318 := a318.up g436.f
              replace s321 := ex_t g436.f s321
              replace a322 := a322.up g436.f
              replace r328 := r328.up g436.f
              replace r333 := r333.up g436.f
              replace s337 := ex_t g436.f s337
              replace a338 := a338.up g436.f
              replace s341 := ex_t g436.f s341
              replace a342 := a342.up g436.f
              replace r348 := r348.up g436.f
              replace r353 := r353.up g436.f
              replace w361 := w361.keep g436
              replace r359 := r359.up g436.f
              replace r366 := r366.up g436.f
              replace o376 := g436.own (by simp [*]) o376.1 o376.2
              replace a377 := a377.up g436.f
              replace r382 := r382.up g436.f
              replace r386 := r386.up g436.f
              replace r392 := r392.up g436.f
              replace r399 := r399.up g436.f
              replace r403 := r403.up g436.f
              replace r409 := r409.up g436.f
              replace s416 := ex_t g436.f s416
              replace r432 := r432.up g436.f
              refine ⟨F434, _, b115.2.2.1, _, b115.2.1, _, m423, rfl, eF434, r199, r432, r437, (post_bd k).mono (fun b439 k v444 F440 H441 g442 r443 => ?_) (fun _ z => z)⟩
              have eF440 := g442.s
              have gF440 := gF434.trans (g442.weak (by simp))
              replace s25 := ex_t g442.f s25
              replace d26 := d26.up g442.f
              replace d27 := d27.up g442.f
              replace r31 := r31.up g442.f
              replace r198 := r198.up g442.f
              replace r199 := r199.up g442.f
              replace r200 := r200.up g442.f
              replace r206 := r206.up g442.f
              replace r213 := r213.up g442.f
              replace r227 := r227.up g442.f
              replace s232 := ex_t g442.f s232
              replace a233 := a233.up g442.f
              replace s236 := g442.f _ _ s236
              replace a237 := a237.up g442.f
              replace r252 := r252.up g442.f
              replace r259 := r259.up g442.f
              replace r265 := r265.up g442.f
              replace r271 := r271.up g442.f
              replace r284 := r284.up g442.f
              replace r290 := r290.up g442.f
              replace r301 := r301.up g442.f
              replace r307 := r307.up g442.f
              replace r313 := r313.up g442.f
              replace s317 := ex_t g442.f s317
              replace a318 := a318.up g442.f
              replace s321 := ex_t g442.f s321
              replace a322 := a322.up g442.f
              replace r328 := r328.up g442.f
              replace r333 := r333.up g442.f
              replace s337 := ex_t g442.f s337
              replace a338 := a338.up g442.f
              replace s341 := ex_t g442.f s341
              replace a342 := a342.up g442.f
              replace r348 := r348.up g442.f
              replace r353 := r353.up g442.f
              replace w361 := w361.keep g442
              replace r359 := r359.up g442.f
              replace r366 := r366.up g442.f
              replace o376 := g442.own (by simp [*]) o376.1 o376.2
              replace a377 := a377.up g442.f
              replace r382 := r382.up g442.f
              replace r386 := r386.up g442.f
              replace r392 := r392.up g442.f
              replace r399 := r399.up g442.f
              replace r403 := r403.up g442.f
              replace r409 := r409.up g442.f
              replace s416 := ex_t g442.f s416
              replace r432 := r432.up g442.f
              replace r437 := r437.up g442.f
              refine ⟨_, rfl, _, rfl, _, rfl, ?_⟩
              have g446 := gF440.fix o376.1 o376.2 zp372
              have ur447 : Ex F440 (upd F440 p372 (.lst (List.set (List.set xs231 j418 v393) j424 v410))) := Ex.new o376.2
              have r447 : Dq K (upd F440 p372 (.lst (List.set (List.set xs231 j418 v393) j424 v410))) (.ref p372) (eL (e2 PyData.int PyData.int) m423) := .lst upd_same (a377.up ur447)
              have s449 : (upd F440 p372 (.lst (List.set (List.set xs231 j418 v393) j424 v410))) p372 = some (.lst (List.set (List.set xs231 j418 v393) j424 v410)) := upd_same
              have a450 := a377.up ur447
              replace s25 := ex_t ur447 s25
              replace d26 := d26.up ur447
              replace d27 := d27.up ur447
              replace r31 := r31.up ur447
              replace r198 := r198.up ur447
              replace r199 := r199.up ur447
              replace r200 := r200.up ur447
              replace r206 := r206.up ur447
              replace r213 := r213.up ur447
              replace r227 := r227.up ur447
              replace s232 := ex_t ur447 s232
              replace a233 := a233.up ur447
              replace s236 := ur447 _ _ s236
              replace a237 := a237.up ur447
              replace r252 := r252.up ur447
              replace r259 := r259.up ur447
              replace r265 := r265.up ur447
              replace r271 := r271.up ur447
              replace r284 := r284.up ur447
              replace r290 := r290.up ur447
              replace r301 := r301.up ur447
              replace r307 := r307.up ur447
              replace r313 := r313.up ur447
              replace s317 := ex_t ur447 s317
              replace a318 := a318.up ur447
              replace s321 := ex_t ur447 s321
              replace a322 := a322.up ur447
              replace r328 := r328.up ur447
              replace r333 := r333.up ur447
              replace s337 := ex_t ur447 s337
              replace a338 := a338.up ur447
              replace s341 := ex_t ur447 s341
              replace a342 := a342.up ur447
              replace r348 := r348.up ur447
              replace r353 := r353.up ur447
              replace w361 := w361.fix np372 ur447 (o := .lst (List.set (List.set xs231 j418 v393) j424 v410))
              replace r359 := r359.up ur447
              replace r366 := r366.up ur447
              replace r382 := r382.up ur447
              replace r386 := r386.up ur447
              replace r392 := r392.up ur447
              replace r399 := r399.up ur447
              replace r403 := r403.up ur447
              replace r409 := r409.up ur447
              replace s416 := ex_t ur447 s416
              replace r432 := r432.up ur447
              replace r437 := r437.up ur447
              replace r443 := r443.up ur447
              have e451 := g446.s
              refine ⟨(upd F440 p372 (.lst (List.set (List.set xs231 j418 v393) j424 v410))), _, b115.1, _, b115.2.1, _, m423, rfl, e451, r198, r200, r447, (post_bd k).mono (fun b452 k v457 F453 H454 g455 r456 => ?_) (fun _ z => z)⟩
              have eF453 := g455.s
              have gF453 := g446.trans (g455.weak (by simp))
              replace s25 := ex_t g455.f s25
              replace d26 := d26.up g455.f
              replace d27 := d27.up g455.f
              replace r31 := r31.up g455.f
              replace r198 := r198.up g455.f
              replace r199 := r199.up g455.f
              replace r200 := r200.up g455.f
              replace r206 := r206.up g455.f
              replace r213 := r213.up g455.f
              replace r227 := r227.up g455.f
              replace s232 := ex_t g455.f s232
              replace a233 := a233.up g455.f
              replace s236 := g455.f _ _ s236
              replace a237 := a237.up g455.f
              replace r252 := r252.up g455.f
              replace r259 := r259.up g455.f
              replace r265 := r265.up g455.f
              replace r271 := r271.up g455.f
              replace r284 := r284.up g455.f
              replace r290 := r290.up g455.f
              replace r301 := r301.up g455.f
              replace r307 := r307.up g455.f
              replace r313 := r313.up g455.f
              replace s317 := ex_t g455.f s317
              replace a318 := a318.up g455.f
              replace s321 := ex_t g455.f s321
              replace a322 := a322.up g455.f
              replace r328 := r328.up g455.f
              replace r333 := r333.up g455.f
              replace s337 := ex_t g455.f s337
              replace a338 := a338.up g455.f
              replace s341 := ex_t g455.f s341
              replace a342 := a342.up g455.f
              replace r348 := r348.up g455.f
              replace r353 := r353.up g455.f
              replace w361 := w361.keep g455
              replace r359 := r359.up g455.f
              replace r366 := r366.up g455.f
              replace r382 := r382.up g455.f
              replace r386 := r386.up g455.f
              replace r392 := r392.up g455.f
              replace r399 := r399.up g455.f
              replace r403 := r403.up g455.f
              replace r409 := r409.up g455.f
              replace s416 := ex_t g455.f s416
              replace r432 := r432.up g455.f
              replace r437 := r437.up g455.f
              replace r443 := r443.up g455.f
              replace r447 := r447.up g455.f
              replace s449 := g455.f _ _ s449
              replace a450 := a450.up g455.f
              subst r456
              refine ⟨F453, b452, rfl, eF453, (post_bd k).mono (fun b459 k v464 F460 H461 g462 r463 => ?_) (fun _ z => z)⟩
              have eF460 := g462.s
              have gF460 := gF453.trans (g462.weak (by simp))
              replace s25 := ex_t g462.f s25
              replace d26 := d26.up g462.f
              replace d27 := d27.up g462.f
              replace r31 := r31.up g462.f
              replace r198 := r198.up g462.f
              replace r199 := r199.up g462.f
              replace r200 := r200.up g462.f
              replace r206 := r206.up g462.f
              replace r213 := r213.up g462.f
              replace r227 := r227.up g462.f
              replace s232 := ex_t g462.f s232
              replace a233 := a233.up g462.f
              replace s236 := g462.f _ _ s236
              replace a237 := a237.up g462.f
              replace r252 := r252.up g462.f
              replace r259 := r259.up g462.f
              replace r265 := r265.up g462.f
              replace r271 := r271.up g462.f
              replace r284 := r284.up g462.f
              replace r290 := r290.up g462.f
              replace r301 := r301.up g462.f
              replace r307 := r307.up g462.f
              replace r313 := r313.up g462.f
              replace s317 := ex_t g462.f s317
              replace a318 := a318.up g462.f
              replace s321 := ex_t g462.f s321
              replace a322 := a322.up g462.f
              replace r328 := r328.up g462.f
              replace r333 := r333.up g462.f
              replace s337 := ex_t g462.f s337
              replace a338 := a338.up g462.f
              replace s341 := ex_t g462.f s341
              replace a342 := a342.up g462.f
              replace r348 := r348.up g462.f
              replace r353 := r353.up g462.f
              replace w361 := w361.keep g462
              replace r359 := r359.up g462.f
              replace r366 := r366.up g462.f
              replace r382 := r382.up g462.f
              replace r386 := r386.up g462.f
              replace r392 := r392.up g462.f
              replace r399 := r399.up g462.f
              replace r403 := r403.up g462.f
              replace r409 := r409.up g462.f
              replace s416 := ex_t g462.f s416
              replace r432 := r432.up g462.f
              replace r437 := r437.up g462.f
              replace r443 := r443.up g462.f
              replace r447 := r447.up g462.f
              replace s449 := g462.f _ _ s449
              replace a450 := a450.up g462.f
              refine ⟨b439, b459, r443.dp eF460, r463.dp eF460, ?_⟩
              exact k.h _
end L

set_option Elab.async false
set_option linter.all false
set_option maxRecDepth 100000
set_option maxHeartbeats 0
namespace L
open PySem L2 Evl Wk
abbrev sp_p_masses : Stmt := inClass (top 30) 1
abbrev sp_p_stretches : Stmt := inClass (top 30) 2
/-! ### the head -/
def dd_whole_within : He5.DefA := ⟨gAt "whole_within", "whole_within", "whole_within", defArgs s_whole_within, defBody s_whole_within, defScope s_whole_within, [], []⟩
def dd_check_within : He5.DefA := ⟨gAt "check_within", "check_within", "check_within", defArgs s_check_within, defBody s_check_within, defScope s_check_within, [], []⟩
def dd_power_of : He5.DefA := ⟨gAt "power_of", "power_of", "power_of", defArgs s_power_of, defBody s_power_of, defScope s_power_of, [], []⟩
def dd_lowest : He5.DefA := ⟨gAt "lowest", "lowest", "lowest", defArgs s_lowest, defBody s_lowest, defScope s_lowest, [], []⟩
def dd_plus : He5.DefA := ⟨gAt "plus", "plus", "plus", defArgs s_plus, defBody s_plus, defScope s_plus, [], []⟩
def dd_minus : He5.DefA := ⟨gAt "minus", "minus", "minus", defArgs s_minus, defBody s_minus, defScope s_minus, [], []⟩
def dd_times : He5.DefA := ⟨gAt "times", "times", "times", defArgs s_times, defBody s_times, defScope s_times, [], []⟩
def dd_over : He5.DefA := ⟨gAt "over", "over", "over", defArgs s_over, defBody s_over, defScope s_over, [], []⟩
def dd_is_less : He5.DefA := ⟨gAt "is_less", "is_less", "is_less", defArgs s_is_less, defBody s_is_less, defScope s_is_less, [], []⟩
def dd_added_up : He5.DefA := ⟨gAt "added_up", "added_up", "added_up", defArgs s_added_up, defBody s_added_up, defScope s_added_up, [], []⟩
def dd_with_root : He5.DefA := ⟨gAt "with_root", "with_root", "with_root", defArgs s_with_root, defBody s_with_root, defScope s_with_root, [], []⟩
def dd_with_roots : He5.DefA := ⟨gAt "with_roots", "with_roots", "with_roots", defArgs s_with_roots, defBody s_with_roots, defScope s_with_roots, [], []⟩
def dd_worth : He5.DefA := ⟨gAt "worth", "worth", "worth", defArgs s_worth, defBody s_worth, defScope s_worth, [], []⟩
def dd_only_at : He5.DefA := ⟨gAt "only_at", "only_at", "only_at", defArgs s_only_at, defBody s_only_at, defScope s_only_at, [], []⟩
def dd_is_place : He5.DefA := ⟨gAt "is_place", "is_place", "is_place", defArgs s_is_place, defBody s_is_place, defScope s_is_place, [], []⟩
def dd_is_mass : He5.DefA := ⟨gAt "is_mass", "is_mass", "is_mass", defArgs s_is_mass, defBody s_is_mass, defScope s_is_mass, [], []⟩
def dd_check_masses : He5.DefA := ⟨gAt "check_masses", "check_masses", "check_masses", defArgs s_check_masses, defBody s_check_masses, defScope s_check_masses, [], []⟩
def dd_check_stretches : He5.DefA := ⟨gAt "check_stretches", "check_stretches", "check_stretches", defArgs s_check_stretches, defBody s_check_stretches, defScope s_check_stretches, [], []⟩
def dd_Weighting_init : He5.DefA := ⟨initAt "Weighting" "__init__", "__init__", "Weighting.__init__", defArgs s_Weighting_init, defBody s_Weighting_init, defScope s_Weighting_init, [], []⟩
def dd_power_sum : He5.DefA := ⟨gAt "power_sum", "power_sum", "power_sum", defArgs s_power_sum, defBody s_power_sum, defScope s_power_sum, [], []⟩
def dd_weighed : He5.DefA := ⟨gAt "weighed", "weighed", "weighed", defArgs s_weighed, defBody s_weighed, defScope s_weighed, [], []⟩
def dd_ascending_places : He5.DefA := ⟨gAt "ascending_places", "ascending_places", "ascending_places", defArgs s_ascending_places, defBody s_ascending_places, defScope s_ascending_places, [], []⟩
def dd_checked_places : He5.DefA := ⟨gAt "checked_places", "checked_places", "checked_places", defArgs s_checked_places, defBody s_checked_places, defScope s_checked_places, [], []⟩
def dd_checked_weights : He5.DefA := ⟨gAt "checked_weights", "checked_weights", "checked_weights", defArgs s_checked_weights, defBody s_checked_weights, defScope s_checked_weights, [], []⟩
def dd_served : He5.DefA := ⟨gAt "served", "served", "served", defArgs s_served, defBody s_served, defScope s_served, [], []⟩
def dd_weights_for : He5.DefA := ⟨gAt "weights_for", "weights_for", "weights_for", defArgs s_weights_for, defBody s_weights_for, defScope s_weights_for, [], []⟩
def dd_bar : He5.DefA := ⟨gAt "bar", "bar", "bar", defArgs s_bar, defBody s_bar, defScope s_bar, [], []⟩
def dd_best_degree : He5.DefA := ⟨gAt "best_degree", "best_degree", "best_degree", defArgs s_best_degree, defBody s_best_degree, defScope s_best_degree, [], []⟩
def dd_law_taken : He5.DefA := ⟨gAt "_law_taken", "_law_taken", "_law_taken", defArgs s_law_taken, defBody s_law_taken, defScope s_law_taken, [], []⟩
def dd_law_pick : He5.DefA := ⟨gAt "_law_pick", "_law_pick", "_law_pick", defArgs s_law_pick, defBody s_law_pick, defScope s_law_pick, [], []⟩
def dd_law_low : He5.DefA := ⟨gAt "_law_low", "_law_low", "_law_low", defArgs s_law_low, defBody s_law_low, defScope s_law_low, [], []⟩
def dd_law_add : He5.DefA := ⟨gAt "_law_add", "_law_add", "_law_add", defArgs s_law_add, defBody s_law_add, defScope s_law_add, [], []⟩
def dd_law_mul : He5.DefA := ⟨gAt "_law_mul", "_law_mul", "_law_mul", defArgs s_law_mul, defBody s_law_mul, defScope s_law_mul, [], []⟩
def dd_law_is_less : He5.DefA := ⟨gAt "_law_is_less", "_law_is_less", "_law_is_less", defArgs s_law_is_less, defBody s_law_is_less, defScope s_law_is_less, [], []⟩
def dd_law_masses : He5.DefA := ⟨gAt "_law_masses", "_law_masses", "_law_masses", defArgs s_law_masses, defBody s_law_masses, defScope s_law_masses, [], []⟩
def dd_law_stretches : He5.DefA := ⟨gAt "_law_stretches", "_law_stretches", "_law_stretches", defArgs s_law_stretches, defBody s_law_stretches, defScope s_law_stretches, [], []⟩
def dd_law_parts : He5.DefA := ⟨gAt "_law_parts", "_law_parts", "_law_parts", defArgs s_law_parts, defBody s_law_parts, defScope s_law_parts, [], []⟩
def dd_law_weighting : He5.DefA := ⟨gAt "_law_weighting", "_law_weighting", "_law_weighting", defArgs s_law_weighting, defBody s_law_weighting, defScope s_law_weighting, [], []⟩
def dd_law_sum : He5.DefA := ⟨gAt "_law_sum", "_law_sum", "_law_sum", defArgs s_law_sum, defBody s_law_sum, defScope s_law_sum, [], []⟩
def dd_law_places : He5.DefA := ⟨gAt "_law_places", "_law_places", "_law_places", defArgs s_law_places, defBody s_law_places, defScope s_law_places, [], []⟩
def dd_law_wide : He5.DefA := ⟨gAt "_law_wide", "_law_wide", "_law_wide", defArgs s_law_wide, defBody s_law_wide, defScope s_law_wide, [], []⟩
def dd_law_wide_v : He5.DefA := ⟨gAt "_law_wide", "_law_wide", "_law_wide", defArgs s_law_wide_v, defBody s_law_wide_v, defScope s_law_wide_v, [], []⟩
def dd_law_served : He5.DefA := ⟨gAt "_law_served", "_law_served", "_law_served", defArgs s_law_served, defBody s_law_served, defScope s_law_served, [], []⟩
def dd_law_served_l : He5.DefA := ⟨gAt "_law_served", "_law_served", "_law_served", defArgs s_law_served_l, defBody s_law_served_l, defScope s_law_served_l, [], []⟩
def dd_law_is_all : He5.DefA := ⟨gAt "_law_is_all", "_law_is_all", "_law_is_all", defArgs s_law_is_all, defBody s_law_is_all, defScope s_law_is_all, [], []⟩
def dd_law : He5.DefA := ⟨gAt "law", "law", "law", defArgs s_law, defBody s_law, defScope s_law, [], []⟩
def dd_p_masses : He5.DefA := ⟨propG "Weighting" "masses", "masses", "Weighting.masses", defArgs sp_p_masses, defBody sp_p_masses, defScope sp_p_masses, [], []⟩
def dd_p_stretches : He5.DefA := ⟨propG "Weighting" "stretches", "stretches", "Weighting.stretches", defArgs sp_p_stretches, defBody sp_p_stretches, defScope sp_p_stretches, [], []⟩
def fn : List He5.DefA := [dd_whole_within, dd_check_within, dd_power_of, dd_lowest, dd_plus, dd_minus, dd_times, dd_over, dd_is_less, dd_added_up, dd_with_root, dd_with_roots, dd_worth, dd_only_at, dd_is_place, dd_is_mass, dd_check_masses, dd_check_stretches, dd_Weighting_init, dd_power_sum, dd_weighed, dd_ascending_places, dd_checked_places, dd_checked_weights, dd_served, dd_weights_for, dd_bar, dd_best_degree, dd_law_taken, dd_law_pick, dd_law_low, dd_law_add, dd_law_mul, dd_law_is_less, dd_law_masses, dd_law_stretches, dd_law_parts, dd_law_weighting, dd_law_sum, dd_law_places, dd_law_wide, dd_law_wide_v, dd_law_served, dd_law_served_l, dd_law_is_all, dd_law, dd_p_masses, dd_p_stretches]
def fa : List He.Fa := [.free "len", .free "int", .free "bool", .free "str", .free "abs", .free "sum", .free "min", .free "max", .free "list", .free "tuple", .free "set", .free "dict", .free "sorted", .free "range", .free "enumerate", .free "zip", .free "reversed", .free "isinstance", .glo "whole_within", .glo "check_within", .glo "power_of", .glo "lowest", .glo "plus", .glo "minus", .glo "times", .glo "over", .glo "is_less", .glo "added_up", .glo "with_root", .glo "with_roots", .glo "worth", .glo "only_at", .glo "is_place", .glo "is_mass", .glo "check_masses", .glo "check_stretches", .glo "power_sum", .glo "weighed", .glo "ascending_places", .glo "checked_places", .glo "checked_weights", .glo "served", .glo "weights_for", .glo "bar", .glo "best_degree", .glo "_law_taken", .glo "_law_pick", .glo "_law_low", .glo "_law_add", .glo "_law_mul", .glo "_law_is_less", .glo "_law_masses", .glo "_law_stretches", .glo "_law_parts", .glo "_law_weighting", .glo "_law_sum", .glo "_law_places", .glo "_law_wide", .glo "_law_served", .glo "_law_is_all", .glo "law", .glo "Weighting", .cls "Weighting", .mkr "Weighting", .noat "Weighting" "_masses", .noat "Weighting" "_stretches", .glo "NOUGHT", .glo "ONE", .int "FARTHEST" (20), .int "HEAVIEST" (20), .int "MOST_MASSES" (6), .int "MOST_STRETCHES" (4), .int "MOST_POWER" (60), .int "MOST_PLACES" (6)]
def ex (K : PySem.W.Frag) : Bool := propB "Weighting" "masses" K && (propB "Weighting" "stretches" K && (bltB "gcd" "math.gcd" K && (He.tupB K "NOUGHT" [.int (0), .int (1)] && (He.tupB K "ONE" [.int (1), .int (1)]))))
abbrev R : PySem.W.OpenRow := PySem.W.OpenLaw.row PySem.Challenge.rw_fewreadings_k05_whole_degrees_that_rules
abbrev hk : PySem.W.Hook := hookX 6 fa fn ex
def ob (s : PySem.W.SharedT) : He.AlD := obsXG 6 fa fn ex (HandSHeadRun.getT s)
theorem ob_eq (s : PySem.W.SharedT) : ob s = hk.obs s.abs := obsXG_eq (HandSHeadRun.getT_eq s)
abbrev looseN : List Str := (["ReadingError", "InvalidWeighting", "InvalidNumber", "InvalidPlaces", "InvalidWeights", "NOUGHT", "ONE", "whole_within", "check_within", "power_of", "lowest", "plus", "minus", "times", "over", "is_less", "added_up", "with_root", "with_roots", "worth"] : List Str) ++ (["only_at", "FARTHEST", "HEAVIEST", "MOST_MASSES", "MOST_STRETCHES", "MOST_POWER", "Weighting", "is_place", "is_mass", "check_masses", "check_stretches", "power_sum", "weighed", "MOST_PLACES", "ascending_places", "checked_places", "checked_weights", "served", "weights_for", "bar"] : List Str) ++ (["best_degree", "_law_taken", "_law_pick", "_law_low", "_law_add", "_law_mul", "_law_is_less", "_law_masses", "_law_stretches", "_law_parts", "_law_weighting", "_law_sum", "_law_places", "_law_wide", "_law_served", "_law_is_all"] : List Str)
abbrev vw : Program := PySem.W.view R.prog [0, 62]
open PySem.W HandSHeadRun in
theorem run1 (w : World) : (HandSHeadRun.wholeF (fun p => HandSHeadRun.stepQ (HandSHeadRun.denQ HandSHeadRun.tabQ) p w) HandSHeadRun.fenceQ 6000 R.prog).map (fun x => looksF R.prog x.1.heap x.2.abs) = some true := by kernel_rfl
open PySem.W HandSHeadRun in
theorem run2 (w : World) : (HandSHeadRun.wholeF (fun p => HandSHeadRun.stepQ (HandSHeadRun.denQ HandSHeadRun.tabQ) p w) HandSHeadRun.fenceQ 6000 R.prog).map (fun x => seenQ vw looseN (importedModules R.prog.main.body) (fun s => xlAt vw [] s && recOk R.toRowW.records s) x.2.abs) = some (openGood vw looseN) := by kernel_rfl
theorem run3 (w : World) : (HandSHeadRun.wholeF (fun p => HandSHeadRun.stepQ (HandSHeadRun.denQ HandSHeadRun.tabQ) p w) HandSHeadRun.fenceQ 6000 R.prog).map (fun x => ob x.2) = some (hk.val w) := by kernel_rfl
theorem run (w : World) : HandSHeadRun.RunEqI R vw hk ob 6000 looseN w := runI_of3 (run1 w) (run2 w) (run3 w)
theorem facts {P : Program} {w : World} {K : PySem.W.Frag} {h : Heap} {mg : Str → Option Value} {f : Addr} (X : K.In h) (G : h.Ns mainGlobals mg) (hfa : mg ("law" : Str) = some (.ref f)) (c : SaysX fa fn ex K) :
    ∃ fd : FuncData, (∀ (s : Shared) (v : Value), BindsTo s fd ⟨[v], []⟩ [("_law_script", v)]) ∧ ∀ base : Heap, K.In base → base.Ns mainGlobals mg → FnOk P w K mg base CX0 7 f fd ["_law_script"] (sp_law K) := by
  have B : Bi mg := ⟨He.free_ok X G (c.fact 0 (f := .free "len") rfl), He.free_ok X G (c.fact 1 (f := .free "int") rfl), He.free_ok X G (c.fact 2 (f := .free "bool") rfl), He.free_ok X G (c.fact 3 (f := .free "str") rfl), He.free_ok X G (c.fact 4 (f := .free "abs") rfl), He.free_ok X G (c.fact 5 (f := .free "sum") rfl), He.free_ok X G (c.fact 6 (f := .free "min") rfl), He.free_ok X G (c.fact 7 (f := .free "max") rfl), He.free_ok X G (c.fact 8 (f := .free "list") rfl), He.free_ok X G (c.fact 9 (f := .free "tuple") rfl), He.free_ok X G (c.fact 10 (f := .free "set") rfl), He.free_ok X G (c.fact 11 (f := .free "dict") rfl), He.free_ok X G (c.fact 12 (f := .free "sorted") rfl), He.free_ok X G (c.fact 13 (f := .free "range") rfl), He.free_ok X G (c.fact 14 (f := .free "enumerate") rfl), He.free_ok X G (c.fact 15 (f := .free "zip") rfl), He.free_ok X G (c.fact 16 (f := .free "reversed") rfl), He.free_ok X G (c.fact 17 (f := .free "isinstance") rfl)⟩
  obtain ⟨fd_whole_within, F_whole_within⟩ := c.def_ 0 (d := dd_whole_within) rfl
  obtain ⟨fd_check_within, F_check_within⟩ := c.def_ 1 (d := dd_check_within) rfl
  obtain ⟨fd_power_of, F_power_of⟩ := c.def_ 2 (d := dd_power_of) rfl
  obtain ⟨fd_lowest, F_lowest⟩ := c.def_ 3 (d := dd_lowest) rfl
  obtain ⟨fd_plus, F_plus⟩ := c.def_ 4 (d := dd_plus) rfl
  obtain ⟨fd_minus, F_minus⟩ := c.def_ 5 (d := dd_minus) rfl
  obtain ⟨fd_times, F_times⟩ := c.def_ 6 (d := dd_times) rfl
  obtain ⟨fd_over, F_over⟩ := c.def_ 7 (d := dd_over) rfl
  obtain ⟨fd_is_less, F_is_less⟩ := c.def_ 8 (d := dd_is_less) rfl
  obtain ⟨fd_added_up, F_added_up⟩ := c.def_ 9 (d := dd_added_up) rfl
  obtain ⟨fd_with_root, F_with_root⟩ := c.def_ 10 (d := dd_with_root) rfl
  obtain ⟨fd_with_roots, F_with_roots⟩ := c.def_ 11 (d := dd_with_roots) rfl
  obtain ⟨fd_worth, F_worth⟩ := c.def_ 12 (d := dd_worth) rfl
  obtain ⟨fd_only_at, F_only_at⟩ := c.def_ 13 (d := dd_only_at) rfl
  obtain ⟨fd_is_place, F_is_place⟩ := c.def_ 14 (d := dd_is_place) rfl
  obtain ⟨fd_is_mass, F_is_mass⟩ := c.def_ 15 (d := dd_is_mass) rfl
  obtain ⟨fd_check_masses, F_check_masses⟩ := c.def_ 16 (d := dd_check_masses) rfl
  obtain ⟨fd_check_stretches, F_check_stretches⟩ := c.def_ 17 (d := dd_check_stretches) rfl
  obtain ⟨fd_Weighting_init, F_Weighting_init⟩ := c.def_ 18 (d := dd_Weighting_init) rfl
  obtain ⟨fd_power_sum, F_power_sum⟩ := c.def_ 19 (d := dd_power_sum) rfl
  obtain ⟨fd_weighed, F_weighed⟩ := c.def_ 20 (d := dd_weighed) rfl
  obtain ⟨fd_ascending_places, F_ascending_places⟩ := c.def_ 21 (d := dd_ascending_places) rfl
  obtain ⟨fd_checked_places, F_checked_places⟩ := c.def_ 22 (d := dd_checked_places) rfl
  obtain ⟨fd_checked_weights, F_checked_weights⟩ := c.def_ 23 (d := dd_checked_weights) rfl
  obtain ⟨fd_served, F_served⟩ := c.def_ 24 (d := dd_served) rfl
  obtain ⟨fd_weights_for, F_weights_for⟩ := c.def_ 25 (d := dd_weights_for) rfl
  obtain ⟨fd_bar, F_bar⟩ := c.def_ 26 (d := dd_bar) rfl
  obtain ⟨fd_best_degree, F_best_degree⟩ := c.def_ 27 (d := dd_best_degree) rfl
  obtain ⟨fd_law_taken, F_law_taken⟩ := c.def_ 28 (d := dd_law_taken) rfl
  obtain ⟨fd_law_pick, F_law_pick⟩ := c.def_ 29 (d := dd_law_pick) rfl
  obtain ⟨fd_law_low, F_law_low⟩ := c.def_ 30 (d := dd_law_low) rfl
  obtain ⟨fd_law_add, F_law_add⟩ := c.def_ 31 (d := dd_law_add) rfl
  obtain ⟨fd_law_mul, F_law_mul⟩ := c.def_ 32 (d := dd_law_mul) rfl
  obtain ⟨fd_law_is_less, F_law_is_less⟩ := c.def_ 33 (d := dd_law_is_less) rfl
  obtain ⟨fd_law_masses, F_law_masses⟩ := c.def_ 34 (d := dd_law_masses) rfl
  obtain ⟨fd_law_stretches, F_law_stretches⟩ := c.def_ 35 (d := dd_law_stretches) rfl
  obtain ⟨fd_law_parts, F_law_parts⟩ := c.def_ 36 (d := dd_law_parts) rfl
  obtain ⟨fd_law_weighting, F_law_weighting⟩ := c.def_ 37 (d := dd_law_weighting) rfl
  obtain ⟨fd_law_sum, F_law_sum⟩ := c.def_ 38 (d := dd_law_sum) rfl
  obtain ⟨fd_law_places, F_law_places⟩ := c.def_ 39 (d := dd_law_places) rfl
  obtain ⟨fd_law_wide, F_law_wide⟩ := c.def_ 40 (d := dd_law_wide) rfl
  obtain ⟨fd_law_wide_v, F_law_wide_v⟩ := c.def_ 41 (d := dd_law_wide_v) rfl
  obtain ⟨fd_law_served, F_law_served⟩ := c.def_ 42 (d := dd_law_served) rfl
  obtain ⟨fd_law_served_l, F_law_served_l⟩ := c.def_ 43 (d := dd_law_served_l) rfl
  obtain ⟨fd_law_is_all, F_law_is_all⟩ := c.def_ 44 (d := dd_law_is_all) rfl
  obtain ⟨fd_law, F_law⟩ := c.def_ 45 (d := dd_law) rfl
  obtain ⟨fd_p_masses, F_p_masses⟩ := c.def_ 46 (d := dd_p_masses) rfl
  obtain ⟨fd_p_stretches, F_p_stretches⟩ := c.def_ 47 (d := dd_p_stretches) rfl
  have e0 := c.ext
  obtain ⟨x0, e1⟩ := He.ba e0
  obtain ⟨x1, e2⟩ := He.ba e1
  obtain ⟨x2, e3⟩ := He.ba e2
  obtain ⟨x3, e4⟩ := He.ba e3
  have x4 := e4
  have c_gcd := bltB_ok X G x2
  have c_NOUGHT := He.glo_ok X G (c.fact 66 (f := .glo "NOUGHT") rfl)
  have d_NOUGHT : ∀ F, Dq K F (.ref (He.ga K "NOUGHT")) (.tuple [.int (0), .int (1)]) := fun F => .tup (He.tupB_ok x3 F) (.cons (Dq.int _) (.cons (Dq.int _) (.nil)))
  have c_ONE := He.glo_ok X G (c.fact 67 (f := .glo "ONE") rfl)
  have d_ONE : ∀ F, Dq K F (.ref (He.ga K "ONE")) (.tuple [.int (1), .int (1)]) := fun F => .tup (He.tupB_ok x4 F) (.cons (Dq.int _) (.cons (Dq.int _) (.nil)))
  have c_FARTHEST := He.int_ok X G (c.fact 68 (f := .int "FARTHEST" (20)) rfl)
  have c_HEAVIEST := He.int_ok X G (c.fact 69 (f := .int "HEAVIEST" (20)) rfl)
  have c_MOST_MASSES := He.int_ok X G (c.fact 70 (f := .int "MOST_MASSES" (6)) rfl)
  have c_MOST_STRETCHES := He.int_ok X G (c.fact 71 (f := .int "MOST_STRETCHES" (4)) rfl)
  have c_MOST_POWER := He.int_ok X G (c.fact 72 (f := .int "MOST_POWER" (60)) rfl)
  have c_MOST_PLACES := He.int_ok X G (c.fact 73 (f := .int "MOST_PLACES" (6)) rfl)
  have cl := He.cls_ok (c.fact 62 (f := .cls "Weighting") rfl)
  have n_masses := He.noat_ok (c.fact 64 (f := .noat "Weighting" "_masses") rfl)
  have n_stretches := He.noat_ok (c.fact 65 (f := .noat "Weighting" "_stretches") rfl)
  have e := hfa.symm.trans (He.glo_ok X G (c.fact 60 (f := .glo "law") rfl))
  cases e
  have bl := FunD.bindsA (ps := ["_law_script"]) F_law fun _ _ _ _ _ _ us hl => match us, hl with | [_], _ => rfl
  refine ⟨fd_law, fun s v => bl s [v] rfl, fun base _ _ => ?_⟩
  have GP_masses : KnP P w K mg base (He.ga K "Weighting") "masses" "_masses" := knP_of x0 cl n_masses F_p_masses ⟨rfl, rfl, rfl, by decide +kernel, rfl, by decide +kernel, by decide +kernel⟩ rfl fun _ _ _ _ _ _ us hl => match us, hl with | [_], _ => rfl
  have GP_stretches : KnP P w K mg base (He.ga K "Weighting") "stretches" "_stretches" := knP_of x1 cl n_stretches F_p_stretches ⟨rfl, rfl, rfl, by decide +kernel, rfl, by decide +kernel, by decide +kernel⟩ rfl fun _ _ _ _ _ _ us hl => match us, hl with | [_], _ => rfl
  have G_whole_within : Kn P w K mg base "whole_within" 1 ["number", "low", "high"] (sp_whole_within K) := ⟨_, _, ok_whole_within (C := He.ga K "Weighting") B F_whole_within, He.glo_ok X G (c.fact 18 (f := .glo "whole_within") rfl), F_whole_within.kp, F_whole_within.bindsN fun _ _ _ _ _ _ us hl => match us, hl with | [_, _, _], _ => rfl⟩
  have G_check_within : Kn P w K mg base "check_within" 2 ["number", "low", "high"] (sp_check_within K) := ⟨_, _, ok_check_within (C := He.ga K "Weighting") B F_check_within G_whole_within, He.glo_ok X G (c.fact 19 (f := .glo "check_within") rfl), F_check_within.kp, F_check_within.bindsN fun _ _ _ _ _ _ us hl => match us, hl with | [_, _, _], _ => rfl⟩
  have G_power_of : Kn P w K mg base "power_of" 1 ["base", "power"] (sp_power_of K) := ⟨_, _, ok_power_of (C := He.ga K "Weighting") B F_power_of, He.glo_ok X G (c.fact 20 (f := .glo "power_of") rfl), F_power_of.kp, F_power_of.bindsN fun _ _ _ _ _ _ us hl => match us, hl with | [_, _], _ => rfl⟩
  have G_lowest : Kn P w K mg base "lowest" 1 ["top", "bottom"] (sp_lowest K) := ⟨_, _, ok_lowest (C := He.ga K "Weighting") B F_lowest c_gcd, He.glo_ok X G (c.fact 21 (f := .glo "lowest") rfl), F_lowest.kp, F_lowest.bindsN fun _ _ _ _ _ _ us hl => match us, hl with | [_, _], _ => rfl⟩
  have G_plus : Kn P w K mg base "plus" 2 ["one", "other"] (sp_plus K) := ⟨_, _, ok_plus (C := He.ga K "Weighting") B F_plus G_lowest, He.glo_ok X G (c.fact 22 (f := .glo "plus") rfl), F_plus.kp, F_plus.bindsN fun _ _ _ _ _ _ us hl => match us, hl with | [_, _], _ => rfl⟩
  have G_minus : Kn P w K mg base "minus" 2 ["one", "other"] (sp_minus K) := ⟨_, _, ok_minus (C := He.ga K "Weighting") B F_minus G_lowest, He.glo_ok X G (c.fact 23 (f := .glo "minus") rfl), F_minus.kp, F_minus.bindsN fun _ _ _ _ _ _ us hl => match us, hl with | [_, _], _ => rfl⟩
  have G_times : Kn P w K mg base "times" 2 ["one", "other"] (sp_times K) := ⟨_, _, ok_times (C := He.ga K "Weighting") B F_times G_lowest, He.glo_ok X G (c.fact 24 (f := .glo "times") rfl), F_times.kp, F_times.bindsN fun _ _ _ _ _ _ us hl => match us, hl with | [_, _], _ => rfl⟩
  have G_over : Kn P w K mg base "over" 2 ["one", "other"] (sp_over K) := ⟨_, _, ok_over (C := He.ga K "Weighting") B F_over G_lowest, He.glo_ok X G (c.fact 25 (f := .glo "over") rfl), F_over.kp, F_over.bindsN fun _ _ _ _ _ _ us hl => match us, hl with | [_, _], _ => rfl⟩
  have G_is_less : Kn P w K mg base "is_less" 1 ["one", "other"] (sp_is_less K) := ⟨_, _, ok_is_less (C := He.ga K "Weighting") B F_is_less, He.glo_ok X G (c.fact 26 (f := .glo "is_less") rfl), F_is_less.kp, F_is_less.bindsN fun _ _ _ _ _ _ us hl => match us, hl with | [_, _], _ => rfl⟩
  have G_added_up : Kn P w K mg base "added_up" 3 ["fractions"] (sp_added_up K) := ⟨_, _, ok_added_up (C := He.ga K "Weighting") B F_added_up G_plus c_NOUGHT d_NOUGHT, He.glo_ok X G (c.fact 27 (f := .glo "added_up") rfl), F_added_up.kp, F_added_up.bindsN fun _ _ _ _ _ _ us hl => match us, hl with | [_], _ => rfl⟩
  have G_with_root : Kn P w K mg base "with_root" 3 ["polynomial", "place"] (sp_with_root K) := ⟨_, _, ok_with_root (C := He.ga K "Weighting") B F_with_root G_times G_minus c_NOUGHT d_NOUGHT, He.glo_ok X G (c.fact 28 (f := .glo "with_root") rfl), F_with_root.kp, F_with_root.bindsN fun _ _ _ _ _ _ us hl => match us, hl with | [_, _], _ => rfl⟩
  have G_with_roots : Kn P w K mg base "with_roots" 4 ["places"] (sp_with_roots K) := ⟨_, _, ok_with_roots (C := He.ga K "Weighting") B F_with_roots G_with_root c_ONE d_ONE, He.glo_ok X G (c.fact 29 (f := .glo "with_roots") rfl), F_with_roots.kp, F_with_roots.bindsN fun _ _ _ _ _ _ us hl => match us, hl with | [_], _ => rfl⟩
  have G_worth : Kn P w K mg base "worth" 3 ["polynomial", "place"] (sp_worth K) := ⟨_, _, ok_worth (C := He.ga K "Weighting") B F_worth G_plus G_times c_NOUGHT d_NOUGHT, He.glo_ok X G (c.fact 30 (f := .glo "worth") rfl), F_worth.kp, F_worth.bindsN fun _ _ _ _ _ _ us hl => match us, hl with | [_, _], _ => rfl⟩
  have G_only_at : Kn P w K mg base "only_at" 5 ["places", "index"] (sp_only_at K) := ⟨_, _, ok_only_at (C := He.ga K "Weighting") B F_only_at G_with_roots G_worth G_over, He.glo_ok X G (c.fact 31 (f := .glo "only_at") rfl), F_only_at.kp, F_only_at.bindsN fun _ _ _ _ _ _ us hl => match us, hl with | [_, _], _ => rfl⟩
  have G_is_place : Kn P w K mg base "is_place" 2 ["number"] (sp_is_place K) := ⟨_, _, ok_is_place (C := He.ga K "Weighting") B F_is_place G_whole_within c_FARTHEST, He.glo_ok X G (c.fact 32 (f := .glo "is_place") rfl), F_is_place.kp, F_is_place.bindsN fun _ _ _ _ _ _ us hl => match us, hl with | [_], _ => rfl⟩
  have G_is_mass : Kn P w K mg base "is_mass" 2 ["number"] (sp_is_mass K) := ⟨_, _, ok_is_mass (C := He.ga K "Weighting") B F_is_mass G_whole_within c_HEAVIEST, He.glo_ok X G (c.fact 33 (f := .glo "is_mass") rfl), F_is_mass.kp, F_is_mass.bindsN fun _ _ _ _ _ _ us hl => match us, hl with | [_], _ => rfl⟩
  have G_check_masses : Kn P w K mg base "check_masses" 3 ["masses"] (sp_check_masses K) := ⟨_, _, ok_check_masses (C := He.ga K "Weighting") B F_check_masses G_is_place G_is_mass c_FARTHEST c_MOST_MASSES, He.glo_ok X G (c.fact 34 (f := .glo "check_masses") rfl), F_check_masses.kp, F_check_masses.bindsN fun _ _ _ _ _ _ us hl => match us, hl with | [_], _ => rfl⟩
  have G_check_stretches : Kn P w K mg base "check_stretches" 3 ["stretches"] (sp_check_stretches K) := ⟨_, _, ok_check_stretches (C := He.ga K "Weighting") B F_check_stretches G_is_place G_is_mass c_FARTHEST c_MOST_STRETCHES, He.glo_ok X G (c.fact 35 (f := .glo "check_stretches") rfl), F_check_stretches.kp, F_check_stretches.bindsN fun _ _ _ _ _ _ us hl => match us, hl with | [_], _ => rfl⟩
  have GC_Weighting : KnC P w K mg base CX0 "Weighting" (He.ga K "Weighting") 4 ["self", "masses", "stretches"] (spW0 Weighting_init K (He.ga K "Weighting")) := ⟨⟨_, _, He.mkr_ok (c.fact 63 (f := .mkr "Weighting") rfl), ok_Weighting_init (C := He.ga K "Weighting") B cl n_masses n_stretches F_Weighting_init G_check_masses G_check_stretches, F_Weighting_init.bindsN fun _ _ _ _ _ _ us hl => match us, hl with | [_, _, _], _ => rfl⟩, He.glo_ok X G (c.fact 61 (f := .glo "Weighting") rfl)⟩
  have G_power_sum : Kn P w K mg base "power_sum" 3 ["weighting", "power"] (sp_power_sum K (He.ga K "Weighting")) := ⟨_, _, ok_power_sum (C := He.ga K "Weighting") B F_power_sum G_check_within G_power_of G_lowest c_MOST_POWER GP_masses GP_stretches, He.glo_ok X G (c.fact 36 (f := .glo "power_sum") rfl), F_power_sum.kp, F_power_sum.bindsN fun _ _ _ _ _ _ us hl => match us, hl with | [_, _], _ => rfl⟩
  have G_weighed : Kn P w K mg base "weighed" 4 ["weighting", "coefficients"] (sp_weighed K (He.ga K "Weighting")) := ⟨_, _, ok_weighed (C := He.ga K "Weighting") B F_weighed G_added_up G_times G_power_sum, He.glo_ok X G (c.fact 37 (f := .glo "weighed") rfl), F_weighed.kp, F_weighed.bindsN fun _ _ _ _ _ _ us hl => match us, hl with | [_, _], _ => rfl⟩
  have G_ascending_places : Kn P w K mg base "ascending_places" 2 ["places", "most"] (sp_ascending_places K) := ⟨_, _, ok_ascending_places (C := He.ga K "Weighting") B F_ascending_places G_lowest G_is_less, He.glo_ok X G (c.fact 38 (f := .glo "ascending_places") rfl), F_ascending_places.kp, F_ascending_places.bindsN fun _ _ _ _ _ _ us hl => match us, hl with | [_, _], _ => rfl⟩
  have G_checked_places : Kn P w K mg base "checked_places" 3 ["places"] (sp_checked_places K) := ⟨_, _, ok_checked_places (C := He.ga K "Weighting") B F_checked_places G_ascending_places c_MOST_PLACES, He.glo_ok X G (c.fact 39 (f := .glo "checked_places") rfl), F_checked_places.kp, F_checked_places.bindsN fun _ _ _ _ _ _ us hl => match us, hl with | [_], _ => rfl⟩
  have G_checked_weights : Kn P w K mg base "checked_weights" 2 ["weights", "count"] (sp_checked_weights K) := ⟨_, _, ok_checked_weights (C := He.ga K "Weighting") B F_checked_weights G_lowest, He.glo_ok X G (c.fact 40 (f := .glo "checked_weights") rfl), F_checked_weights.kp, F_checked_weights.bindsN fun _ _ _ _ _ _ us hl => match us, hl with | [_, _], _ => rfl⟩
  have G_served : Kn P w K mg base "served" 4 ["weighting", "places", "weights"] (sp_served K (He.ga K "Weighting")) := ⟨_, _, ok_served (C := He.ga K "Weighting") B F_served G_checked_places G_checked_weights G_added_up G_power_sum G_times, He.glo_ok X G (c.fact 41 (f := .glo "served") rfl), F_served.kp, F_served.bindsN fun _ _ _ _ _ _ us hl => match us, hl with | [_, _, _], _ => rfl⟩
  have G_weights_for : Kn P w K mg base "weights_for" 6 ["weighting", "places"] (sp_weights_for K (He.ga K "Weighting")) := ⟨_, _, ok_weights_for (C := He.ga K "Weighting") B F_weights_for G_checked_places G_weighed G_only_at, He.glo_ok X G (c.fact 42 (f := .glo "weights_for") rfl), F_weights_for.kp, F_weights_for.bindsN fun _ _ _ _ _ _ us hl => match us, hl with | [_, _], _ => rfl⟩
  have G_bar : Kn P w K mg base "bar" 5 ["weighting", "places"] (sp_bar K (He.ga K "Weighting")) := ⟨_, _, ok_bar (C := He.ga K "Weighting") B F_bar G_checked_places G_with_roots G_weighed c_NOUGHT d_NOUGHT, He.glo_ok X G (c.fact 43 (f := .glo "bar") rfl), F_bar.kp, F_bar.bindsN fun _ _ _ _ _ _ us hl => match us, hl with | [_, _], _ => rfl⟩
  have G_best_degree : Kn P w K mg base "best_degree" 6 ["weighting", "places"] (sp_best_degree K (He.ga K "Weighting")) := ⟨_, _, ok_best_degree (C := He.ga K "Weighting") B F_best_degree G_bar, He.glo_ok X G (c.fact 44 (f := .glo "best_degree") rfl), F_best_degree.kp, F_best_degree.bindsN fun _ _ _ _ _ _ us hl => match us, hl with | [_, _], _ => rfl⟩
  have G_law_taken : Kn P w K mg base "_law_taken" 1 ["_law_row", "_law_many"] (spTaken takenA K) := ⟨_, _, ok_law_taken B F_law_taken, He.glo_ok X G (c.fact 45 (f := .glo "_law_taken") rfl), F_law_taken.kp, F_law_taken.bindsN fun _ _ _ _ _ _ us hl => match us, hl with | [_, _], _ => rfl⟩
  have G_law_pick : Kn P w K mg base "_law_pick" 2 ["_law_row", "_law_some"] (spPick takenA K) := ⟨_, _, ok_law_pick B F_law_pick G_law_taken, He.glo_ok X G (c.fact 46 (f := .glo "_law_pick") rfl), F_law_pick.kp, F_law_pick.bindsN fun _ _ _ _ _ _ us hl => match us, hl with | [_, _], _ => rfl⟩
  have G_law_low : Kn P w K mg base "_law_low" 1 ["_law_top", "_law_bottom"] (sp_law_low K) := ⟨_, _, ok_law_low (C := He.ga K "Weighting") B F_law_low, He.glo_ok X G (c.fact 47 (f := .glo "_law_low") rfl), F_law_low.kp, F_law_low.bindsN fun _ _ _ _ _ _ us hl => match us, hl with | [_, _], _ => rfl⟩
  have G_law_add : Kn P w K mg base "_law_add" 2 ["_law_one", "_law_other"] (sp_law_add K) := ⟨_, _, ok_law_add (C := He.ga K "Weighting") B F_law_add G_law_low, He.glo_ok X G (c.fact 48 (f := .glo "_law_add") rfl), F_law_add.kp, F_law_add.bindsN fun _ _ _ _ _ _ us hl => match us, hl with | [_, _], _ => rfl⟩
  have G_law_mul : Kn P w K mg base "_law_mul" 2 ["_law_one", "_law_other"] (sp_law_mul K) := ⟨_, _, ok_law_mul (C := He.ga K "Weighting") B F_law_mul G_law_low, He.glo_ok X G (c.fact 49 (f := .glo "_law_mul") rfl), F_law_mul.kp, F_law_mul.bindsN fun _ _ _ _ _ _ us hl => match us, hl with | [_, _], _ => rfl⟩
  have G_law_is_less : Kn P w K mg base "_law_is_less" 1 ["_law_one", "_law_other"] (sp_law_is_less K) := ⟨_, _, ok_law_is_less (C := He.ga K "Weighting") B F_law_is_less, He.glo_ok X G (c.fact 50 (f := .glo "_law_is_less") rfl), F_law_is_less.kp, F_law_is_less.bindsN fun _ _ _ _ _ _ us hl => match us, hl with | [_, _], _ => rfl⟩
  have G_law_masses : Kn P w K mg base "_law_masses" 3 ["_law_row", "_law_most", "_law_far"] (sp_law_masses K) := ⟨_, _, ok_law_masses (C := He.ga K "Weighting") B F_law_masses G_law_taken G_law_pick, He.glo_ok X G (c.fact 51 (f := .glo "_law_masses") rfl), F_law_masses.kp, F_law_masses.bindsN fun _ _ _ _ _ _ us hl => match us, hl with | [_, _, _], _ => rfl⟩
  have G_law_stretches : Kn P w K mg base "_law_stretches" 2 ["_law_row", "_law_most", "_law_far"] (sp_law_stretches K) := ⟨_, _, ok_law_stretches (C := He.ga K "Weighting") B F_law_stretches G_law_taken, He.glo_ok X G (c.fact 52 (f := .glo "_law_stretches") rfl), F_law_stretches.kp, F_law_stretches.bindsN fun _ _ _ _ _ _ us hl => match us, hl with | [_, _, _], _ => rfl⟩
  have G_law_parts : Kn P w K mg base "_law_parts" 4 ["_law_row"] (sp_law_parts K) := ⟨_, _, ok_law_parts (C := He.ga K "Weighting") B F_law_parts G_law_pick G_law_masses G_law_stretches, He.glo_ok X G (c.fact 53 (f := .glo "_law_parts") rfl), F_law_parts.kp, F_law_parts.bindsN fun _ _ _ _ _ _ us hl => match us, hl with | [_], _ => rfl⟩
  have G_law_weighting : Kn P w K mg base "_law_weighting" 6 ["_law_parts_here"] (sp_law_weighting K (He.ga K "Weighting")) := ⟨_, _, ok_law_weighting (C := He.ga K "Weighting") B F_law_weighting GC_Weighting, He.glo_ok X G (c.fact 54 (f := .glo "_law_weighting") rfl), F_law_weighting.kp, F_law_weighting.bindsN fun _ _ _ _ _ _ us hl => match us, hl with | [_], _ => rfl⟩
  have G_law_sum : Kn P w K mg base "_law_sum" 3 ["_law_parts_here", "_law_count"] (sp_law_sum K) := ⟨_, _, ok_law_sum (C := He.ga K "Weighting") B F_law_sum G_law_add G_law_low, He.glo_ok X G (c.fact 55 (f := .glo "_law_sum") rfl), F_law_sum.kp, F_law_sum.bindsN fun _ _ _ _ _ _ us hl => match us, hl with | [_, _], _ => rfl⟩
  have G_law_places : Kn P w K mg base "_law_places" 3 ["_law_row", "_law_most"] (sp_law_places K) := ⟨_, _, ok_law_places (C := He.ga K "Weighting") B F_law_places G_law_taken G_law_low G_law_pick G_law_is_less, He.glo_ok X G (c.fact 56 (f := .glo "_law_places") rfl), F_law_places.kp, F_law_places.bindsN fun _ _ _ _ _ _ us hl => match us, hl with | [_, _], _ => rfl⟩
  have G_law_wide : Kn P w K mg base "_law_wide" 3 ["_law_row", "_law_some"] (sp_law_wide K) := ⟨_, _, ok_law_wide (C := He.ga K "Weighting") B F_law_wide G_law_pick, He.glo_ok X G (c.fact 57 (f := .glo "_law_wide") rfl), F_law_wide.kp, F_law_wide.bindsN fun _ _ _ _ _ _ us hl => match us, hl with | [_, _], _ => rfl⟩
  have G_law_wide_v : Kn P w K mg base "_law_wide" 3 ["_law_row", "_law_some"] (sp_law_wide_v K) := ⟨_, _, ok_law_wide_v (C := He.ga K "Weighting") B F_law_wide_v G_law_pick, He.glo_ok X G (c.fact 57 (f := .glo "_law_wide") rfl), F_law_wide_v.kp, F_law_wide_v.bindsN fun _ _ _ _ _ _ us hl => match us, hl with | [_, _], _ => rfl⟩
  have G_law_served : Kn P w K mg base "_law_served" 4 ["_law_parts_here", "_law_places_here", "_law_weights"] (sp_law_served K) := ⟨_, _, ok_law_served (C := He.ga K "Weighting") B F_law_served G_law_mul G_law_add G_law_sum, He.glo_ok X G (c.fact 58 (f := .glo "_law_served") rfl), F_law_served.kp, F_law_served.bindsN fun _ _ _ _ _ _ us hl => match us, hl with | [_, _, _], _ => rfl⟩
  have G_law_served_l : Kn P w K mg base "_law_served" 4 ["_law_parts_here", "_law_places_here", "_law_weights"] (sp_law_served_l K) := ⟨_, _, ok_law_served_l (C := He.ga K "Weighting") B F_law_served_l G_law_mul G_law_add G_law_sum, He.glo_ok X G (c.fact 58 (f := .glo "_law_served") rfl), F_law_served_l.kp, F_law_served_l.bindsN fun _ _ _ _ _ _ us hl => match us, hl with | [_, _, _], _ => rfl⟩
  have G_law_is_all : Kn P w K mg base "_law_is_all" 1 ["_law_degree"] (sp_law_is_all K) := ⟨_, _, ok_law_is_all (C := He.ga K "Weighting") B F_law_is_all, He.glo_ok X G (c.fact 59 (f := .glo "_law_is_all") rfl), F_law_is_all.kp, F_law_is_all.bindsN fun _ _ _ _ _ _ us hl => match us, hl with | [_], _ => rfl⟩
  exact ok_law (C := He.ga K "Weighting") B F_law G_law_parts G_law_weighting G_law_places G_law_taken G_weights_for G_law_wide G_law_is_all G_law_served G_best_degree G_served G_law_add G_law_wide_v G_law_served_l
open PySem PySem.W PySem.Calls PyProof.Rows
theorem of_law (math : ∀ scr : List Int, scr.length ≤ 63 → law scr = .ok true) : PySem.Challenge.rw_fewreadings_k05_whole_degrees_that_rules.Holds := by
  w_on; o_law
  refine HandSHeadRun.head_imp (r := R) (q := vw) (H := hk) (ob := ob) (M := 6000) (loose := looseN) (d := HandSHeadRun.topDef R.prog 62) (kwd := []) ob_eq
    run (by kernel_rfl) (by kernel_rfl) (by kernel_rfl) (by rfl) (by first | assumption | decide +kernel) (by decide +kernel) ⟨rfl, rfl, rfl, rfl, rfl, by decide +kernel⟩ ?hw ?hc
  case hw => w_witness2
  case hc =>
    refine L2.walk_ofE (l := PySem.Challenge.rw_fewreadings_k05_whole_degrees_that_rules) (n := 63) (k := 7) (x := "_law_script") (CX := L2.CX0) rfl (by decide) (by kernel_rfl) ⟨rfl, by decide, by decide⟩ ?F (fun _ _ _ _ z => z)
    intro w mg fa h Y G hmg0
    obtain ⟨K, KX, c⟩ := Y
    have hmg : mg ("law" : PySem.Str) = some (.ref fa) := by
      have e : (HandSHeadRun.topDef R.prog 62).name = ("law" : PySem.Str) := by kernel_rfl
      rw [← e]
      exact hmg0
    obtain ⟨fd, hb, hF⟩ := facts (P := PySem.Challenge.rw_fewreadings_k05_whole_degrees_that_rules.prog) (w := w) KX G hmg c
    refine ⟨K, fd, sp_law K, KX, hb, fun H a ns hl _ hS => ⟨a, ns, rfl, hS, ?_⟩, hF⟩
    rw [math ns hl]
    exact ⟨fun H => rfl⟩
end L

set_option Elab.async false
set_option linter.all false
set_option maxRecDepth 100000
set_option maxHeartbeats 2000000
set_option exponentiation.threshold 100
namespace L
open PySem L2 Evl Wk
/-! ### fractions, in any terms -/
theorem lowest_any {a b : Int} {n : Nat} (h : b ≠ 0) (hb : b.natAbs < 2 ^ n) (hn : n < 9000) : lowest a b = .ok (fr ((a : Rat) / (b : Rat))) := by
  unfold lowest
  have g1 := Nat.lt_of_le_of_lt (gcd_leZ (a := a) h) hb
  have g0 := gcd_posZ (a := a) h
  by_cases q : b < 0
  · rw [cT (decide_eq_true q), bdo, div_any (by omega) (by rw [Int.natAbs_neg]; exact g1) hn, bdo, div_any (by omega) (by rw [Int.natAbs_neg]; exact g1) hn, bdo, fr_neg q]
  · rw [cF (decide_eq_false q), bdo, div_any (by omega) g1 hn, bdo, div_any (by omega) g1 hn, bdo, fr_pos (by omega)]
theorem lowest_ok {a b : Int} {n : Nat} (h : 0 < b) (hb : b.natAbs < 2 ^ n) (hn : n < 9000) : lowest a b = .ok (fr ((a : Rat) / (b : Rat))) := lowest_any (by omega) hb hn
theorem lowest_x {x : Int × Int} {q : Rat} {n : Nat} (h : Rx n x q) (hn : n < 9000) : lowest x.1 x.2 = .ok (fr q) := by rw [lowest_any h.nz h.b hn, h.v]
theorem plus_x {x y : Int × Int} {p q : Rat} {a b : Nat} (hx : Rx a x p) (hy : Rx b y q) (h : a + b < 8999) : plus x y = .ok (fr (p + q)) := by
  unfold plus
  rw [mul_ok hx.t hy.b (by omega), bdo, mul_ok hy.t hx.b (by omega), bdo, mul_ok hx.b hy.b (by omega), bdo, lowest_any (mul_nz hx.nz hy.nz) (mul_lt hx.b hy.b (Nat.le_refl _)) (by omega), bdo, rx_add hx hy]
theorem minus_x {x y : Int × Int} {p q : Rat} {a b : Nat} (hx : Rx a x p) (hy : Rx b y q) (h : a + b < 8999) : minus x y = .ok (fr (p - q)) := by
  unfold minus
  rw [mul_ok hx.t hy.b (by omega), bdo, mul_ok hy.t hx.b (by omega), bdo, mul_ok hx.b hy.b (by omega), bdo, lowest_any (mul_nz hx.nz hy.nz) (mul_lt hx.b hy.b (Nat.le_refl _)) (by omega), bdo, rx_sub hx hy]
theorem times_x {x y : Int × Int} {p q : Rat} {a b : Nat} (hx : Rx a x p) (hy : Rx b y q) (h : a + b < 8999) : times x y = .ok (fr (p * q)) := by
  unfold times
  rw [mul_ok hx.t hy.t (by omega), bdo, mul_ok hx.b hy.b (by omega), bdo, lowest_any (mul_nz hx.nz hy.nz) (mul_lt hx.b hy.b (Nat.le_refl _)) (by omega), bdo, rx_mul hx hy]
theorem plus_ok {p q : Rat} {a b : Nat} (ha : Sq a p) (hb : Sq b q) (h : a + b < 8999) : plus (fr p) (fr q) = .ok (fr (p + q)) := plus_x (rx_fr ha) (rx_fr hb) h
theorem minus_ok {p q : Rat} {a b : Nat} (ha : Sq a p) (hb : Sq b q) (h : a + b < 8999) : minus (fr p) (fr q) = .ok (fr (p - q)) := minus_x (rx_fr ha) (rx_fr hb) h
theorem times_ok {p q : Rat} {a b : Nat} (ha : Sq a p) (hb : Sq b q) (h : a + b < 8999) : times (fr p) (fr q) = .ok (fr (p * q)) := times_x (rx_fr ha) (rx_fr hb) h
theorem over_x {x y : Int × Int} {p q : Rat} {a b : Nat} (hx : Rx a x p) (hy : Rx b y q) (hq : q ≠ 0) (h : a + b < 8999) : over x y = .ok (fr (p / q)) := by
  unfold over
  rw [mul_ok hx.t hy.b (by omega), bdo, mul_ok hx.b hy.t (by omega), bdo, lowest_any (mul_nz hx.nz (hy.top hq)) (mul_lt hx.b hy.t (Nat.le_refl _)) (by omega), bdo, rx_div hx hy hq]
theorem over_ok {p q : Rat} {a b : Nat} (ha : Sq a p) (hb : Sq b q) (hq : q ≠ 0) (h : a + b < 8999) : over (fr p) (fr q) = .ok (fr (p / q)) := over_x (rx_fr ha) (rx_fr hb) hq h
theorem is_less_ok {p q : Rat} {a b : Nat} (ha : Sq a p) (hb : Sq b q) (h : a + b < 8999) : is_less (fr p) (fr q) = .ok (decide (p < q)) := by
  unfold is_less
  rw [mul_ok (i := (fr p).1) (j := (fr q).2) ha.1 hb.d (by omega), bdo, mul_ok (i := (fr q).1) (j := (fr p).2) hb.1 ha.d (by omega), bdo]
  congr 1
  exact decide_eq_decide.mpr (Rat.lt_iff p q).symm
theorem added_up_ok {c : Nat} (l : List Rat) (h : Sqs c l) (hl : (c + 1) * l.length < 8996) : added_up (l.map fr) = .ok (fr l.sum) ∧ Sq (1 + (c + 1) * l.length) l.sum := by
  unfold added_up
  rw [foldM_map]
  obtain ⟨A, B⟩ := fold_fr0 (f := fun (s : Int × Int) (x : Rat) => (plus s (fr x)).bd fun b => Mm.ok b) (v := id) (c := c) l (fun x hx => ⟨h x hx, fun p a ha hn => by rw [plus_ok ha (h x hx) hn, bdo]; rfl⟩) hl
  rw [List.map_id] at A B
  exact ⟨by rw [A, bdo], B⟩
theorem worth_ok {p : Rat} {b c : Nat} (hp : Sq b p) (l : List Rat) (h : Sqs c l) (hN : (b + c + 1) * l.length + 1 ≤ 8990) : worth (l.map fr) (fr p) = .ok (fr (ev l p)) := by
  unfold worth
  rw [← List.map_reverse, foldM_map, horner hp 8990 (fun x hx q a ha hN => ?_) l h hN, bdo]
  rw [times_ok ha hp (by omega), bdo, plus_ok (sq_mul ha hp (Nat.le_refl _)) hx (by omega), bdo]
/-! ### places, weights, polynomials that are handed in -/
theorem asc_step {f : List (Int × Int) → Int × (Int × Int) → Mm (List (Int × Int))} {done : List Rat} {p : Rat} {x : Int × Int} {most : Int} {c : Nat} (hc : c < 4000)
    (hf : ∀ s y, f s y = cond ((decide (y.1 = most)) || (decide (y.2.2 = (0 : Int)))) (Mm.bad) ((lowest (y.2.1) (y.2.2)).bd fun b49 => (cond (decide (y.1 > (0 : Int))) ((getM s (-(1 : Int))).bd fun i60 => (is_less (i60) (b49)).bd fun b65 => Mm.ok (!b65)) (Mm.ok false)).bd fun b56 => cond b56 (Mm.bad) ((guardM (s.length < 100000)).bd fun _ => Mm.ok (s ++ [b49]))))
    (hw : Rx c x p) (ha : ∀ q ∈ done, q < p) (hs : Sqs c done) (hl : (done.length : Int) < most) (hm : most ≤ 6) : f (done.map fr) ((done.length : Int), x) = .ok ((done ++ [p]).map fr) := by
  have g : guardM ((done.map fr).length < 100000) = .ok () := guard_ok (by rw [List.length_map]; omega)
  have c1 : (decide ((done.length : Int) = most) || decide (x.2 = 0)) = false := by
    rw [decide_eq_false (by omega), decide_eq_false hw.nz]
    rfl
  have e1 : cond (decide ((done.length : Int) > 0)) ((getM (done.map fr) (-(1 : Int))).bd fun i60 => (is_less (i60) (fr p)).bd fun b65 => Mm.ok (!b65)) (Mm.ok false) = Mm.ok false := by
    rcases List.eq_nil_or_concat done with e | ⟨l, q, e⟩
    · subst e
      rfl
    · rw [List.concat_eq_append] at e
      subst e
      rw [cT (decide_eq_true (by rw [List.length_append, List.length_singleton]; omega))]
      have hq : q ∈ l ++ [q] := by simp
      rw [List.map_append, List.map_cons, List.map_nil, getM_last, bdo, is_less_ok (hs q hq) hw.sq (by omega), bdo, decide_eq_true (ha q hq)]
      rfl
  rw [hf, cF (c := decide (((done.length : Int), x).1 = most) || decide (((done.length : Int), x).2.2 = 0)) c1, lowest_x hw (by omega), bdo, e1, bdo, cF rfl, g, bdo, List.map_append]
  rfl
theorem asc_fold {f : List (Int × Int) → Int × (Int × Int) → Mm (List (Int × Int))} {most : Int} {c : Nat} (hc : c < 4000) (hm : most ≤ 6)
    (hf : ∀ s y, f s y = cond ((decide (y.1 = most)) || (decide (y.2.2 = (0 : Int)))) (Mm.bad) ((lowest (y.2.1) (y.2.2)).bd fun b49 => (cond (decide (y.1 > (0 : Int))) ((getM s (-(1 : Int))).bd fun i60 => (is_less (i60) (b49)).bd fun b65 => Mm.ok (!b65)) (Mm.ok false)).bd fun b56 => cond b56 (Mm.bad) ((guardM (s.length < 100000)).bd fun _ => Mm.ok (s ++ [b49])))) :
    ∀ (ps : List Rat) (pl : List (Int × Int)) (done : List Rat), All2 (fun p x => Rx c x p) ps pl → (done ++ ps).Pairwise (· < ·) → Sqs c done → ((done ++ ps).length : Int) ≤ most → foldM f (done.map fr) (numL (done.length : Int) pl) = .ok ((done ++ ps).map fr) := by
  intro ps
  induction ps with
  | nil =>
    intro pl done h _ _ _
    cases h
    rw [List.append_nil]
    rfl
  | cons p ps ih =>
    intro pl done h ha hs hl
    cases h with
    | cons hw hr =>
      rw [List.length_append, List.length_cons] at hl
      have ha' := List.pairwise_append.mp ha
      unfold numL foldM
      rw [asc_step hc hf hw (fun q hq => ha'.2.2 q hq p (List.mem_cons_self ..)) hs (by omega) hm, bdo]
      have e : done ++ p :: ps = (done ++ [p]) ++ ps := by simp
      rw [e] at ha ⊢
      have := ih _ (done ++ [p]) hr ha (fun q hq => by
        rcases List.mem_append.mp hq with z | z
        · exact hs q z
        · rw [List.mem_singleton.mp z]; exact hw.sq) (by simp only [List.length_append, List.length_singleton]; omega)
      have e2 : ((done ++ [p]).length : Int) = (done.length : Int) + 1 := by simp
      rw [e2] at this
      exact this
theorem ascending_places_ok {ps : List Rat} {pl : List (Int × Int)} {c : Nat} {most : Int} (hc : c < 4000) (h : All2 (fun p x => Rx c x p) ps pl) (ha : ps.Pairwise (· < ·)) (hl : (ps.length : Int) ≤ most) (hm : most ≤ 6) : ascending_places pl most = .ok (ps.map fr) := by
  unfold ascending_places
  have f := asc_fold hc hm (fun _ _ => rfl) ps pl [] h ha (fun q hq => by cases hq) hl
  rw [enumL_eq]
  refine (congrArg (fun m => Mm.bd m _) f).trans ?_
  rfl
theorem checked_places_x {ps : List Rat} {pl : List (Int × Int)} {c : Nat} (hc : c < 4000) (h : All2 (fun p x => Rx c x p) ps pl) (ha : ps.Pairwise (· < ·)) (hl : ps.length ≤ 6) (h0 : 0 < ps.length) : checked_places pl = .ok (ps.map fr) := by
  have l := h.len
  unfold checked_places
  rw [cF (decide_eq_false (by omega)), ascending_places_ok hc h ha (by omega) (by decide), bdo]
theorem weights_fold {f : Unit → Int × (Int × Int) → Mm Unit} {count : Int} (hf : ∀ s y, f s y = cond ((decide (y.1 = count)) || (decide (y.2.2 = (0 : Int)))) (Mm.bad) (Mm.ok ())) : ∀ (l : List (Int × Int)) (k : Int), k + l.length ≤ count → (∀ x ∈ l, x.2 ≠ 0) → foldM f () (numL k l) = .ok ()
  | [], k, _, _ => rfl
  | x :: l, k, h, hn => by
    rw [List.length_cons] at h
    unfold numL foldM
    rw [hf, cF (by rw [decide_eq_false (by show ¬ k = count; omega), decide_eq_false (hn x (List.mem_cons_self ..))]; rfl), bdo]
    exact weights_fold hf l (k + 1) (by omega) fun y hy => hn y (List.mem_cons_of_mem _ hy)
theorem checked_weights_x {ws : List Rat} {wl : List (Int × Int)} {c : Nat} {n : Int} (hc : c < 9000) (h : All2 (fun p x => Rx c x p) ws wl) (hn : n = ws.length) (hl : ws.length ≤ 50000) : checked_weights wl n = .ok (ws.map fr) := by
  have l := h.len
  have nz := h.right (q := fun x => x.2 ≠ 0) fun _ _ r => r.nz
  unfold checked_weights
  rw [enumL_eq, weights_fold (fun _ _ => rfl) wl 0 (by omega) nz, bdo, cF (decide_eq_false (by omega)), guard_ok (by omega), bdo, h.map_eq (g := fr) fun x y _ r => by rw [lowest_x r hc, bdo], bdo]
def toR (l : List Int) : List Rat := l.map fun x => ((x : Int) : Rat)
theorem toR_fr (l : List Int) : (toR l).map fr = l.map fun x => (x, (1 : Int)) := by
  unfold toR
  rw [List.map_map]
  exact List.map_congr_left fun x _ => fr_of_int x
theorem toR_sq {l : List Int} {c : Nat} (h : ∀ x ∈ l, x.natAbs < 2 ^ c) (h0 : 0 < c) : Sqs c (toR l) := fun q hq => by
  obtain ⟨x, hx, rfl⟩ := List.mem_map.mp hq
  exact sq_int (h x hx) h0
def zipR (ps ws : List Rat) (f : List Rat) : List Rat := (ps.zip ws).map fun x => x.2 * ev f x.1
def Rd (ps ws f : List Rat) : Rat := (zipR ps ws f).sum
/-! ### weightings that are right, their sums -/
theorem pow_fold {f : Int → Int → Mm Int} {base : Int} {b : Nat} (hb : base.natAbs < 2 ^ b) (hf : ∀ s x, f s x = (mulM s base).bd fun m => Mm.ok m) : ∀ (l : List Int) (s : Int) (a : Nat), s.natAbs < 2 ^ a → a + b * (l.length + 1) ≤ 900000 → foldM f s l = .ok (s * base ^ l.length)
  | [], s, a, _, _ => by simp [foldM]
  | x :: l, s, a, ha, h => by
    have e : a + b + b * (l.length + 1) ≤ 900000 := by
      rw [List.length_cons] at h
      have : b * (l.length + 1 + 1) = b * (l.length + 1) + b := by rw [Nat.mul_succ]
      omega
    unfold foldM
    rw [hf, mul_ok ha hb (by omega)]
    show foldM f (s * base) l = _
    rw [pow_fold hb hf l (s * base) (a + b) (mul_lt ha hb (Nat.le_refl _)) e, List.length_cons, Int.mul_assoc, Int.pow_succ']
theorem pow_lt {base : Int} {b : Nat} (hb : base.natAbs < 2 ^ b) : ∀ n : Nat, (base ^ n).natAbs < 2 ^ (b * n + 1)
  | 0 => by simp
  | n + 1 => by
    rw [Int.pow_succ]
    exact mul_lt (pow_lt hb n) hb (by rw [Nat.mul_succ]; omega)
theorem power_of_ok {base power : Int} (hb : base.natAbs ≤ 20) (h : 0 ≤ power) (h2 : power ≤ 61) : power_of base power = .ok (base ^ power.toNat) := by
  unfold power_of
  rw [range_ok (by omega) (by omega)]
  show (foldM _ _ _).bd _ = _
  rw [pow_fold (base := base) (b := 5) (by omega) (fun s x => rfl) _ _ 1 (by decide) (by rw [rangeL_len]; omega), rangeL_len, Int.one_mul]
  rfl
theorem sum_lt {a : Nat} : ∀ l : List Int, (∀ x ∈ l, x.natAbs < 2 ^ a) → l.sum.natAbs < 2 ^ (a + l.length)
  | [], _ => by
    have := two_le (a + 0)
    show 0 < 2 ^ (a + 0)
    omega
  | x :: l, h => by
    rw [List.sum_cons]
    refine add_lt (h x (List.mem_cons_self ..)) (sum_lt l fun y hy => h y (List.mem_cons_of_mem _ hy)) ?_ ?_ <;> (rw [List.length_cons]; omega)
structure Good (w : Wt) : Prop where
  ms : ∀ m ∈ w.1, m.1.natAbs ≤ 20 ∧ 1 ≤ m.2 ∧ m.2 ≤ 20
  ss : ∀ s ∈ w.2, s.1.natAbs ≤ 20 ∧ s.2.1.natAbs ≤ 20 ∧ 1 ≤ s.2.2 ∧ s.2.2 ≤ 20 ∧ s.1 < s.2.1
  lm : w.1.length ≤ 6
  ls : w.2.length ≤ 4
  ne : w.1 ≠ [] ∨ w.2 ≠ []
def mI (k : Nat) (m : Int × Int) : Int := m.2 * m.1 ^ k
def sI (k : Nat) (s : Int × Int × Int) : Int := s.2.2 * (s.2.1 ^ (k + 1) - s.1 ^ (k + 1))
def PS (w : Wt) (k : Nat) : Rat := (((w.1.map (mI k)).sum * ((k : Int) + 1) + (w.2.map (sI k)).sum : Int) : Rat) / (((k : Int) + 1 : Int) : Rat)
theorem pow_lt20 {x : Int} {k : Nat} (h : x.natAbs ≤ 20) (hk : k ≤ 61) : (x ^ k).natAbs < 2 ^ 306 := up_lt (pow_lt (b := 5) (by omega) k) (by omega)
theorem mI_lt {k : Nat} {m : Int × Int} (h : m.1.natAbs ≤ 20 ∧ 1 ≤ m.2 ∧ m.2 ≤ 20) (hk : k ≤ 60) : (mI k m).natAbs < 2 ^ 320 :=
  mul_lt (a := 5) (by omega) (pow_lt20 h.1 (by omega)) (by decide)
theorem sI_lt {k : Nat} {s : Int × Int × Int} (h : s.1.natAbs ≤ 20 ∧ s.2.1.natAbs ≤ 20 ∧ 1 ≤ s.2.2 ∧ s.2.2 ≤ 20 ∧ s.1 < s.2.1) (hk : k ≤ 60) : (sI k s).natAbs < 2 ^ 320 :=
  mul_lt (a := 5) (by omega) (sub_lt (n := 307) (pow_lt20 h.2.1 (by omega)) (pow_lt20 h.1 (by omega)) (by decide) (by decide)) (by decide)
theorem small_lt {k : Nat} (hk : k ≤ 60) : ((k : Int) + 1).natAbs < 2 ^ 6 := by
  have : (2 : Nat) ^ 6 = 64 := by decide
  omega
theorem sums_lt {w : Wt} (g : Good w) {k : Nat} (hk : k ≤ 60) : (w.1.map (mI k)).sum.natAbs < 2 ^ 326 ∧ (w.2.map (sI k)).sum.natAbs < 2 ^ 326 := by
  constructor
  · refine up_lt (sum_lt (a := 320) _ fun x hx => ?_) (by rw [List.length_map]; have := g.lm; omega)
    obtain ⟨m, hm, rfl⟩ := List.mem_map.mp hx
    exact mI_lt (g.ms m hm) hk
  · refine up_lt (sum_lt (a := 320) _ fun x hx => ?_) (by rw [List.length_map]; have := g.ls; omega)
    obtain ⟨m, hm, rfl⟩ := List.mem_map.mp hx
    exact sI_lt (g.ss m hm) hk
theorem sq_PS {w : Wt} (g : Good w) {k : Nat} (hk : k ≤ 60) : Sq 340 (PS w k) := by
  obtain ⟨a, b⟩ := sums_lt g hk
  refine sq_div (by omega) ?_ (up_lt (small_lt hk) (by decide))
  exact add_lt (mul_lt a (small_lt hk) (Nat.le_refl _)) b (by decide) (by decide)
theorem whole_ok {n l h : Int} (a : l ≤ n) (b : n ≤ h) : whole_within n l h = .ok true := by
  unfold whole_within
  rw [decide_eq_true a, decide_eq_true b]
  rfl
theorem check_within_ok {n l h : Int} (a : l ≤ n) (b : n ≤ h) : check_within n l h = .ok () := by
  unfold check_within
  rw [whole_ok a b, bdo]
  rfl
theorem power_sum_ok {w : Wt} (g : Good w) {p : Int} (h0 : 0 ≤ p) (h1 : p ≤ 60) : power_sum w p = .ok (fr (PS w p.toNat)) := by
  unfold power_sum
  rw [check_within_ok h0 h1]
  show (guardM _).bd _ = _
  rw [bd_guard (by have := g.lm; omega), mapMm_eq (g := mI p.toNat) _ fun x hx => ?_]
  · show (guardM _).bd _ = _
    rw [bd_guard (by have := g.ls; omega), mapMm_eq (g := sI p.toNat) _ fun x hx => ?_]
    · obtain ⟨a, b⟩ := sums_lt g (k := p.toNat) (by omega)
      have e : p + 1 = ((p.toNat : Nat) : Int) + 1 := by omega
      have sm := small_lt (k := p.toNat) (by omega)
      show (mulM (List.sum _) _).bd _ = _
      rw [e, mul_ok a sm (by decide)]
      show (lowest _ _).bd _ = _
      rw [lowest_ok (by omega) sm (by decide)]
      rfl
    · have q := g.ss x hx
      have e : (p + 1).toNat = p.toNat + 1 := by omega
      rw [power_of_ok q.2.1 (by omega) (by omega)]
      show (power_of _ _).bd _ = _
      rw [power_of_ok q.1 (by omega) (by omega)]
      show (mulM _ _).bd _ = _
      rw [e, mul_ok (a := 5) (b := 307) (by omega) (sub_lt (pow_lt20 q.2.1 (by omega)) (pow_lt20 q.1 (by omega)) (by decide) (by decide)) (by decide)]
      rfl
  · have q := g.ms x hx
    rw [power_of_ok q.1 (by omega) (by omega)]
    show (mulM _ _).bd _ = _
    rw [mul_ok (a := 5) (b := 306) (by omega) (pow_lt20 q.1 (by omega)) (by decide)]
    rfl
theorem sum_cast {α : Type} (f : α → Int) : ∀ l : List α, (l.map fun x => ((f x : Int) : Rat)).sum = (((l.map f).sum : Int) : Rat)
  | [] => rfl
  | x :: l => by
    rw [List.map_cons, List.sum_cons, List.map_cons, List.sum_cons, sum_cast f l]
    push_cast
    rfl
theorem sum_castD {α : Type} (f : α → Int) (c : Rat) : ∀ l : List α, (l.map fun x => ((f x : Int) : Rat) / c).sum = (((l.map f).sum : Int) : Rat) / c
  | [] => by
    show (0 : Rat) = ((0 : Int) : Rat) / c
    push_cast
    grind
  | x :: l => by
    rw [List.map_cons, List.sum_cons, List.map_cons, List.sum_cons, sum_castD f c l]
    push_cast
    grind
theorem sum_nn : ∀ l : List Int, (∀ x ∈ l, 0 < x) → 0 ≤ l.sum ∧ (l ≠ [] → 0 < l.sum)
  | [], _ => ⟨by decide, fun h => absurd rfl h⟩
  | x :: l, h => by
    have a := (sum_nn l fun y hy => h y (List.mem_cons_of_mem _ hy)).1
    have b := h x (List.mem_cons_self ..)
    rw [List.sum_cons]
    exact ⟨by omega, fun _ => by omega⟩
theorem PS0_pos {w : Wt} (g : Good w) : 0 < PS w 0 := by
  have a := sum_nn (w.1.map (mI 0)) fun x hx => by
    obtain ⟨m, hm, rfl⟩ := List.mem_map.mp hx
    have := g.ms m hm
    unfold mI
    rw [Int.pow_zero]
    omega
  have b := sum_nn (w.2.map (sI 0)) fun x hx => by
    obtain ⟨s, hs, rfl⟩ := List.mem_map.mp hx
    have := g.ss s hs
    unfold sI
    rw [Int.pow_succ, Int.pow_zero, Int.pow_succ, Int.pow_zero, Int.one_mul, Int.one_mul]
    exact Int.mul_pos (by omega) (by omega)
  have c : 0 < (w.1.map (mI 0)).sum + (w.2.map (sI 0)).sum := by
    rcases g.ne with h | h
    · have := a.2 (by simpa using h)
      omega
    · have := b.2 (by simpa using h)
      omega
  unfold PS
  have e : (((w.1.map (mI 0)).sum * (((0 : Nat) : Int) + 1) + (w.2.map (sI 0)).sum : Int) : Rat) / (((((0 : Nat) : Int) + 1 : Int)) : Rat) = (((w.1.map (mI 0)).sum + (w.2.map (sI 0)).sum : Int) : Rat) := by
    push_cast
    grind
  rw [e]
  exact Rat.intCast_pos.mpr c
theorem pow_lt12 {x : Int} {k : Nat} (h : x.natAbs ≤ 20) (hk : k ≤ 13) : (x ^ k).natAbs < 2 ^ 66 := up_lt (pow_lt (b := 5) (by omega) k) (by omega)
theorem sq_PS12 {w : Wt} (g : Good w) {k : Nat} (hk : k ≤ 12) : Sq 90 (PS w k) := by
  have sm : ((k : Int) + 1).natAbs < 2 ^ 4 := by
    have : (2 : Nat) ^ 4 = 16 := by decide
    omega
  have a : (w.1.map (mI k)).sum.natAbs < 2 ^ 80 := by
    refine up_lt (sum_lt (a := 72) _ fun x hx => ?_) (by rw [List.length_map]; have := g.lm; omega)
    obtain ⟨m, hm, rfl⟩ := List.mem_map.mp hx
    have q := g.ms m hm
    exact mul_lt (a := 5) (by omega) (pow_lt12 q.1 (by omega)) (by decide)
  have b : (w.2.map (sI k)).sum.natAbs < 2 ^ 80 := by
    refine up_lt (sum_lt (a := 72) _ fun x hx => ?_) (by rw [List.length_map]; have := g.ls; omega)
    obtain ⟨s, hs, rfl⟩ := List.mem_map.mp hx
    have q := g.ss s hs
    exact mul_lt (a := 5) (by omega) (sub_lt (n := 67) (pow_lt12 q.2.1 (by omega)) (pow_lt12 q.1 (by omega)) (by decide) (by decide)) (by decide)
  refine sq_div (by omega) ?_ (up_lt sm (by decide))
  exact add_lt (mul_lt a sm (Nat.le_refl _)) b (by decide) (by decide)
def tW (w : Wt) (x : Int × Rat) : Rat := x.2 * PS w x.1.toNat
def WS (w : Wt) (l : List Rat) : Rat := ((numL 0 l).map (tW w)).sum
theorem weighed_ok {w : Wt} (g : Good w) {l : List Rat} {c : Nat} (hl : l.length ≤ 13) (hc : Sqs c l) (hN : (c + 91) * l.length < 8990) : weighed w (l.map fr) = .ok (fr (WS w l)) ∧ Sq (1 + (c + 91) * l.length) (WS w l) := by
  have each : ∀ x ∈ numL 0 l, (0 ≤ x.1 ∧ x.1 ≤ 12) ∧ Sq c x.2 ∧ Sq (c + 90) (tW w x) := fun x hx => by
    obtain ⟨a, b, m⟩ := numL_mem l 0 x hx
    have s1 := hc _ m
    exact ⟨by omega, s1, sq_mul s1 (sq_PS12 g (by omega)) (Nat.le_refl _)⟩
  have sm : Sqs (c + 90) ((numL 0 l).map (tW w)) := fun q hq => by
    obtain ⟨y, hy, rfl⟩ := List.mem_map.mp hq
    exact (each y hy).2.2
  have ln : ((numL 0 l).map (tW w)).length = l.length := by rw [List.length_map, numL_len]
  obtain ⟨A, A2⟩ := added_up_ok _ sm (by rw [ln]; show (c + 91) * l.length < 8996; omega)
  rw [ln] at A2
  refine ⟨?_, A2⟩
  unfold weighed
  rw [enumL_eq, numL_map, guard_ok (by rw [List.length_map, numL_len]; omega), bdo, mapMm_map, mapMm_eq (g := fun x => fr (tW w x)) _ fun x hx => ?_, bdo]
  · have e : (numL 0 l).map (fun x => fr (tW w x)) = ((numL 0 l).map (tW w)).map fr := by
      rw [List.map_map]
      rfl
    rw [e, A, bdo]
    rfl
  · obtain ⟨a, b, m⟩ := each x hx
    by_cases z : 90 + c < 8999
    · show (power_sum w x.1).bd _ = _
      rw [power_sum_ok g a.1 (by omega), bdo]
      show (times (fr x.2) _).bd _ = _
      rw [times_ok b (sq_PS12 g (by omega)) (by omega), bdo]
      rfl
    · exfalso
      have : 0 < l.length := by
        have := (numL_mem l 0 x hx)
        omega
      have : (c + 91) * 1 ≤ (c + 91) * l.length := Nat.mul_le_mul_left _ this
      omega
structure MsOk (ms : Ms) : Prop where
  each : ∀ m ∈ ms, m.1.natAbs ≤ 20 ∧ 1 ≤ m.2 ∧ m.2 ≤ 20
  asc : (ms.map (·.1)).Pairwise (· < ·)
  len : ms.length ≤ 6
theorem zeroW : MsOk [(0, 1)] := ⟨by decide, by decide, by decide⟩
def SsTo : Int → Ss → Int → Prop
  | a, [], z => a ≤ z
  | a, s :: l, z => a ≤ s.1 ∧ s.1 < s.2.1 ∧ 1 ≤ s.2.2 ∧ s.2.2 ≤ 20 ∧ SsTo s.2.1 l z
theorem SsTo.le : ∀ {l : Ss} {a z : Int}, SsTo a l z → a ≤ z
  | [], _, _, h => h
  | s :: l, a, z, h => by
    have := SsTo.le h.2.2.2.2
    have := h.1
    have := h.2.1
    omega
theorem SsTo.up : ∀ {l : Ss} {a z z' : Int}, SsTo a l z → z ≤ z' → SsTo a l z'
  | [], _, _, _, h, k => Int.le_trans h k
  | s :: l, _, _, _, ⟨a, b, c, d, e⟩, k => ⟨a, b, c, d, SsTo.up e k⟩
theorem SsTo.low : ∀ {l : Ss} {a a' z : Int}, SsTo a l z → a' ≤ a → SsTo a' l z
  | [], _, _, _, h, k => Int.le_trans k h
  | s :: l, _, _, _, ⟨a, b, c, d, e⟩, k => ⟨Int.le_trans k a, b, c, d, e⟩
theorem SsTo.app {lo hi h : Int} : ∀ {l : Ss} {a y : Int}, SsTo a l y → y ≤ lo → lo < hi → 1 ≤ h → h ≤ 20 → SsTo a (l ++ [(lo, hi, h)]) hi
  | [], a, y, h1, h2, h3, h4, h5 => ⟨Int.le_trans h1 h2, h3, h4, h5, Int.le_refl _⟩
  | s :: l, a, y, ⟨a1, b, c, d, e⟩, h2, h3, h4, h5 => ⟨a1, b, c, d, SsTo.app e h2 h3 h4 h5⟩
theorem SsTo.each : ∀ {l : Ss} {a z : Int}, SsTo a l z → -20 ≤ a → z ≤ 20 → ∀ s ∈ l, s.1.natAbs ≤ 20 ∧ s.2.1.natAbs ≤ 20 ∧ 1 ≤ s.2.2 ∧ s.2.2 ≤ 20 ∧ s.1 < s.2.1
  | [], _, _, _, _, _, _, h => by cases h
  | t :: l, a, z, ⟨a1, b, c, d, e⟩, ha, hz, s, h => by
    have := SsTo.le e
    rcases List.mem_cons.mp h with rfl | h
    · omega
    · exact SsTo.each e (by omega) hz s h
theorem is_place_ok {n : Int} (h : n.natAbs ≤ 20) : is_place n = .ok true := by
  unfold is_place
  rw [whole_ok (by omega) (by omega)]
  rfl
theorem is_mass_ok {n : Int} (h : 1 ≤ n) (h2 : n ≤ 20) : is_mass n = .ok true := by
  unfold is_mass
  rw [whole_ok h h2]
  rfl
theorem check_masses_ok {ms : Ms} (g : MsOk ms) : check_masses ms = .ok () := by
  unfold check_masses
  rw [enumL_eq]
  have k : ∀ (l : Ms) (k a : Int), 0 ≤ k → k + l.length ≤ 6 → (∀ m ∈ l, m.1.natAbs ≤ 20 ∧ 1 ≤ m.2 ∧ m.2 ≤ 20) → (l.map (·.1)).Pairwise (· < ·) → (∀ m ∈ l, a < m.1) →
      ∃ r, foldM (fun (b5 : Int) (x6 : (Int × (Int × Int))) => (cond (decide (x6.1 = (6 : Int))) (Mm.ok true) ((is_place (x6.2.1)).bd fun b42 => (cond (!b42) (Mm.ok true) ((is_mass (x6.2.2)).bd fun b53 => Mm.ok ((!b53) || (decide (x6.2.1 ≤ b5))))).bd fun b49 => Mm.ok b49)).bd fun b38 => cond b38 (Mm.bad) (Mm.ok x6.2.1)) a (numL k l) = .ok r := by
    intro l
    induction l with
    | nil => intro k a _ _ _ _ _; exact ⟨a, rfl⟩
    | cons m l ih =>
      intro k a h0 h1 h2 h3 h4
      obtain ⟨q1, q2⟩ := List.pairwise_cons.mp (show (m.1 :: l.map (·.1)).Pairwise (· < ·) from h3)
      obtain ⟨r, hr⟩ := ih (k + 1) m.1 (by omega) (by rw [List.length_cons] at h1; omega) (fun x hx => h2 x (List.mem_cons_of_mem _ hx)) q2 (fun x hx => q1 x.1 (List.mem_map_of_mem hx))
      refine ⟨r, ?_⟩
      have hm := h2 m (List.mem_cons_self ..)
      have ha := h4 m (List.mem_cons_self ..)
      unfold numL foldM
      rw [show decide ((k, m).1 = 6) = false from decide_eq_false (by show ¬ k = 6; rw [List.length_cons] at h1; omega)]
      simp only [bdo, cond_false, cond_true, Bool.not_true, Bool.false_or, is_place_ok hm.1, is_mass_ok hm.2.1 hm.2.2, decide_eq_false (show ¬ m.1 ≤ a by omega)]
      exact hr
  obtain ⟨r, hr⟩ := k ms 0 (-20 - 1) (by decide) (by have := g.len; omega) g.each g.asc (fun m hm => by have := g.each m hm; omega)
  rw [hr]
  rfl
theorem check_stretches_ok {ss : Ss} {z : Int} (g : SsTo (-20) ss z) (hz : z ≤ 20) (hl : ss.length ≤ 4) : check_stretches ss = .ok () := by
  unfold check_stretches
  rw [enumL_eq]
  have k : ∀ (l : Ss) (k a : Int), 0 ≤ k → k + l.length ≤ 4 → -20 ≤ a → SsTo a l z →
      ∃ r, foldM (fun (b5 : Int) (x6 : (Int × (Int × Int × Int))) => (cond (decide (x6.1 = (4 : Int))) (Mm.ok true) ((is_place (x6.2.1)).bd fun b45 => (cond (!b45) (Mm.ok true) ((is_place (x6.2.2.1)).bd fun b56 => (cond (!b56) (Mm.ok true) ((is_mass (x6.2.2.2)).bd fun b67 => Mm.ok (!b67))).bd fun b63 => Mm.ok b63)).bd fun b52 => Mm.ok b52)).bd fun b41 => cond b41 (Mm.bad) (cond ((decide (x6.2.1 < b5)) || (decide (x6.2.2.1 ≤ x6.2.1))) (Mm.bad) (Mm.ok x6.2.2.1))) a (numL k l) = .ok r := by
    intro l
    induction l with
    | nil => intro k a _ _ _ _; exact ⟨a, rfl⟩
    | cons m l ih =>
      intro k a h0 h1 h2 h3
      obtain ⟨q1, q2, q3, q4, q5⟩ := h3
      have q6 := q5.le
      obtain ⟨r, hr⟩ := ih (k + 1) m.2.1 (by omega) (by rw [List.length_cons] at h1; omega) (by omega) q5
      refine ⟨r, ?_⟩
      unfold numL foldM
      rw [show decide ((k, m).1 = 4) = false from decide_eq_false (by show ¬ k = 4; rw [List.length_cons] at h1; omega)]
      simp only [bdo, cond_false, cond_true, Bool.not_true, Bool.false_or, is_place_ok (show m.1.natAbs ≤ 20 by omega), is_place_ok (show m.2.1.natAbs ≤ 20 by omega), is_mass_ok q3 q4, decide_eq_false (show ¬ m.1 < a by omega), decide_eq_false (show ¬ m.2.1 ≤ m.1 by omega)]
      exact hr
  obtain ⟨r, hr⟩ := k ss 0 (-20) (by decide) (by omega) (by decide) g
  rw [hr]
  rfl
structure WOk (w : Wt) : Prop where
  ms : MsOk w.1
  ss : SsTo (-20) w.2 20
  ls : w.2.length ≤ 4
  ne : w.1 ≠ [] ∨ w.2 ≠ []
theorem WOk.good {w : Wt} (h : WOk w) : Good w := ⟨h.ms.each, h.ss.each (by decide) (by decide), h.ms.len, h.ls, h.ne⟩
theorem map_id3 (l : Ss) : l.map (fun x => (x.1, x.2.1, x.2.2)) = l := by
  conv => rhs; rw [← List.map_id l]
  rfl
theorem map_id2 (l : Ms) : l.map (fun x => (x.1, x.2)) = l := by
  conv => rhs; rw [← List.map_id l]
  rfl
theorem init_ok {w : Wt} (h : WOk w) : Weighting_init w.1 w.2 = .ok w := by
  have hm := h.ms.len
  have hs := h.ls
  unfold Weighting_init
  rw [check_masses_ok h.ms]
  show (check_stretches w.2).bd _ = _
  rw [check_stretches_ok h.ss (by decide) h.ls]
  have e : cond (decide ((w.1.length : Int) = 0)) (Mm.ok (decide ((w.2.length : Int) = 0))) (Mm.ok false) = Mm.ok false := by
    by_cases q : (w.1.length : Int) = 0
    · rw [decide_eq_true q]
      rcases h.ne with n | n
      · exact absurd (List.length_eq_zero_iff.mp (by omega)) n
      · rw [decide_eq_false (show ¬ (w.2.length : Int) = 0 from fun z => n (List.length_eq_zero_iff.mp (by omega)))]
        rfl
    · rw [decide_eq_false q]
      rfl
  show Mm.bd (cond (decide ((w.1.length : Int) = 0)) (Mm.ok (decide ((w.2.length : Int) = 0))) (Mm.ok false)) _ = _
  rw [e]
  show (guardM _).bd _ = _
  rw [bd_guard (by omega), mapMm_eq (f := fun (x28 : Int × Int) => Mm.ok (x28.1, x28.2)) (g := fun x => (x.1, x.2)) _ fun x hx => rfl, map_id2]
  show (guardM _).bd _ = _
  rw [bd_guard (by omega), mapMm_eq (f := fun (x75 : Int × Int × Int) => Mm.ok (x75.1, x75.2.1, x75.2.2)) (g := fun x => (x.1, x.2.1, x.2.2)) _ fun x hx => rfl, map_id3]
  rfl
/-! ### polynomials by their roots -/
def rp (p : Rat) : Rat → List Rat → List Rat
  | z, [] => [z]
  | z, x :: l => (z - x * p) :: rp p x l
theorem rp_len (p : Rat) : ∀ (l : List Rat) (z : Rat), (rp p z l).length = l.length + 1
  | [], _ => rfl
  | x :: l, z => by
    unfold rp
    rw [List.length_cons, rp_len p l, List.length_cons]
theorem zip_rp (p : Rat) : ∀ (l : List Rat) (z : Rat), ((z :: l).zip (l.map (· * p) ++ [0])).map (fun x => x.1 - x.2) = rp p z l
  | [], z => by
    show [z - 0] = [z]
    congr 1
    grind
  | x :: l, z => by
    rw [List.map_cons, List.cons_append, List.zip_cons_cons, List.map_cons, zip_rp p l x]
    rfl
theorem with_root_ok {p : Rat} {l : List Rat} {a b : Nat} (hp : Sq b p) (hl : Sqs a l) (ha : 0 < a) (h : 2 * a + b < 8990) (hn : l.length < 40000) : with_root (l.map fr) (fr p) = .ok ((rp p 0 l).map fr) := by
  unfold with_root
  rw [bd_guard (by simp only [List.length_map, List.length_cons, List.length_nil]; omega), bd_guard (by rw [List.length_map]; omega), mapMm_map, mapMm_eq (g := fun x => fr (x * p)) _ fun x hx => ?_]
  · have e1 : [((0, 1) : Int × Int)] ++ l.map fr = (0 :: l).map fr := by rw [List.map_cons, fr_zero]; rfl
    have e2 : l.map (fun x => fr (x * p)) ++ [((0, 1) : Int × Int)] = (l.map (· * p) ++ [0]).map fr := by
      rw [List.map_append, List.map_map, List.map_cons, fr_zero]
      rfl
    show (guardM _).bd _ = _
    rw [bd_guard (by simp only [List.length_map, List.length_cons, List.length_nil]; omega), e1, e2, List.zip_map, bd_guard (by simp only [List.length_map, List.length_zip, List.length_cons, List.length_append, List.length_nil]; omega), mapMm_map, mapMm_eq (g := fun x => fr (x.1 - x.2)) _ fun x hx => ?_]
    · show Mm.ok _ = _
      rw [← zip_rp, List.map_map]
      rfl
    · have m := List.of_mem_zip (a := x.1) (b := x.2) hx
      have h1 : Sq a x.1 := by
        rcases List.mem_cons.mp m.1 with e | e
        · rw [e]; exact zero_sqn ha
        · exact hl _ e
      have h2 : Sq (a + b) x.2 := by
        rcases List.mem_append.mp m.2 with e | e
        · obtain ⟨y, hy, e⟩ := List.mem_map.mp e
          rw [← e]
          exact sq_mul (hl y hy) hp (Nat.le_refl _)
        · rw [List.mem_singleton.mp e]
          exact zero_sqn (by omega)
      show (minus (fr x.1) (fr x.2)).bd _ = _
      rw [minus_ok h1 h2 (by omega)]
      rfl
  · show (times (fr x) (fr p)).bd _ = _
    rw [times_ok (hl x hx) hp (by omega)]
    rfl
def WRf (ps l : List Rat) : List Rat := ps.foldl (fun l p => rp p 0 l) l
def WR (ps : List Rat) : List Rat := WRf ps [1]
theorem WRf_len : ∀ (ps l : List Rat), (WRf ps l).length = l.length + ps.length
  | [], l => rfl
  | p :: ps, l => by
    show (WRf ps (rp p 0 l)).length = _
    rw [WRf_len ps, rp_len, List.length_cons]
    omega
theorem WR_len (ps : List Rat) : (WR ps).length = ps.length + 1 := by
  unfold WR
  rw [WRf_len]
  show 1 + _ = _
  omega
/-! ### what has a bottom in common -/
def Dv (D : Int) (a : Nat) (q : Rat) : Prop := ∃ n : Int, q = (n : Rat) / (D : Rat) ∧ n.natAbs < 2 ^ a
theorem Dv.sq {D : Int} {a : Nat} {q : Rat} (h : Dv D a q) (h0 : 0 < D) (hD : D.natAbs < 2 ^ a) : Sq a q := by
  obtain ⟨n, rfl, hn⟩ := h
  exact sq_div h0 hn hD
theorem Dv.up {D : Int} {a b : Nat} {q : Rat} (h : Dv D a q) (k : a ≤ b) : Dv D b q := by
  obtain ⟨n, e, hn⟩ := h
  exact ⟨n, e, up_lt hn k⟩
theorem dv_zero {D : Int} {a : Nat} : Dv D a 0 := ⟨0, by push_cast; grind, by have := two_le a; show 0 < 2 ^ a; omega⟩
theorem dv_step {D B : Int} {a e : Nat} {z x p : Rat} (hD : 0 < D) (hB : 0 < B) (hz : Dv D a z) (hx : Dv D a x) (hp : Dv B e p) (hBe : B.natAbs < 2 ^ e) : Dv (D * B) (a + e + 1) (z - x * p) := by
  obtain ⟨n, rfl, hn⟩ := hz
  obtain ⟨m, rfl, hm⟩ := hx
  obtain ⟨s, rfl, hs⟩ := hp
  refine ⟨n * B - m * s, ?_, sub_lt (mul_lt hn hBe (Nat.le_refl _)) (mul_lt hm hs (Nat.le_refl _)) (by omega) (by omega)⟩
  have k1 := intc_ne (n := D) (by omega)
  have k2 := intc_ne (n := B) (by omega)
  push_cast
  grind
theorem dv_last {D B : Int} {a e : Nat} {z : Rat} (hD : 0 < D) (hB : 0 < B) (hz : Dv D a z) (hBe : B.natAbs < 2 ^ e) : Dv (D * B) (a + e + 1) z := by
  obtain ⟨n, rfl, hn⟩ := hz
  refine ⟨n * B, ?_, mul_lt hn hBe (by omega)⟩
  have k1 := intc_ne (n := D) (by omega)
  have k2 := intc_ne (n := B) (by omega)
  push_cast
  grind
theorem rp_dv {D B : Int} {a e : Nat} {p : Rat} (hD : 0 < D) (hB : 0 < B) (hp : Dv B e p) (hBe : B.natAbs < 2 ^ e) : ∀ (l : List Rat) (z : Rat), Dv D a z → (∀ x ∈ l, Dv D a x) → ∀ q ∈ rp p z l, Dv (D * B) (a + e + 1) q
  | [], z, hz, _, q, hq => by
    rw [List.mem_singleton.mp hq]
    exact dv_last hD hB hz hBe
  | x :: l, z, hz, hl, q, hq => by
    have hx := hl x (List.mem_cons_self ..)
    rcases List.mem_cons.mp hq with rfl | hq
    · exact dv_step hD hB hz hx hp hBe
    · exact rp_dv hD hB hp hBe l x hx (fun y hy => hl y (List.mem_cons_of_mem _ hy)) q hq
theorem wrf_dv {B : Int} {e : Nat} (hB : 0 < B) (hBe : B.natAbs < 2 ^ e) : ∀ (ps l : List Rat) (D : Int) (a : Nat), 0 < D → (∀ p ∈ ps, Dv B e p) → (∀ x ∈ l, Dv D a x) → ∀ q ∈ WRf ps l, Dv (D * B ^ ps.length) (a + (e + 1) * ps.length) q
  | [], l, D, a, _, _, hl, q, hq => by
    rw [List.length_nil, Int.pow_zero, Int.mul_one]
    exact hl q hq
  | p :: ps, l, D, a, hD, hp, hl, q, hq => by
    have h := wrf_dv hB hBe ps (rp p 0 l) (D * B) (a + e + 1) (Int.mul_pos hD hB) (fun q hq => hp q (List.mem_cons_of_mem _ hq)) (rp_dv hD hB (hp p (List.mem_cons_self ..)) hBe l 0 dv_zero hl) q hq
    have e1 : D * B * B ^ ps.length = D * B ^ (p :: ps).length := by rw [List.length_cons, Int.pow_succ, Int.mul_assoc, Int.mul_comm B]
    have e2 : a + e + 1 + (e + 1) * ps.length = a + (e + 1) * (p :: ps).length := by rw [List.length_cons, Nat.mul_succ]; omega
    rw [e1, e2] at h
    exact h
structure PB (B : Int) (e : Nat) (ps : List Rat) : Prop where
  b0 : 0 < B
  be : B.natAbs < 2 ^ e
  each : ∀ p ∈ ps, Dv B e p
theorem PB.sq {B : Int} {e : Nat} {ps : List Rat} (h : PB B e ps) : Sqs e ps := fun p hp => (h.each p hp).sq h.b0 h.be
theorem PB.sub {B : Int} {e : Nat} {ps qs : List Rat} (h : PB B e ps) (k : ∀ p ∈ qs, p ∈ ps) : PB B e qs := ⟨h.b0, h.be, fun p hp => h.each p (k p hp)⟩
theorem pow_ltZ {B : Int} {e : Nat} (h : B.natAbs < 2 ^ e) : ∀ n : Nat, (B ^ n).natAbs < 2 ^ (e * n + 1)
  | 0 => by simp
  | n + 1 => by
    rw [Int.pow_succ]
    exact mul_lt (pow_ltZ h n) h (by rw [Nat.mul_succ]; omega)
theorem pow_posZ {B : Int} (h : 0 < B) : ∀ n : Nat, 0 < B ^ n
  | 0 => by rw [Int.pow_zero]; decide
  | n + 1 => by
    rw [Int.pow_succ]
    exact Int.mul_pos (pow_posZ h n) h
theorem dv_one {a : Nat} : Dv 1 (a + 1) 1 := ⟨1, by decide +kernel, by have := two_le a; show 1 < 2 ^ (a + 1); rw [Nat.pow_succ]; omega⟩
theorem WR_sq {B : Int} {e : Nat} {ps : List Rat} (h : PB B e ps) : Sqs (1 + (e + 1) * ps.length) (WR ps) := fun q hq => by
  have d := wrf_dv h.b0 h.be ps [1] 1 1 (by decide) h.each (fun x hx => by rw [List.mem_singleton.mp hx]; exact dv_one) q hq
  rw [Int.one_mul] at d
  refine d.sq (pow_posZ h.b0 _) (up_lt (pow_ltZ h.be _) ?_)
  rw [Nat.succ_mul]
  omega
theorem with_roots_fold {B : Int} {e : Nat} {f : List (Int × Int) → (Int × Int) → Mm (List (Int × Int))} (hf : ∀ s x, f s x = (with_root s x).bd fun b => .ok b) (hB : 0 < B) (hBe : B.natAbs < 2 ^ e) : ∀ (ps l : List Rat) (D : Int) (a : Nat), 0 < D → D.natAbs < 2 ^ a → 0 < a → (∀ p ∈ ps, Dv B e p) → (∀ x ∈ l, Dv D a x) → 2 * (a + (e + 1) * ps.length) + e < 8990 → l.length + ps.length < 1000 → foldM f (l.map fr) (ps.map fr) = .ok ((WRf ps l).map fr)
  | [], l, D, a, _, _, _, _, _, _, _ => rfl
  | p :: ps, l, D, a, hD, hDa, ha, hp, hl, hN, hn => by
    have e2 : (e + 1) * (p :: ps).length = (e + 1) * ps.length + (e + 1) := by rw [List.length_cons, Nat.mul_succ]
    rw [List.length_cons] at hn
    have sp := (hp p (List.mem_cons_self ..)).sq hB hBe
    have sl : Sqs a l := fun x hx => (hl x hx).sq hD hDa
    rw [List.map_cons]
    unfold foldM
    rw [hf, with_root_ok sp sl ha (by omega) (by omega), bdo, bdo]
    exact with_roots_fold hf hB hBe ps (rp p 0 l) (D * B) (a + e + 1) (Int.mul_pos hD hB) (mul_lt hDa hBe (by omega)) (by omega) (fun q hq => hp q (List.mem_cons_of_mem _ hq)) (rp_dv hD hB (hp p (List.mem_cons_self ..)) hBe l 0 dv_zero hl) (by omega) (by rw [rp_len]; omega)
theorem with_roots_ok {B : Int} {e : Nat} {ps : List Rat} (h : PB B e ps) (hl : ps.length ≤ 12) (he : e ≤ 100) : with_roots (ps.map fr) = .ok ((WR ps).map fr) := by
  unfold with_roots
  have m : (e + 1) * ps.length ≤ 101 * 12 := Nat.mul_le_mul (by omega) hl
  have := with_roots_fold (f := fun (b10 : (List (Int × Int))) (x11 : (Int × Int)) => (with_root (b10) (x11)).bd fun b31 => Mm.ok b31) (fun _ _ => rfl) h.b0 h.be ps [1] 1 1 (by decide) (by decide) (by decide) h.each (fun x hx => by rw [List.mem_singleton.mp hx]; exact dv_one) (by omega) (by show 1 + ps.length < 1000; omega)
  rw [List.map_cons, fr_one] at this
  rw [show ([((1, 1) : Int × Int)] : List (Int × Int)) = (1, 1) :: List.map fr [] from rfl, this]
  rfl
/-! ### values -/
theorem ev_rp (p x : Rat) : ∀ (l : List Rat) (z : Rat), ev (rp p z l) x = z + ev l x * (x - p)
  | [], z => by
    show z + x * 0 = z + 0 * (x - p)
    grind
  | c :: l, z => by
    show (z - c * p) + x * ev (rp p c l) x = z + (c + x * ev l x) * (x - p)
    rw [ev_rp p x l c]
    grind
def prd (x : Rat) (ps : List Rat) : Rat := ps.foldl (fun a p => a * (x - p)) 1
theorem prd_from (x : Rat) : ∀ (ps : List Rat) (a : Rat), ps.foldl (fun a p => a * (x - p)) a = a * prd x ps
  | [], a => by
    show a = a * 1
    grind
  | p :: ps, a => by
    unfold prd
    rw [List.foldl_cons, List.foldl_cons, prd_from x ps, prd_from x ps]
    grind
theorem prd_cons (x p : Rat) (ps : List Rat) : prd x (p :: ps) = (x - p) * prd x ps := by
  unfold prd
  rw [List.foldl_cons, prd_from]
  show 1 * (x - p) * prd x ps = _
  unfold prd
  grind
theorem ev_WRf (x : Rat) : ∀ (ps l : List Rat), ev (WRf ps l) x = ev l x * prd x ps
  | [], l => by
    show ev l x = ev l x * 1
    grind
  | p :: ps, l => by
    show ev (WRf ps (rp p 0 l)) x = _
    rw [ev_WRf x ps, ev_rp, prd_cons]
    grind
theorem ev_WR (x : Rat) (ps : List Rat) : ev (WR ps) x = prd x ps := by
  unfold WR
  rw [ev_WRf]
  show (1 + x * 0) * _ = _
  grind
theorem prd_ne {x : Rat} : ∀ {ps : List Rat}, x ∉ ps → prd x ps ≠ 0
  | [], _ => by
    show (1 : Rat) ≠ 0
    decide
  | p :: ps, h => by
    have h1 : x ≠ p := fun e => h (by rw [e]; exact List.mem_cons_self ..)
    have h2 := prd_ne (x := x) (ps := ps) fun e => h (List.mem_cons_of_mem _ e)
    rw [prd_cons]
    intro z
    rcases Rat.mul_eq_zero.mp z with q | q
    · exact h1 (by grind)
    · exact h2 q
theorem prd_zero {x : Rat} : ∀ {ps : List Rat}, x ∈ ps → prd x ps = 0
  | [], h => by cases h
  | p :: ps, h => by
    rw [prd_cons]
    rcases List.mem_cons.mp h with rfl | h
    · grind
    · rw [prd_zero h]
      grind
theorem prd_sq {B : Int} {e : Nat} {x : Rat} : ∀ {ps : List Rat}, 0 < B → B.natAbs < 2 ^ e → Dv B e x → (∀ p ∈ ps, Dv B e p) → Sq (1 + (e + 1) * ps.length) (prd x ps)
  | [], _, _, _, _ => one_sq
  | p :: ps, hB, hBe, hx, hp => by
    have ih := prd_sq (ps := ps) hB hBe hx fun q hq => hp q (List.mem_cons_of_mem _ hq)
    have d : Sq (e + 1) (x - p) := by
      obtain ⟨n, rfl, hn⟩ := hx
      obtain ⟨m, rfl, hm⟩ := hp p (List.mem_cons_self ..)
      have k := intc_ne (n := B) (by omega)
      have e1 : (n : Rat) / (B : Rat) - (m : Rat) / (B : Rat) = ((n - m : Int) : Rat) / (B : Rat) := by
        push_cast
        grind
      rw [e1]
      exact sq_div hB (sub_lt hn hm (by omega) (by omega)) (up_lt hBe (by omega))
    rw [prd_cons]
    exact sq_mul d ih (by rw [List.length_cons, Nat.mul_succ]; omega)
/-! ### the polynomial that is 1 at one place and 0 at the others -/
def oth (ps : List Rat) (i : Nat) : List Rat := ps.take i ++ ps.drop (i + 1)
def LB (ps : List Rat) (i : Nat) : List Rat := (WR (oth ps i)).map fun c => c / prd (ps.getD i 0) (oth ps i)
theorem oth_len {ps : List Rat} {i : Nat} (h : i < ps.length) : (oth ps i).length = ps.length - 1 := by
  unfold oth
  rw [List.length_append, List.length_take, List.length_drop]
  omega
theorem oth_mem {ps : List Rat} {i : Nat} {q : Rat} (h : q ∈ oth ps i) : q ∈ ps := by
  rcases List.mem_append.mp h with h | h
  · exact List.mem_of_mem_take h
  · exact List.mem_of_mem_drop h
theorem oth_not {ps : List Rat} {i : Nat} (ha : ps.Pairwise (· < ·)) (h : i < ps.length) : ps[i] ∉ oth ps i := by
  have e : ps = ps.take i ++ ps[i] :: ps.drop (i + 1) := by
    rw [← List.drop_eq_getElem_cons h, List.take_append_drop]
  have k : ∀ (l r : List Rat) (x : Rat), (l ++ x :: r).Pairwise (· < ·) → x ∉ l ++ r := fun l r x hp hx => by
    obtain ⟨_, h2, h3⟩ := List.pairwise_append.mp hp
    rcases List.mem_append.mp hx with q | q
    · exact absurd (h3 x q x (List.mem_cons_self ..)) (by grind)
    · exact absurd ((List.pairwise_cons.mp h2).1 x q) (by grind)
  exact k _ _ _ (by rw [← e]; exact ha)
theorem getD_at {ps : List Rat} {i : Nat} (h : i < ps.length) : ps.getD i 0 = ps[i] := by
  rw [List.getD_eq_getElem?_getD, List.getElem?_eq_getElem h]
  rfl
theorem cut_lo {α : Type} (l : List α) (n : Nat) (h : n ≤ l.length) : cutL l none (some (n : Int)) = l.take n := by
  unfold cutL
  rw [HT.sIx_none, HT.sIx_nat, Nat.min_eq_left h]
  rfl
theorem cut_hi {α : Type} (l : List α) (n : Nat) (h : n ≤ l.length) : cutL l (some (n : Int)) none = l.drop n := by
  unfold cutL
  rw [HT.sIx_none, HT.sIx_nat, Nat.min_eq_left h]
  exact List.take_of_length_le (by rw [List.length_drop]; omega)
theorem LB_len {ps : List Rat} {i : Nat} (h : i < ps.length) : (LB ps i).length = ps.length := by
  unfold LB
  rw [List.length_map, WR_len, oth_len h]
  omega
theorem LB_sq {B : Int} {e : Nat} {ps : List Rat} (hp : PB B e ps) (ha : ps.Pairwise (· < ·)) {i : Nat} (h : i < ps.length) : Sqs (2 * (1 + (e + 1) * (ps.length - 1))) (LB ps i) := fun q hq => by
  have ho : PB B e (oth ps i) := hp.sub fun p hp => oth_mem hp
  obtain ⟨c, hc, rfl⟩ := List.mem_map.mp hq
  have s1 := WR_sq ho c hc
  have s2 := prd_sq (ps := oth ps i) hp.b0 hp.be (hp.each ps[i] (List.getElem_mem h)) ho.each
  rw [oth_len h] at s1 s2
  have ne := prd_ne (oth_not ha h)
  rw [getD_at h]
  exact sq_divB s1 s2 ne (by omega)
theorem only_at_ok {B : Int} {e : Nat} {ps : List Rat} (hp : PB B e ps) (ha : ps.Pairwise (· < ·)) (hl : ps.length ≤ 6) (he : e ≤ 30) {i : Nat} (h : i < ps.length) : only_at (ps.map fr) (i : Int) = .ok ((LB ps i).map fr) := by
  have ho : PB B e (oth ps i) := hp.sub fun p hp => oth_mem hp
  have ol := oth_len h
  have sW := WR_sq ho
  have m : (e + 1) * (oth ps i).length ≤ 31 * 5 := Nat.mul_le_mul (by omega) (by omega)
  have s2 := prd_sq (ps := oth ps i) hp.b0 hp.be (hp.each ps[i] (List.getElem_mem h)) ho.each
  have wl := WR_len (oth ps i)
  have mm : (e + (1 + (e + 1) * (oth ps i).length) + 1) * (WR (oth ps i)).length ≤ 200 * 6 := Nat.mul_le_mul (by omega) (by omega)
  unfold only_at
  rw [cut_lo _ _ (by rw [List.length_map]; omega), show ((i : Int) + 1) = ((i + 1 : Nat) : Int) by omega, cut_hi _ _ (by rw [List.length_map]; omega), guard_ok (by rw [List.length_take, List.length_drop, List.length_map]; omega), bdo]
  have e1 : (ps.map fr).take i ++ (ps.map fr).drop (i + 1) = (oth ps i).map fr := by
    unfold oth
    rw [List.map_append, List.map_take, List.map_drop]
  rw [e1, with_roots_ok ho (by omega) (by omega), bdo, getM_map (List.getElem?_eq_getElem h), bdo, worth_ok (hp.sq _ (List.getElem_mem h)) _ sW (by omega), bdo, ev_WR, guard_ok (by rw [List.length_map]; omega), bdo, mapMm_map, mapMm_eq (g := fun c => fr (c / prd ps[i] (oth ps i))) _ fun c hc => ?_, bdo]
  · congr 1
    unfold LB
    rw [List.map_map, getD_at h]
    rfl
  · rw [over_ok (sW c hc) s2 (prd_ne (oth_not ha h)) (by omega), bdo]
/-! ### weights -/
def Wts (w : Wt) (ps : List Rat) : List Rat := (List.range ps.length).map fun i => WS w (LB ps i)
theorem Wts_len (w : Wt) (ps : List Rat) : (Wts w ps).length = ps.length := by
  unfold Wts
  rw [List.length_map, List.length_range]
theorem wt_sq {w : Wt} (g : Good w) {B : Int} {e : Nat} {ps : List Rat} (hp : PB B e ps) (ha : ps.Pairwise (· < ·)) (hl : ps.length ≤ 6) (he : e ≤ 30) {i : Nat} (h : i < ps.length) : weighed w ((LB ps i).map fr) = .ok (fr (WS w (LB ps i))) ∧ Sq (1 + (2 * (1 + (e + 1) * (ps.length - 1)) + 91) * ps.length) (WS w (LB ps i)) := by
  have m : (e + 1) * (ps.length - 1) ≤ 31 * 5 := Nat.mul_le_mul (by omega) (by omega)
  have mm : (2 * (1 + (e + 1) * (ps.length - 1)) + 91) * ps.length ≤ 403 * 6 := Nat.mul_le_mul (by omega) hl
  have := weighed_ok g (l := LB ps i) (c := 2 * (1 + (e + 1) * (ps.length - 1))) (by rw [LB_len h]; omega) (LB_sq hp ha h) (by rw [LB_len h]; omega)
  rw [LB_len h] at this
  exact this
theorem WS_sq {w : Wt} (g : Good w) {B : Int} {e : Nat} {ps : List Rat} (hp : PB B e ps) (ha : ps.Pairwise (· < ·)) (hl : ps.length ≤ 6) (he : e ≤ 30) {i : Nat} (h : i < ps.length) : Sq (1 + (2 * (1 + (e + 1) * (ps.length - 1)) + 91) * ps.length) (WS w (LB ps i)) := by
  have sL := LB_sq hp ha h
  have k : ∀ l : List (Int × Rat), (∀ x ∈ l, Sq (2 * (1 + (e + 1) * (ps.length - 1)) + 90) (tW w x)) → Sq (1 + (2 * (1 + (e + 1) * (ps.length - 1)) + 91) * l.length) (l.map (tW w)).sum := fun l => by
    induction l with
    | nil => intro _; exact zero_sqn (by omega)
    | cons x l ih =>
      intro hx
      rw [List.map_cons, List.sum_cons]
      exact sq_add (hx x (List.mem_cons_self ..)) (ih fun y hy => hx y (List.mem_cons_of_mem _ hy)) (by rw [List.length_cons, Nat.mul_succ]; omega)
  have q := k (numL 0 (LB ps i)) fun x hx => by
    obtain ⟨a, b, m⟩ := numL_mem _ 0 x hx
    have := LB_len h
    exact sq_mul (sL _ m) (sq_PS12 g (by omega)) (Nat.le_refl _)
  rw [numL_len, LB_len h] at q
  exact q
theorem weights_for_ok {w : Wt} (g : Good w) {B : Int} {e c : Nat} {ps : List Rat} {pl : List (Int × Int)} (hc : c < 4000) (hr : All2 (fun p x => Rx c x p) ps pl) (hp : PB B e ps) (ha : ps.Pairwise (· < ·)) (hl : ps.length ≤ 6) (h0 : 0 < ps.length) (he : e ≤ 30) : weights_for w pl = .ok ((Wts w ps).map fr) := by
  unfold weights_for
  rw [checked_places_x hc hr ha hl h0, bdo, rangeM_ok (by rw [List.length_map]; omega), bdo, Int.toNat_natCast, guard_ok (by rw [rangeL_len, List.length_map]; omega), bdo, List.length_map]
  have e1 : rangeL 0 ps.length = (List.range ps.length).map fun (i : Nat) => ((i : Nat) : Int) := by
    unfold rangeL
    exact List.map_congr_left fun i _ => Int.zero_add _
  rw [e1, mapMm_map, mapMm_eq (g := fun i => fr (WS w (LB ps i))) _ fun i hi => ?_, bdo]
  · congr 1
    unfold Wts
    rw [List.map_map]
    rfl
  · have lt := List.mem_range.mp hi
    rw [only_at_ok hp ha hl he lt, bdo, (wt_sq g hp ha hl he lt).1, bdo]
theorem Wts_sq {w : Wt} (g : Good w) {B : Int} {e : Nat} {ps : List Rat} (hp : PB B e ps) (ha : ps.Pairwise (· < ·)) (hl : ps.length ≤ 6) (he : e ≤ 30) : Sqs (1 + (2 * (1 + (e + 1) * (ps.length - 1)) + 91) * ps.length) (Wts w ps) := fun q hq => by
  obtain ⟨i, hi, rfl⟩ := List.mem_map.mp hq
  exact (wt_sq g hp ha hl he (List.mem_range.mp hi)).2
/-! ### indexes -/
theorem filMm_eq {α γ : Type} {f : α → Mm (Option γ)} (g : α → Option γ) : ∀ l : List α, (∀ x ∈ l, f x = .ok (g x)) → filMm f l = .ok (l.filterMap g)
  | [], _ => rfl
  | x :: l, h => by
    unfold filMm
    rw [h x (List.mem_cons_self ..), bdo, filMm_eq g l fun y hy => h y (List.mem_cons_of_mem _ hy), bdo, List.filterMap_cons]
    cases g x <;> rfl
theorem filMm_map {α β γ : Type} {f : β → Mm (Option γ)} {g : α → β} : ∀ l : List α, filMm f (l.map g) = filMm (fun x => f (g x)) l
  | [] => rfl
  | x :: l => by
    rw [List.map_cons]
    unfold filMm
    rw [filMm_map l]
theorem numL_fst {α : Type} : ∀ (l : List α) (k : Int), (numL k l).map (·.1) = rangeL k l.length
  | [], k => rfl
  | x :: l, k => by
    unfold numL
    rw [List.map_cons, numL_fst l, List.length_cons, rangeL_succ]
theorem numL_at {α : Type} {l : List α} {y : Int × α} (h : y ∈ numL 0 l) : l[y.1.toNat]? = some y.2 ∧ 0 ≤ y.1 := by
  have k : ∀ (l pre : List α) (y : Int × α), y ∈ numL (pre.length : Int) l → (pre ++ l)[y.1.toNat]? = some y.2 := fun l => by
    induction l with
    | nil => intro pre y h; cases h
    | cons x l ih =>
      intro pre y h
      rcases List.mem_cons.mp h with rfl | h
      · show (pre ++ x :: l)[((pre.length : Int)).toNat]? = some x
        rw [Int.toNat_natCast]
        simp
      · have := ih (pre ++ [x]) y (by rw [List.length_append, List.length_singleton]; exact h)
        simpa using this
  exact ⟨by simpa using k l [] y h, (numL_mem l 0 y h).1⟩
def idx (P : Rat → Bool) (l : List Rat) : List Int := (numL 0 l).filterMap fun y => if P y.2 then some y.1 else none
theorem idx_prog {f : Int × (Int × Int) → Mm (Option Int)} (P : Rat → Bool) (l : List Rat) (hf : ∀ (i : Int) (q : Rat), q ∈ l → f (i, fr q) = .ok (if P q then some i else none)) : filMm f (enumL (l.map fr)) = .ok (idx P l) := by
  rw [enumL_eq, numL_map, filMm_map]
  exact filMm_eq _ _ fun y hy => hf y.1 y.2 (numL_mem l 0 y hy).2.2
theorem idx_law {f : Int → Mm (Option Int)} (P : Rat → Bool) (l : List Rat) (hf : ∀ (i : Nat) (q : Rat), l[i]? = some q → f (i : Int) = .ok (if P q then some (i : Int) else none)) : filMm f (rangeL 0 l.length) = .ok (idx P l) := by
  rw [← numL_fst, filMm_map]
  refine filMm_eq _ _ fun y hy => ?_
  obtain ⟨h1, h2⟩ := numL_at hy
  have e : y.1 = ((y.1.toNat : Nat) : Int) := by omega
  have := hf y.1.toNat y.2 h1
  rw [← e] at this
  exact this
theorem fr_isz (q : Rat) : decide (fr q = ((0, 1) : Int × Int)) = decide (q = 0) := by
  rw [← fr_zero]
  exact decide_eq_decide.mpr ⟨fr_inj, fun h => by rw [h]⟩
theorem fr_isp (q : Rat) : decide ((fr q).1 > (0 : Int)) = decide (0 < q) := decide_eq_decide.mpr (by
  constructor
  · intro h
    have v := fr_val q
    have p : (0 : Rat) < ((fr q).1 : Rat) := Rat.intCast_pos.mpr h
    have d : (0 : Rat) < ((fr q).2 : Rat) := Rat.intCast_pos.mpr (den_posI q)
    rw [← v, Rat.div_def]
    exact Rat.mul_pos p (Rat.inv_pos.mpr d)
  · exact fun h => num_pos' h)
structure Pls (n : Nat) (pl : List (Int × Int)) (ps : List Rat) : Prop where
  rx : All2 (fun p x => Rx 7 x p) ps pl
  asc : ps.Pairwise (· < ·)
  len : ps.length ≤ n
  pos : 0 < ps.length
  pb : ∃ B, PB B 6 ps
theorem int_pls {n : Nat} (zs : List Int) (h : zs.Pairwise (· < ·)) (hb : ∀ z ∈ zs, z.natAbs ≤ 40) (hl : zs.length ≤ n) (h0 : 0 < zs.length) : Pls n (zs.map fun z => (z, (1 : Int))) (zs.map fun z => ((z : Int) : Rat)) := by
  have e6 : (2 : Nat) ^ 6 = 64 := by decide
  have e7 : (2 : Nat) ^ 7 = 128 := by decide
  refine ⟨?_, ?_, by rw [List.length_map]; exact hl, by rw [List.length_map]; exact h0, 1, by decide, by decide, fun p hp => ?_⟩
  · clear h hl h0
    induction zs with
    | nil => exact .nil
    | cons z zs ih => exact .cons (rx_int (by have := hb z (List.mem_cons_self ..); omega) (by decide)) (ih fun y hy => hb y (List.mem_cons_of_mem _ hy))
  · rw [List.pairwise_map]
    exact h.imp fun k => Rat.intCast_lt_intCast.mpr k
  · obtain ⟨z, hz, rfl⟩ := List.mem_map.mp hp
    refine ⟨z, ?_, by have := hb z hz; omega⟩
    push_cast
    grind
theorem mass_places (w : Wt) : w.1.map (fun x => (x.1, (1 : Int))) = (w.1.map (·.1)).map fun z => (z, (1 : Int)) := by rw [List.map_map]; rfl
/-! ### interpolation -/
theorem ev_map_mul (c x : Rat) : ∀ l : List Rat, ev (l.map (c * ·)) x = c * ev l x
  | [] => by
    show (0 : Rat) = c * 0
    grind
  | y :: l => by
    show c * y + x * ev (l.map (c * ·)) x = c * (y + x * ev l x)
    rw [ev_map_mul c x l]
    grind
theorem ev_zipWith (x : Rat) : ∀ l r : List Rat, l.length = r.length → ev (List.zipWith (· + ·) l r) x = ev l x + ev r x
  | [], [], _ => by
    show (0 : Rat) = 0 + 0
    grind
  | [], _ :: _, h => by cases h
  | _ :: _, [], h => by cases h
  | a :: l, b :: r, h => by
    show a + b + x * ev (List.zipWith (· + ·) l r) x = a + x * ev l x + (b + x * ev r x)
    rw [ev_zipWith x l r (by simpa using h)]
    grind
theorem ev_LB (ps : List Rat) (i : Nat) (x : Rat) : ev (LB ps i) x = prd x (oth ps i) / prd (ps.getD i 0) (oth ps i) := by
  unfold LB
  rw [map_divI, ev_map_mul, ev_WR]
  grind
where map_divI {c : Rat} {l : List Rat} : l.map (fun y => y / c) = l.map ((1 / c) * ·) := List.map_congr_left fun y _ => by grind
theorem mem_oth {ps : List Rat} {i j : Nat} (hj : j < ps.length) (h : j ≠ i) : ps[j] ∈ oth ps i := by
  unfold oth
  by_cases q : j < i
  · refine List.mem_append_left _ (List.mem_iff_getElem.mpr ⟨j, by rw [List.length_take]; omega, ?_⟩)
    rw [List.getElem_take]
  · refine List.mem_append_right _ (List.mem_iff_getElem.mpr ⟨j - (i + 1), by rw [List.length_drop]; omega, ?_⟩)
    rw [List.getElem_drop]
    congr 1
    omega
theorem ev_LB_self {ps : List Rat} (ha : ps.Pairwise (· < ·)) {i : Nat} (h : i < ps.length) : ev (LB ps i) ps[i] = 1 := by
  rw [ev_LB, getD_at h]
  have := prd_ne (oth_not ha h)
  grind
theorem ev_LB_other {ps : List Rat} {i j : Nat} (hj : j < ps.length) (h : j ≠ i) : ev (LB ps i) ps[j] = 0 := by
  rw [ev_LB, prd_zero (mem_oth hj h)]
  grind
def IPk (ps ys : List Rat) : Nat → List Rat
  | 0 => List.replicate ps.length 0
  | k + 1 => List.zipWith (· + ·) (IPk ps ys k) ((LB ps k).map (ys.getD k 0 * ·))
def IP (ps ys : List Rat) : List Rat := IPk ps ys ps.length
theorem IPk_len (ps ys : List Rat) : ∀ k, k ≤ ps.length → (IPk ps ys k).length = ps.length
  | 0, _ => by
    unfold IPk
    rw [List.length_replicate]
  | k + 1, h => by
    unfold IPk
    rw [List.length_zipWith, IPk_len ps ys k (by omega), List.length_map, LB_len (by omega), Nat.min_self]
theorem IP_len (ps ys : List Rat) : (IP ps ys).length = ps.length := IPk_len ps ys _ (Nat.le_refl _)
theorem ev_repl (x : Rat) : ∀ n : Nat, ev (List.replicate n 0) x = 0
  | 0 => rfl
  | n + 1 => by
    rw [List.replicate_succ]
    show 0 + x * ev (List.replicate n 0) x = 0
    rw [ev_repl x n]
    grind
theorem ev_IPk {ps ys : List Rat} (ha : ps.Pairwise (· < ·)) {j : Nat} (hj : j < ps.length) : ∀ k, k ≤ ps.length → ev (IPk ps ys k) ps[j] = if j < k then ys.getD j 0 else 0
  | 0, _ => by
    rw [if_neg (by omega)]
    exact ev_repl _ _
  | k + 1, h => by
    have ih := ev_IPk ha hj k (ys := ys) (by omega)
    show ev (List.zipWith (· + ·) (IPk ps ys k) ((LB ps k).map (ys.getD k 0 * ·))) ps[j] = _
    rw [ev_zipWith _ _ _ (by rw [IPk_len ps ys k (by omega), List.length_map, LB_len (by omega)]), ih, ev_map_mul]
    by_cases q : j = k
    · subst q
      rw [ev_LB_self ha hj, if_neg (by omega), if_pos (by omega)]
      grind
    · rw [ev_LB_other hj q]
      by_cases z : j < k
      · rw [if_pos z, if_pos (by omega)]
        grind
      · rw [if_neg z, if_neg (by omega)]
        grind
theorem ev_IP {ps ys : List Rat} (ha : ps.Pairwise (· < ·)) {j : Nat} (hj : j < ps.length) : ev (IP ps ys) ps[j] = ys.getD j 0 := by
  unfold IP
  rw [ev_IPk ha hj _ (Nat.le_refl _), if_pos hj]
theorem ev_IPf {ps : List Rat} (ha : ps.Pairwise (· < ·)) (f : Rat → Rat) : ∀ p ∈ ps, ev (IP ps (ps.map f)) p = f p := fun p hp => by
  obtain ⟨i, hi, rfl⟩ := List.getElem_of_mem hp
  rw [ev_IP ha hi, List.getD_eq_getElem?_getD, List.getElem?_map, List.getElem?_eq_getElem hi]
  rfl
/-! ### a polynomial is told by as many worths as it has coefficients -/
def sx (p : Rat) : List Rat → List Rat
  | [] => []
  | c :: l => ev (c :: l) p :: sx p l
theorem sx_len (p : Rat) : ∀ l, (sx p l).length = l.length
  | [] => rfl
  | c :: l => by
    unfold sx
    rw [List.length_cons, sx_len p l, List.length_cons]
theorem rp_sx (p : Rat) : ∀ (l : List Rat) (z c : Rat), z = c + ev l p * p → rp p z (sx p l) = c :: l
  | [], z, c, h => by
    show [z] = [c]
    congr 1
    rw [h]
    show c + 0 * p = c
    grind
  | d :: l, z, c, h => by
    show (z - ev (d :: l) p * p) :: rp p (ev (d :: l) p) (sx p l) = c :: d :: l
    rw [rp_sx p l (ev (d :: l) p) d (by show d + p * ev l p = d + ev l p * p; grind), h]
    congr 1
    grind
theorem factor {p : Rat} {c : Rat} {l : List Rat} (h : ev (c :: l) p = 0) : rp p 0 (sx p l) = c :: l := rp_sx p l 0 c (by
  have : c + p * ev l p = 0 := h
  grind)
theorem rp_zero (p : Rat) : ∀ (l : List Rat) (z : Rat), z = 0 → (∀ c ∈ l, c = 0) → ∀ c ∈ rp p z l, c = 0
  | [], z, hz, _, c, hc => by rw [List.mem_singleton.mp hc, hz]
  | x :: l, z, hz, h, c, hc => by
    have hx := h x (List.mem_cons_self ..)
    rcases List.mem_cons.mp hc with rfl | hc
    · rw [hz, hx]
      grind
    · exact rp_zero p l x hx (fun y hy => h y (List.mem_cons_of_mem _ hy)) c hc
theorem zero_of_roots : ∀ (ps l : List Rat), ps.Pairwise (· ≠ ·) → l.length ≤ ps.length → (∀ p ∈ ps, ev l p = 0) → ∀ c ∈ l, c = 0
  | _, [], _, _, _, c, hc => by cases hc
  | [], _ :: _, _, h, _, c, hc => by simp at h
  | p :: ps, c :: l, hn, hl, hr, d, hd => by
    obtain ⟨n1, n2⟩ := List.pairwise_cons.mp hn
    have f := factor (hr p (List.mem_cons_self ..))
    rw [List.length_cons, List.length_cons] at hl
    have z := zero_of_roots ps (sx p l) n2 (by rw [sx_len]; omega) fun q hq => by
      have e := hr q (List.mem_cons_of_mem _ hq)
      rw [← f, ev_rp] at e
      have : q - p ≠ 0 := fun z => n1 q hq (by grind)
      grind
    rw [← f] at hd
    exact rp_zero p _ 0 rfl z d hd
theorem asc_ne {ps : List Rat} (h : ps.Pairwise (· < ·)) : ps.Pairwise (· ≠ ·) := h.imp fun {a b} k e => by rw [e] at k; exact absurd k (by grind)
theorem same_poly {ps : List Rat} (hn : ps.Pairwise (· ≠ ·)) {l r : List Rat} (h1 : l.length = r.length) (h2 : l.length ≤ ps.length) (h : ∀ p ∈ ps, ev l p = ev r p) : l = r := by
  have z := zero_of_roots ps (List.zipWith (· + ·) l (r.map ((-1) * ·))) hn (by rw [List.length_zipWith, List.length_map]; omega) fun p hp => by
    rw [ev_zipWith _ _ _ (by rw [List.length_map]; exact h1), ev_map_mul, h p hp]
    grind
  have k : ∀ l r : List Rat, l.length = r.length → (∀ c ∈ List.zipWith (· + ·) l (r.map ((-1) * ·)), c = 0) → l = r := fun l => by
    induction l with
    | nil =>
      intro r h _
      cases r with
      | nil => rfl
      | cons => cases h
    | cons a l ih =>
      intro r h k
      cases r with
      | nil => cases h
      | cons b r =>
        have e := k (a + -1 * b) (by simp)
        rw [ih r (by simpa using h) fun c hc => k c (by simp only [List.map_cons, List.zipWith_cons_cons]; exact List.mem_cons_of_mem _ hc)]
        congr 1
        grind
  exact k l r h1 z
def tl (l : List Rat) : Nat → Nat
  | 0 => 0
  | n + 1 => if l.getD n 0 = 0 then tl l n else n + 1
def trim (l : List Rat) : List Rat := l.take (tl l l.length)
theorem tl_le (l : List Rat) : ∀ n, tl l n ≤ n
  | 0 => Nat.le_refl _
  | n + 1 => by
    unfold tl
    split
    · have := tl_le l n
      omega
    · exact Nat.le_refl _
theorem tl_zero {l : List Rat} : ∀ {n k : Nat}, tl l n ≤ k → k < n → l.getD k 0 = 0
  | 0, k, _, h => absurd h (by omega)
  | n + 1, k, h, h2 => by
    unfold tl at h
    split at h
    · rename_i z
      by_cases q : k = n
      · rw [q]; exact z
      · exact tl_zero h (by omega)
    · omega
theorem tl_min {l : List Rat} {m : Nat} : ∀ {n : Nat}, (∀ k, m ≤ k → k < n → l.getD k 0 = 0) → tl l n ≤ m
  | 0, _ => Nat.zero_le _
  | n + 1, h => by
    unfold tl
    split
    · exact tl_min fun k h1 h2 => h k h1 (by omega)
    · rename_i z
      apply Classical.byContradiction
      intro q
      exact z (h n (by omega) (by omega))
theorem getD_beyond {l : List Rat} {k : Nat} (h : l.length ≤ k) : l.getD k 0 = 0 := by
  rw [List.getD_eq_getElem?_getD, List.getElem?_eq_none h]
  rfl
theorem ev_take (x : Rat) : ∀ (l : List Rat) (m : Nat), (∀ k, m ≤ k → l.getD k 0 = 0) → ev (l.take m) x = ev l x
  | [], m, _ => by rw [List.take_nil]
  | c :: l, 0, h => by
    have z : ∀ r : List Rat, (∀ k, r.getD k 0 = 0) → ev r x = 0 := fun r => by
      induction r with
      | nil => intro _; rfl
      | cons d r ih =>
        intro hr
        have h0 : d = 0 := hr 0
        show d + x * ev r x = 0
        rw [ih fun k => hr (k + 1), h0]
        grind
    rw [z (c :: l) fun k => h k (Nat.zero_le _)]
    rfl
  | c :: l, m + 1, h => by
    rw [List.take_succ_cons]
    show c + x * ev (l.take m) x = c + x * ev l x
    rw [ev_take x l m fun k hk => h (k + 1) (by omega)]
theorem trim_ev (l : List Rat) (x : Rat) : ev (trim l) x = ev l x := ev_take x l _ fun k hk => by
  by_cases q : k < l.length
  · exact tl_zero hk q
  · exact getD_beyond (by omega)
theorem trim_len (l : List Rat) : (trim l).length = tl l l.length := by
  unfold trim
  rw [List.length_take]
  have := tl_le l l.length
  omega
theorem trim_le {l : List Rat} {m : Nat} : (trim l).length ≤ m ↔ ∀ k, m ≤ k → l.getD k 0 = 0 := by
  rw [trim_len]
  constructor
  · intro h k hk
    by_cases q : k < l.length
    · exact tl_zero (by omega) q
    · exact getD_beyond (by omega)
  · exact fun h => tl_min fun k h1 _ => h k h1
theorem tl_congr {l r : List Rat} : ∀ {n : Nat}, (∀ k, k < n → l.getD k 0 = r.getD k 0) → tl l n = tl r n
  | 0, _ => rfl
  | n + 1, h => by
    unfold tl
    rw [h n (by omega), tl_congr fun k hk => h k (by omega)]
theorem getD_app_lt {l r : List Rat} {k : Nat} (h : k < l.length) : (l ++ r).getD k 0 = l.getD k 0 := by
  rw [List.getD_eq_getElem?_getD, List.getD_eq_getElem?_getD, List.getElem?_append_left h]
theorem getD_snoc (l : List Rat) (x : Rat) : (l ++ [x]).getD l.length 0 = x := by
  rw [List.getD_eq_getElem?_getD]
  simp
theorem trim_snoc0 (l : List Rat) : trim (l ++ [0]) = trim l := by
  unfold trim
  rw [List.length_append, List.length_singleton]
  have e : tl (l ++ [0]) (l.length + 1) = tl l l.length := by
    show (if (l ++ [0]).getD l.length 0 = 0 then tl (l ++ [0]) l.length else l.length + 1) = _
    rw [getD_snoc, if_pos rfl]
    exact tl_congr fun k hk => getD_app_lt hk
  rw [e, List.take_append_of_le_length (tl_le _ _)]
theorem trim_snoc {l : List Rat} {x : Rat} (h : x ≠ 0) : trim (l ++ [x]) = l ++ [x] := by
  unfold trim
  rw [List.length_append, List.length_singleton]
  have e : tl (l ++ [x]) (l.length + 1) = l.length + 1 := by
    show (if (l ++ [x]).getD l.length 0 = 0 then tl (l ++ [x]) l.length else l.length + 1) = _
    rw [getD_snoc, if_neg h]
  rw [e]
  exact List.take_of_length_le (by simp)
theorem trim_mem {l : List Rat} {c : Rat} (h : c ∈ trim l) : c ∈ l := List.mem_of_mem_take h
theorem trim_pop : ∀ (N : Nat) (l : List Rat), l.length < N → foldW (fun (b137 : (List (Int × Int))) => (cond (!(decide (b137 = []))) ((getM b137 (-(1 : Int))).bd fun i170 => Mm.ok (decide (i170 = ((0 : Int), (1 : Int))))) (Mm.ok false)).bd fun b166 => Mm.ok b166) (fun (b138 : (List (Int × Int))) => (popN b138).bd fun _ => Mm.ok (List.dropLast b138)) N (l.map fr) = .ok ((trim l).map fr) := fun N => by
  induction N with
  | zero => intro l h; omega
  | succ N ih =>
    intro l hl
    unfold foldW
    rcases List.eq_nil_or_concat l with q | ⟨r, x, q⟩
    · subst q
      rfl
    · rw [List.concat_eq_append] at q
      subst q
      rw [List.length_append, List.length_singleton] at hl
      have e1 : (r ++ [x]).map fr = r.map fr ++ [fr x] := by rw [List.map_append]; rfl
      rw [e1, cT (c := !decide (r.map fr ++ [fr x] = [])) (by rw [decide_eq_false (by simp)]; rfl), getM_last, bdo, bdo, bdo, show decide (fr x = ((0 : Int), (1 : Int))) = decide (x = 0) from by
        rw [← fr_zero]
        exact decide_eq_decide.mpr ⟨fr_inj, fun h => by rw [h]⟩]
      by_cases z : x = 0
      · have p1 : popN (r.map fr ++ [fr x]) = .ok (r.map fr ++ [fr x]).dropLast := by
          cases h : r.map fr with
          | nil => rfl
          | cons a b => rfl
        rw [decide_eq_true z, z, trim_snoc0, ← ih r (by omega)]
        rw [z] at p1
        show ((popN _).bd fun _ => Mm.ok _).bd _ = _
        rw [p1, bdo, bdo]
        congr 1
        simp
      · rw [decide_eq_false z, trim_snoc z, e1]
/-! ### fitting a degree -/
def Fit (ps ys : List Rat) (m : Nat) : Prop := ∃ r : List Rat, r.length ≤ m ∧ ∀ j, j < ps.length → ev r (ps.getD j 0) = ys.getD j 0
theorem ev_pad (x : Rat) (n : Nat) : ∀ l : List Rat, ev (l ++ List.replicate n 0) x = ev l x
  | [] => ev_repl x n
  | c :: l => by
    show c + x * ev (l ++ List.replicate n 0) x = c + x * ev l x
    rw [ev_pad x n l]
theorem ev_IPg {ps ys : List Rat} (ha : ps.Pairwise (· < ·)) {j : Nat} (hj : j < ps.length) : ev (IP ps ys) (ps.getD j 0) = ys.getD j 0 := by
  rw [getD_at hj]
  exact ev_IP ha hj
theorem fit_iff {ps ys : List Rat} {m : Nat} (ha : ps.Pairwise (· < ·)) : (trim (IP ps ys)).length ≤ m ↔ Fit ps ys m := by
  constructor
  · exact fun h => ⟨trim (IP ps ys), h, fun j hj => by rw [trim_ev, ev_IPg ha hj]⟩
  · rintro ⟨r, hr, h⟩
    have il := IP_len ps ys
    by_cases q : ps.length ≤ m
    · have := tl_le (IP ps ys) (IP ps ys).length
      rw [trim_len]
      omega
    · have e : IP ps ys = r ++ List.replicate (ps.length - r.length) 0 := same_poly (asc_ne ha) (by rw [List.length_append, List.length_replicate]; omega) (by omega) fun p hp => by
        obtain ⟨i, hi, rfl⟩ := List.getElem_of_mem hp
        rw [ev_IP ha hi, ev_pad, ← h i hi, getD_at hi]
      rw [trim_le]
      intro k hk
      rw [e, List.getD_eq_getElem?_getD]
      by_cases z : r.length ≤ k
      · rw [List.getElem?_append_right z]
        by_cases y : k - r.length < ps.length - r.length
        · rw [List.getElem?_replicate, if_pos y]
          rfl
        · rw [List.getElem?_eq_none (by rw [List.length_replicate]; omega)]
          rfl
      · omega
theorem pad_len (l : List Rat) {n : Nat} (h : l.length ≤ n) : (l ++ List.replicate (n - l.length) 0).length = n := by
  rw [List.length_append, List.length_replicate]
  omega
theorem same_ev {ps l r : List Rat} {m : Nat} (hn : ps.Pairwise (· ≠ ·)) (hm : m ≤ ps.length) (h1 : l.length ≤ m) (h2 : r.length ≤ m) (h : ∀ p ∈ ps, ev l p = ev r p) (x : Rat) : ev l x = ev r x := by
  have := same_poly hn (l := l ++ List.replicate (m - l.length) 0) (r := r ++ List.replicate (m - r.length) 0) (by rw [pad_len l h1, pad_len r h2]) (by rw [pad_len l h1]; exact hm) fun p hp => by rw [ev_pad, ev_pad, h p hp]
  rw [← ev_pad x (m - l.length) l, this, ev_pad]
theorem take_asc {ps : List Rat} (h : ps.Pairwise (· < ·)) (m : Nat) : (ps.take m).Pairwise (· < ·) := h.sublist (List.take_sublist ..)
theorem getD_take {l : List Rat} {m j : Nat} (h : j < m) : (l.take m).getD j 0 = l.getD j 0 := by
  rw [List.getD_eq_getElem?_getD, List.getD_eq_getElem?_getD, List.getElem?_take_of_lt h]
theorem fit_first {ps ys : List Rat} {m : Nat} (ha : ps.Pairwise (· < ·)) : (∀ j, j < ps.length → ev (IP (ps.take m) (ys.take m)) (ps.getD j 0) = ys.getD j 0) ↔ Fit ps ys m := by
  have il := IP_len (ps.take m) (ys.take m)
  rw [List.length_take] at il
  have at_ : ∀ j, j < m → j < ps.length → ev (IP (ps.take m) (ys.take m)) (ps.getD j 0) = ys.getD j 0 := fun j h1 h2 => by
    have := ev_IPg (ys := ys.take m) (take_asc ha m) (j := j) (by rw [List.length_take]; omega)
    rw [getD_take h1, getD_take h1] at this
    exact this
  constructor
  · exact fun h => ⟨IP (ps.take m) (ys.take m), by omega, h⟩
  · rintro ⟨r, hr, h⟩ j hj
    by_cases q : ps.length ≤ m
    · exact at_ j (by omega) hj
    · rw [← h j hj]
      refine same_ev (ps := ps.take m) (m := m) (asc_ne (take_asc ha m)) (by rw [List.length_take]; omega) (by omega) hr (fun p hp => ?_) _
      obtain ⟨i, hi, rfl⟩ := List.getElem_of_mem hp
      rw [List.length_take] at hi
      rw [List.getElem_take]
      have e := getD_at (ps := ps) (i := i) (by omega)
      rw [← e, at_ i (by omega) (by omega), h i (by omega)]
/-! ### the polynomial through readings, as the program tells it -/
theorem LB_sq6 {B : Int} {e : Nat} {ps : List Rat} (hp : PB B e ps) (ha : ps.Pairwise (· < ·)) (hl : ps.length ≤ 6) (he : e ≤ 10) {i : Nat} (h : i < ps.length) : Sqs 112 (LB ps i) := by
  have m : (e + 1) * (ps.length - 1) ≤ 11 * 5 := Nat.mul_le_mul (by omega) (by omega)
  exact (LB_sq hp ha h).up (by omega)
theorem zw_sq {a b : Nat} : ∀ l r : List Rat, Sqs a l → Sqs b r → Sqs (a + b + 1) (List.zipWith (· + ·) l r)
  | [], _, _, _ => fun q hq => by cases hq
  | _ :: _, [], _, _ => fun q hq => by cases hq
  | x :: l, y :: r, h1, h2 => fun q hq => by
    rw [List.zipWith_cons_cons] at hq
    rcases List.mem_cons.mp hq with rfl | hq
    · exact sq_add (h1 x (List.mem_cons_self ..)) (h2 y (List.mem_cons_self ..)) (by omega)
    · exact zw_sq l r (fun z hz => h1 z (List.mem_cons_of_mem _ hz)) (fun z hz => h2 z (List.mem_cons_of_mem _ hz)) q hq
theorem getD_sq {ys : List Rat} {c : Nat} (hy : Sqs c ys) (h0 : 0 < c) (k : Nat) : Sq c (ys.getD k 0) := by
  by_cases q : k < ys.length
  · rw [getD_at q]
    exact hy _ (List.getElem_mem q)
  · rw [getD_beyond (by omega)]
    exact zero_sqn h0
theorem IPk_sq {B : Int} {e c : Nat} {ps ys : List Rat} (hp : PB B e ps) (ha : ps.Pairwise (· < ·)) (hl : ps.length ≤ 6) (he : e ≤ 10) (hy : Sqs c ys) (h0 : 0 < c) : ∀ k, k ≤ ps.length → Sqs (1 + (c + 113) * k) (IPk ps ys k)
  | 0, _ => fun q hq => by
    rw [List.eq_of_mem_replicate hq]
    exact zero_sqn (by omega)
  | k + 1, h => by
    have a := IPk_sq hp ha hl he hy h0 k (by omega)
    have b : Sqs (c + 112) ((LB ps k).map (ys.getD k 0 * ·)) := fun q hq => by
      obtain ⟨z, hz, rfl⟩ := List.mem_map.mp hq
      exact sq_mul (getD_sq hy h0 k) (LB_sq6 hp ha hl he (by omega) z hz) (Nat.le_refl _)
    exact (zw_sq _ _ a b).up (by rw [Nat.mul_succ]; omega)
theorem IP_sq {B : Int} {e c : Nat} {ps ys : List Rat} (hp : PB B e ps) (ha : ps.Pairwise (· < ·)) (hl : ps.length ≤ 6) (he : e ≤ 10) (hy : Sqs c ys) (h0 : 0 < c) : Sqs (1 + (c + 113) * 6) (IP ps ys) := by
  have m : (c + 113) * ps.length ≤ (c + 113) * 6 := Nat.mul_le_mul_left _ hl
  exact (IPk_sq hp ha hl he hy h0 _ (Nat.le_refl _)).up (by omega)
theorem zip_map_fr (l r : List Rat) : (l.map fr).zip (r.map fr) = (l.zip r).map fun x => (fr x.1, fr x.2) := by
  rw [List.zip_map]
  rfl
theorem zw_zip (l r : List Rat) : (l.zip r).map (fun x => x.1 + x.2) = List.zipWith (· + ·) l r := by
  rw [List.zip, List.map_zipWith]
theorem rep0 (n : Nat) (h : n ≤ 100000) : repM [((0, 1) : Int × Int)] (n : Int) = .ok ((List.replicate n (0 : Rat)).map fr) := by
  have k : ∀ n : Nat, (List.replicate n [((0, 1) : Int × Int)]).flatten = List.replicate n (0, 1) := fun n => by
    induction n with
    | zero => rfl
    | succ n ih =>
      rw [List.replicate_succ, List.flatten_cons, ih, List.replicate_succ]
      rfl
  unfold repM
  rw [if_pos ⟨by omega, by omega, by show 1 * _ ≤ _; omega⟩, Int.toNat_natCast, k, List.map_replicate, fr_zero]
theorem oth_asc {ps : List Rat} (ha : ps.Pairwise (· < ·)) (i : Nat) : (oth ps i).Pairwise (· < ·) := by
  have s : (oth ps i).Sublist ps := by
    unfold oth
    conv => rhs; rw [← List.take_append_drop i ps]
    exact (List.Sublist.refl _).append (List.drop_sublist_drop_left _ (by omega))
  exact ha.sublist s
def alone (ps ys : List Rat) (m : Nat) (i : Nat) : Bool := decide ((trim (IP (oth ps i) (oth ys i))).length ≤ m)
def FA (ps ys : List Rat) (m : Nat) : List Int := (rangeL 0 ps.length).filterMap fun x => if alone ps ys m x.toNat then some x else none
theorem rng_nat {n : Nat} {x : Int} (h : x ∈ rangeL 0 n) : ∃ k : Nat, x = (k : Int) ∧ k < n := by
  obtain ⟨i, hi, rfl⟩ := List.mem_map.mp h
  have := List.mem_range.mp hi
  exact ⟨i, by omega, this⟩
theorem readings_fold {f : Unit → Int × (Int × Int) → Mm Unit} (hf : ∀ s y, f s y = cond (decide (y.2.2 = (0 : Int))) (Mm.bad) (Mm.ok ())) : ∀ (l : List (Int × Int)) (k : Int), (∀ x ∈ l, x.2 ≠ 0) → foldM f () (numL k l) = .ok ()
  | [], k, _ => rfl
  | x :: l, k, hn => by
    unfold numL foldM
    rw [hf, cF (decide_eq_false (hn x (List.mem_cons_self ..))), bdo]
    exact readings_fold hf l (k + 1) fun y hy => hn y (List.mem_cons_of_mem _ hy)
structure FR (B : Int) (e c : Nat) (pl yl : List (Int × Int)) (ps ys : List Rat) : Prop where
  rp : All2 (fun p x => Rx 30 x p) ps pl
  ry : All2 (fun p x => Rx c x p) ys yl
  pb : PB B e ps
  asc : ps.Pairwise (· < ·)
  len : ps.length ≤ 6
  pos : 0 < ps.length
  eq : ys.length = ps.length
  e10 : e ≤ 10
  c0 : 0 < c
  c1 : c ≤ 180
theorem FR.sy {B : Int} {e c : Nat} {pl yl : List (Int × Int)} {ps ys : List Rat} (h : FR B e c pl yl ps ys) : Sqs c ys := h.ry.left fun _ _ r => r.sq
def mend (ps ys : List Rat) (i : Nat) : List Rat := ys.take i ++ (ev (IP (oth ps i) (oth ys i)) (ps.getD i 0) :: ys.drop (i + 1))
def Rep (ps ys : List Rat) (m : Nat) : Option (List Rat) := if (trim (IP ps ys)).length ≤ m then some ys else match FA ps ys m with
  | [i] => some (mend ps ys i.toNat)
  | _ => none
/-! ### the law's polynomial through readings -/
theorem appL {α γ : Type} {p : α → γ → Prop} {l l' : List α} {r r' : List γ} (h : All2 p l r) (h' : All2 p l' r') : All2 p (l ++ l') (r ++ r') := by
  induction h with
  | nil => exact h'
  | cons a _ ih => exact .cons a ih
theorem takeL {α γ : Type} {p : α → γ → Prop} {l : List α} {r : List γ} (h : All2 p l r) : ∀ n, All2 p (l.take n) (r.take n) := by
  induction h with
  | nil => intro n; rw [List.take_nil, List.take_nil]; exact .nil
  | cons a _ ih =>
    intro n
    cases n with
    | zero => exact .nil
    | succ n => exact .cons a (ih n)
theorem dropL {α γ : Type} {p : α → γ → Prop} {l : List α} {r : List γ} (h : All2 p l r) : ∀ n, All2 p (l.drop n) (r.drop n) := by
  induction h with
  | nil => intro n; rw [List.drop_nil, List.drop_nil]; exact .nil
  | cons a b ih =>
    intro n
    cases n with
    | zero => exact .cons a b
    | succ n => exact ih n
theorem cut_take {α : Type} (l : List α) (n : Nat) : cutL l none (some (n : Int)) = l.take n := by
  by_cases h : n ≤ l.length
  · exact cut_lo l n h
  · unfold cutL
    rw [HT.sIx_none, HT.sIx_nat, Nat.min_eq_right (by omega), List.take_of_length_le (l := l) (i := n) (by omega)]
    exact List.take_of_length_le (Nat.le_refl _)
theorem cut_drop {α : Type} (l : List α) (n : Nat) : cutL l (some (n : Int)) none = l.drop n := by
  by_cases h : n ≤ l.length
  · exact cut_hi l n h
  · unfold cutL
    rw [HT.sIx_none, HT.sIx_nat, Nat.min_eq_right (by omega), List.drop_eq_nil_of_le (as := l) (i := n) (by omega), List.drop_eq_nil_of_le (as := l) (i := l.length) (Nat.le_refl _), List.take_nil]
theorem hornerX {f : Int × Int → Int × Int → Mm (Int × Int)} {p : Rat} {b c : Nat} (hp : Sq b p) (N : Nat) (hf : ∀ y x, Rx c y x → ∀ q a, Sq a q → a + b + c + 1 ≤ N → f (fr q) y = .ok (fr (q * p + x))) : ∀ {l : List Rat} {r : List (Int × Int)}, All2 (fun q y => Rx c y q) l r → (b + c + 1) * l.length + 1 ≤ N → foldM f ((0, 1) : Int × Int) r.reverse = .ok (fr (ev l p)) := by
  intro l r h
  induction h with
  | nil =>
    intro _
    show Mm.ok _ = _
    rw [← fr_zero]
    rfl
  | cons a h ih =>
    rename_i x y l r
    intro hN
    have e : (b + c + 1) * (x :: l).length = (b + c + 1) * l.length + (b + c + 1) := by rw [List.length_cons, Nat.mul_succ]
    have hl : Sqs c l := h.left fun _ _ r => r.sq
    rw [List.reverse_cons, foldM_app, ih (by omega)]
    show (f _ y).bd _ = _
    rw [hf y x a _ _ (ev_sq hp l hl) (by omega)]
    show Mm.ok _ = _
    congr 2
    show _ = x + p * ev l p
    grind
theorem all_loop {α : Type} {f : Unit → α → Mm (Fl Bool Unit)} (P : α → Bool) : ∀ l : List α, (∀ x ∈ l, f () x = cond (!(P x)) (.ok (.ret false)) (.ok (.go ()))) → (foldL f () l).bd (fun o => o.el (fun _ => Mm.ok true) (fun r => Mm.ok r)) = .ok (l.all P)
  | [], _ => rfl
  | x :: l, h => by
    unfold foldL
    rw [h x (List.mem_cons_self ..), List.all_cons]
    cases hx : P x with
    | false => rfl
    | true =>
      rw [cF (c := !true) rfl, bdo]
      exact all_loop P l fun y hy => h y (List.mem_cons_of_mem _ hy)
/-! ### the law's own fractions, its other family -/
theorem fdiv_flip {g a : Int} (h : 0 < g) (d : g ∣ a) : (0 : Int) - a.fdiv g = a.fdiv (-g) := by
  rw [fdiv_neg_dvd h d, Int.fdiv_eq_ediv_of_nonneg _ (by omega), Int.neg_ediv_of_dvd d]
  omega
theorem law_low_any {a b : Int} {n : Nat} (h : b ≠ 0) (hb : b.natAbs < 2 ^ n) (hn : n < 9000) : law_low a b = .ok (fr ((a : Rat) / (b : Rat))) := by
  unfold law_low
  by_cases z : a = 0
  · subst z
    have e : ((0 : Int) : Rat) / (b : Rat) = 0 := by
      push_cast
      grind
    rw [cT (decide_eq_true rfl), e, fr_zero]
  · have g1 := Nat.lt_of_le_of_lt (gcd_leZ (a := a) h) hb
    have g0 := gcd_posZ (a := a) h
    rw [cF (decide_eq_false z), euclid _ _ _ (abs_nn a) (abs_nn b) (by omega), abs_na, abs_na, bdo]
    by_cases q : b > 0
    · rw [cT (decide_eq_true q), div_any (by omega) g1 hn, bdo, div_any (by omega) g1 hn, bdo, bdo, fr_pos q]
    · rw [cF (decide_eq_false q), div_any (by omega) g1 hn, bdo, div_any (by omega) g1 hn, bdo, bdo, fr_neg (by omega), fdiv_flip g0 (Int.ofNat_dvd_left.mpr (Nat.gcd_dvd_left _ _)), fdiv_flip g0 (Int.ofNat_dvd_left.mpr (Nat.gcd_dvd_right _ _))]
theorem law_low_x {x : Int × Int} {q : Rat} {n : Nat} (h : Rx n x q) (hn : n < 9000) : law_low x.1 x.2 = .ok (fr q) := by rw [law_low_any h.nz h.b hn, h.v]
theorem law_add_x {x y : Int × Int} {p q : Rat} {a b : Nat} (hx : Rx a x p) (hy : Rx b y q) (h : a + b < 8999) : law_add x y = .ok (fr (p + q)) := by
  unfold law_add
  rw [mul_ok hx.t hy.b (by omega), bdo, mul_ok hy.t hx.b (by omega), bdo, mul_ok hx.b hy.b (by omega), bdo, law_low_any (mul_nz hx.nz hy.nz) (mul_lt hx.b hy.b (Nat.le_refl _)) (by omega), bdo, rx_add hx hy]
theorem law_mul_x {x y : Int × Int} {p q : Rat} {a b : Nat} (hx : Rx a x p) (hy : Rx b y q) (h : a + b < 8999) : law_mul x y = .ok (fr (p * q)) := by
  unfold law_mul
  rw [mul_ok hx.t hy.t (by omega), bdo, mul_ok hx.b hy.b (by omega), bdo, law_low_any (mul_nz hx.nz hy.nz) (mul_lt hx.b hy.b (Nat.le_refl _)) (by omega), bdo, rx_mul hx hy]
theorem law_add_ok {p q : Rat} {a b : Nat} (ha : Sq a p) (hb : Sq b q) (h : a + b < 8999) : law_add (fr p) (fr q) = .ok (fr (p + q)) := law_add_x (rx_fr ha) (rx_fr hb) h
theorem law_mul_ok {p q : Rat} {a b : Nat} (ha : Sq a p) (hb : Sq b q) (h : a + b < 8999) : law_mul (fr p) (fr q) = .ok (fr (p * q)) := law_mul_x (rx_fr ha) (rx_fr hb) h
theorem law_is_less_ok {p q : Rat} {a b : Nat} (ha : Sq a p) (hb : Sq b q) (h : a + b < 8999) : law_is_less (fr p) (fr q) = .ok (decide (p < q)) := by
  unfold law_is_less
  rw [mul_ok (i := (fr p).1) (j := (fr q).2) ha.1 hb.d (by omega), bdo, mul_ok (i := (fr q).1) (j := (fr p).2) hb.1 ha.d (by omega), bdo]
  congr 1
  exact decide_eq_decide.mpr (Rat.lt_iff p q).symm
theorem rev_rng {n : Nat} : (rangeL 0 n).reverse = (rangeL 0 n).map fun i => (n : Int) - 1 - i := by
  rw [← rangeDn_rev]
  unfold rangeDn rangeL
  rw [List.map_map]
  exact List.map_congr_left fun i _ => by show (n : Int) - 1 - i = (n : Int) - 1 - (0 + i); omega
/-! ### what the law draws -/
theorem pickA_ok {α : Type} {scr : List Int} {st : Rw} {l : List α} {N : Nat} (r : Rk N st) (h0 : 0 < l.length) (h1 : l.length < 1000) (hN : N < 999999) : Yes (pickM takenA scr st l) fun r => r.1 ∈ l ∧ Rk (N + 1) r.2 := by
  unfold pickM
  refine (takenA_ok r (by omega) (by omega) hN).bd fun b hb => ?_
  obtain ⟨⟨b0, b1⟩, rb⟩ := hb
  obtain ⟨x, hx, g⟩ := getM_ok (l := l) b0 b1
  exact .eq g (.ok ⟨hx, rb⟩)
theorem law_wide_okA {scr : List Int} {st : Rw} {c N : Nat} {ps : List Rat} {pl : List (Int × Int)} (r : Rk N st) (h : All2 (fun p x => Rx c x p) ps pl) (hl : ps.length ≤ 1000) (hc : c < 8000) (hN : N < 9000) : Yes (law_wide scr st pl) fun r => All2 (fun p x => Rx (c + 2) x p) ps r.1 ∧ Rk (N + ps.length) r.2 := by
  unfold law_wide
  refine (yes_fold (fun (s : List (Int × Int) × Rw) (l : List (Int × Int)) => ∃ (q1 q2 : List Rat), ps = q1 ++ q2 ∧ All2 (fun p x => Rx (c + 2) x p) q1 s.1 ∧ All2 (fun p x => Rx c x p) q2 l ∧ Rk (N + q1.length) s.2) _ _ ⟨[], ps, rfl, .nil, h, r⟩ fun s x l hs => ?_).bd fun z hz => ?_
  · obtain ⟨q1, q2, e, a1, a2, rk⟩ := hs
    cases a2 with
    | cons hx hr =>
      rename_i p q2
      have l1 := a1.len
      have le : q1.length ≤ ps.length := by rw [e, List.length_append]; omega
      refine (pickA_ok rk (by simp) (by simp) (by omega)).bd fun b hb => ?_
      have m := hb.1
      simp only [List.mem_cons, List.not_mem_nil, or_false] at m
      have e4 : (2 : Nat) ^ 2 = 4 := by decide
      have i4 : b.1.natAbs < 2 ^ 2 ∧ b.1 ≠ 0 := by omega
      refine .eq (mul_ok hx.t i4.1 (by omega)) (.eq (mul_ok hx.b i4.1 (by omega)) (.guard (by omega) (.ok ⟨q1 ++ [p], q2, by rw [e]; simp, a1.app ⟨mul_nz hx.nz i4.2, mul_lt hx.t i4.1 (Nat.le_refl _), mul_lt hx.b i4.1 (Nat.le_refl _), ?_⟩, hr, by rw [List.length_append, List.length_singleton]; exact hb.2⟩)))
      have n1 := intc_ne hx.nz
      have n2 := intc_ne i4.2
      rw [← hx.v]
      show ((x.1 * b.1 : Int) : Rat) / ((x.2 * b.1 : Int) : Rat) = _
      push_cast
      grind
  · obtain ⟨q1, q2, e, a1, a2, rk⟩ := hz
    cases a2
    rw [List.append_nil] at e
    subst e
    exact .ok ⟨a1, rk⟩
theorem hasM_iff {α : Type} [DecidableEq α] (l : List α) (a : α) : hasM l a = decide (a ∈ l) := by
  unfold hasM
  rw [Bool.eq_iff_iff, List.contains_iff_mem, decide_eq_true_eq]
theorem mem_fr {p : Rat} {l : List Rat} : hasM (l.map fr) (fr p) = decide (p ∈ l) := by
  rw [hasM_iff]
  refine decide_eq_decide.mpr ?_
  constructor
  · intro h
    obtain ⟨q, hq, e⟩ := List.mem_map.mp h
    rw [← fr_inj e]
    exact hq
  · intro h
    exact List.mem_map_of_mem h
theorem fil_less {p : Rat} (hp : Sq 10 p) : ∀ l : List Rat, Sqs 10 l → filMm (fun (x71 : (Int × Int)) => (law_is_less (x71) (fr p)).bd fun b90 => cond b90 (Mm.ok (some x71)) (Mm.ok none)) (l.map fr) = .ok ((l.filter fun q => decide (q < p)).map fr)
  | [], _ => rfl
  | q :: l, h => by
    rw [List.map_cons]
    unfold filMm
    rw [law_is_less_ok (h q (List.mem_cons_self ..)) hp (by decide), bdo, fil_less hp l fun x hx => h x (List.mem_cons_of_mem _ hx)]
    cases e : decide (q < p) with
    | true =>
      rw [List.filter_cons_of_pos (by simpa using e)]
      rfl
    | false =>
      rw [List.filter_cons_of_neg (by simpa using e)]
      rfl
theorem lt_tr {a b c : Rat} (h : a < b) (h' : b < c) : a < c := by grind
theorem spot {p : Rat} : ∀ l : List Rat, l.Pairwise (· < ·) → p ∉ l → (l.take (l.filter fun q => decide (q < p)).length ++ [p] ++ l.drop (l.filter fun q => decide (q < p)).length).Pairwise (· < ·)
  | [], _, _ => by simp
  | q :: l, h, hn => by
    obtain ⟨h1, h2⟩ := List.pairwise_cons.mp h
    have hq : p ≠ q := fun e => hn (by rw [e]; exact List.mem_cons_self ..)
    have hl : p ∉ l := fun e => hn (List.mem_cons_of_mem _ e)
    by_cases c : q < p
    · rw [List.filter_cons_of_pos (by simpa using c), List.length_cons, List.take_succ_cons, List.drop_succ_cons]
      have ih := spot l h2 hl
      rw [List.cons_append, List.cons_append]
      refine List.pairwise_cons.mpr ⟨fun x hx => ?_, ih⟩
      rw [List.append_assoc, List.mem_append, List.mem_append, List.mem_singleton] at hx
      rcases hx with hx | hx | hx
      · exact h1 x (List.mem_of_mem_take hx)
      · rw [hx]; exact c
      · exact h1 x (List.mem_of_mem_drop hx)
    · have lt : p < q := by
        have := Rat.not_lt.mp c
        exact Rat.lt_of_le_of_ne this hq
      have e : (q :: l).filter (fun q => decide (q < p)) = [] := by
        rw [List.filter_eq_nil_iff]
        intro x hx
        rcases List.mem_cons.mp hx with rfl | hx
        · simpa using c
        · have := h1 x hx
          simp only [decide_eq_true_eq]
          intro z
          exact c (lt_tr this z)
      rw [e]
      show (p :: q :: l).Pairwise (· < ·)
      refine List.pairwise_cons.mpr ⟨fun x hx => ?_, h⟩
      rcases List.mem_cons.mp hx with rfl | hx
      · exact lt
      · exact lt_tr lt (h1 x hx)
theorem law_places_okA {scr : List Int} {st : Rw} {most : Int} {N : Nat} (r : Rk N st) (h0 : 1 ≤ most) (h1 : most ≤ 12) (hN : N < 9000) : Yes (law_places scr st most) fun r => (∃ ps : List Rat, r.1 = ps.map fr ∧ ps.Pairwise (· < ·) ∧ PB 30 10 ps ∧ Sqs 5 ps ∧ 0 < ps.length ∧ (ps.length : Int) ≤ most) ∧ Rk (N + 25) r.2 := by
  unfold law_places
  refine (takenA_ok r (by omega) (by omega) (by omega)).bd fun b hb => ?_
  obtain ⟨⟨b0, b1⟩, rb⟩ := hb
  rw [range_ok (by omega) (by omega), bdo]
  have e : (1 + b.1).toNat = b.1.toNat + 1 := by omega
  have e10 : (2 : Nat) ^ 10 = 1024 := by decide
  have e5 : (2 : Nat) ^ 5 = 32 := by decide
  refine (yes_fold (fun (s : (List (Int × Int)) × Rw) (l : List Int) => ∃ (qs : List Rat) (k : Nat), s.1 = qs.map fr ∧ qs.Pairwise (· < ·) ∧ PB 30 10 qs ∧ Sqs 5 qs ∧ ((qs.length : Int) + l.length ≤ most ∧ (0 < qs.length ∨ 0 < l.length)) ∧ Rk k s.2 ∧ k + 2 * l.length ≤ N + 25) _ _ ⟨[], N + 1, rfl, .nil, ⟨by decide, by decide, fun q h => by cases h⟩, (fun q h => by cases h), ⟨by rw [rangeL_len]; show ((0 : Nat) : Int) + _ ≤ most; omega, .inr (by rw [rangeL_len]; omega)⟩, rb, by rw [rangeL_len]; omega⟩ fun s x l hs => ?_).bd fun z hz => ?_
  · obtain ⟨qs, k, h1, h2, h3, hs5, ⟨h4, h5⟩, h6, h7⟩ := hs
    rw [List.length_cons] at h4 h7
    obtain ⟨s1, s2⟩ := s
    subst h1
    refine (takenA_ok h6 (by decide) (by decide) (by omega)).bd fun d hd => ?_
    refine (pickA_ok hd.2 (by decide) (by decide) (by omega)).bd fun g hg => ?_
    have d1 := hd.1
    have m := hg.1
    simp only [List.mem_cons, List.not_mem_nil, or_false] at m
    have g0 : 0 < g.1 := by omega
    have sb : g.1.natAbs < 2 ^ 10 := by omega
    have dv : Dv 30 10 (((d.1 - 20 : Int) : Rat) / (g.1 : Rat)) := by
      have ne := intc_ne (n := g.1) (by omega)
      refine ⟨(d.1 - 20) * (30 / g.1), ?_, ?_⟩
      · rcases m with q | q | q | q | q <;> (rw [q]; push_cast; grind)
      · rcases m with q | q | q | q | q <;> (rw [q]; show ((d.1 - 20) * _).natAbs < _; omega)
    have sp : Sq 10 (((d.1 - 20 : Int) : Rat) / (g.1 : Rat)) := dv.sq (by decide) (by decide)
    have sp5 : Sq 5 (((d.1 - 20 : Int) : Rat) / (g.1 : Rat)) := sq_div g0 (by omega) (by omega)
    have low : law_low (d.1 - 20) g.1 = .ok (fr (((d.1 - 20 : Int) : Rat) / (g.1 : Rat))) := law_low_any (by omega) sb (by decide)
    generalize hp : (((d.1 - 20 : Int) : Rat) / (g.1 : Rat)) = p at sp low dv sp5
    refine .eq low ?_
    by_cases mm : p ∈ qs
    · rw [cF (c := !(hasM (qs.map fr, s2).1 (fr p))) (by show (!(hasM (qs.map fr) (fr p))) = false; rw [mem_fr, decide_eq_true mm]; rfl)]
      refine .ok ⟨qs, k + 2, rfl, h2, h3, hs5, ⟨by omega, .inl ?_⟩, hg.2, by omega⟩
      cases qs with
      | nil => cases mm
      | cons _ _ => simp
    · have fl := List.length_filter_le (fun q => decide (q < p)) qs
      have ql : qs.length ≤ 12 := by omega
      rw [cT (c := !(hasM (qs.map fr, s2).1 (fr p))) (by show (!(hasM (qs.map fr) (fr p))) = true; rw [mem_fr, decide_eq_false mm]; rfl)]
      refine .guard (by rw [List.length_map]; omega) (.eq (fil_less sp qs h3.sq) ?_)
      rw [List.length_map]
      show Yes ((guardM ((cutL (qs.map fr) none _).length + _ ≤ 100000)).bd _) _
      rw [cut_lo _ _ (by rw [List.length_map]; exact fl), cut_hi _ _ (by rw [List.length_map]; exact fl)]
      refine .guard (by simp only [List.length_take, List.length_map, List.length_singleton]; omega) (.guard (by simp only [List.length_append, List.length_take, List.length_drop, List.length_map, List.length_singleton]; omega) (.ok ⟨qs.take (qs.filter fun q => decide (q < p)).length ++ [p] ++ qs.drop (qs.filter fun q => decide (q < p)).length, k + 2, ?_, spot qs h2 mm, ⟨by decide, by decide, ?_⟩, ?_, ⟨?_, ?_⟩, hg.2, by omega⟩))
      · rw [List.map_append, List.map_append, List.map_take, List.map_drop]
        rfl
      · intro q hq
        rw [List.append_assoc, List.mem_append, List.mem_append, List.mem_singleton] at hq
        rcases hq with hq | hq | hq
        · exact h3.each q (List.mem_of_mem_take hq)
        · rw [hq]; exact dv
        · exact h3.each q (List.mem_of_mem_drop hq)
      · intro q hq
        rw [List.append_assoc, List.mem_append, List.mem_append, List.mem_singleton] at hq
        rcases hq with hq | hq | hq
        · exact hs5 q (List.mem_of_mem_take hq)
        · rw [hq]; exact sp5
        · exact hs5 q (List.mem_of_mem_drop hq)
      · simp only [List.length_append, List.length_take, List.length_drop, List.length_singleton]
        omega
      · simp only [List.length_append, List.length_singleton]
        omega
  · obtain ⟨qs, k, h1, h2, h3, hs5, ⟨h4, h5⟩, h6, h7⟩ := hz
    rw [List.length_nil] at h4 h5 h7
    exact .ok ⟨⟨qs, h1, h2, h3, hs5, by omega, by omega⟩, h6.up (by omega)⟩
/-! ### the law's polynomial through readings, its other family -/
theorem setM_mid {α : Type} (l r : List α) (x v : α) : setM (l ++ x :: r) (l.length : Int) v = .ok (l ++ v :: r) := by
  unfold setM ixN
  rw [if_pos (by omega), if_pos (by simp; omega)]
  show Mm.ok ((l ++ x :: r).set ((l.length : Int).toNat) v) = _
  rw [Int.toNat_natCast]
  congr 1
  simp
theorem prd_fold {B : Int} {e : Nat} {x : Rat} {f : Int × Int → Int × Int → Mm (Int × Int)} (hB : 0 < B) (hBe : B.natAbs < 2 ^ e) (hx : Dv B e x) (hf : ∀ (a : Rat) (n : Nat) (p : Rat), Sq n a → Dv B e p → n + e < 8000 → f (fr a) (fr p) = .ok (fr (a * (x - p)))) : ∀ (ps : List Rat) (a : Rat) (n : Nat), Sq n a → (∀ p ∈ ps, Dv B e p) → n + (e + 2) * ps.length + e < 8000 → foldM f (fr a) (ps.map fr) = .ok (fr (a * prd x ps))
  | [], a, n, _, _, _ => by
    show Mm.ok _ = Mm.ok (fr (a * 1))
    congr 2
    grind
  | p :: ps, a, n, ha, hp, hN => by
    have e2 : (e + 2) * (p :: ps).length = (e + 2) * ps.length + (e + 2) := by rw [List.length_cons, Nat.mul_succ]
    have hp0 := hp p (List.mem_cons_self ..)
    have d := prd_sq (ps := [p]) hB hBe hx fun q hq => by rw [List.mem_singleton.mp hq]; exact hp0
    rw [List.map_cons]
    unfold foldM
    have e3 : prd x [p] = x - p := by
      rw [prd_cons]
      show (x - p) * 1 = _
      grind
    rw [e3] at d
    rw [hf a n p ha hp0 (by omega), bdo, prd_fold hB hBe hx hf ps _ (n + (e + 2)) (sq_mul ha d (by simp; omega)) (fun q hq => hp q (List.mem_cons_of_mem _ hq)) (by omega), prd_cons]
    congr 2
    grind
def poF : List (Int × Int) → Int → Mm (List (Int × Int)) := fun (b275 : (List (Int × Int))) (x276 : Int) => (cond (!(decide (b275 = []))) ((getM b275 (-(1 : Int))).bd fun i312 => Mm.ok (decide (i312.1 = (0 : Int)))) (Mm.ok false)).bd fun b308 => cond b308 ((popN b275).bd fun _ => Mm.ok (List.dropLast b275)) (Mm.ok b275)
theorem num_isz (q : Rat) : decide ((fr q).1 = (0 : Int)) = decide (q = 0) := by
  refine decide_eq_decide.mpr ⟨fun h => ?_, fun h => by rw [h]; rfl⟩
  exact Rat.num_eq_zero.mp h
theorem poF_snoc (r : List Rat) (x : Rat) (k : Int) : poF ((r ++ [x]).map fr) k = .ok (if x = 0 then r.map fr else (r ++ [x]).map fr) := by
  have e1 : (r ++ [x]).map fr = r.map fr ++ [fr x] := by rw [List.map_append]; rfl
  unfold poF
  rw [e1, cT (c := !decide (r.map fr ++ [fr x] = [])) (by rw [decide_eq_false (by simp)]; rfl), getM_last, bdo, bdo, num_isz]
  by_cases z : x = 0
  · have p1 : popN (r.map fr ++ [fr x]) = .ok (r.map fr ++ [fr x]).dropLast := by
      cases h : r.map fr with
      | nil => rfl
      | cons a b => rfl
    rw [cT (decide_eq_true z), p1, bdo, if_pos z]
    congr 1
    simp
  · rw [cF (decide_eq_false z), if_neg z]
theorem po_stay {r : List Rat} {x : Rat} (h : x ≠ 0) : ∀ (m : Nat) (k : Int), foldM poF ((r ++ [x]).map fr) (rangeL k m) = .ok ((r ++ [x]).map fr)
  | 0, k => rfl
  | m + 1, k => by
    rw [rangeL_succ]
    unfold foldM
    rw [poF_snoc, if_neg h, bdo, po_stay h m]
theorem po_trim : ∀ (m : Nat) (k : Int) (l : List Rat), l.length ≤ m → foldM poF (l.map fr) (rangeL k m) = .ok ((trim l).map fr)
  | 0, k, l, h => by
    rw [List.eq_nil_of_length_eq_zero (by omega : l.length = 0)]
    rfl
  | m + 1, k, l, h => by
    rw [rangeL_succ]
    unfold foldM
    rcases List.eq_nil_or_concat l with q | ⟨r, x, q⟩
    · subst q
      show (Mm.ok ([] : List (Int × Int))).bd _ = _
      rw [bdo]
      exact po_trim m (k + 1) [] (by simp)
    · rw [List.concat_eq_append] at q
      subst q
      rw [List.length_append, List.length_singleton] at h
      rw [poF_snoc, bdo]
      by_cases z : x = 0
      · rw [if_pos z, z, trim_snoc0]
        exact po_trim m (k + 1) r (by omega)
      · rw [if_neg z, trim_snoc z]
        exact po_stay z m _
/-! ### readings, set and found -/
theorem setL {α γ : Type} {p : α → γ → Prop} {l : List α} {r : List γ} {x : α} {y : γ} (h : All2 p l r) (hxy : p x y) : ∀ i : Nat, All2 p (l.set i x) (r.set i y) := by
  induction h with
  | nil => intro i; exact .nil
  | cons a b ih =>
    intro i
    cases i with
    | zero => exact .cons hxy b
    | succ i => exact .cons a (ih i)
theorem setM_ok {α : Type} {l : List α} {i : Int} (v : α) (h0 : 0 ≤ i) (h : i < l.length) : setM l i v = .ok (l.set i.toNat v) := by
  unfold setM ixN
  rw [if_pos h0, if_pos h]
theorem rx_list {c : Nat} {n : Int} {l : List (Int × Int)} {ps : List Rat} (h : All2 (fun p x => Rx c x p) ps l) : ∀ i : Nat, i < ps.length → All2 (fun p x => Rx c x p) (oth ps i) (l.take i ++ l.drop (i + 1)) := fun i _ => appL (takeL h i) (dropL h (i + 1))
theorem mend_set (ps ys : List Rat) {i : Nat} (h : i < ys.length) (v : Rat) : ys.take i ++ v :: ys.drop (i + 1) = ys.set i v := by
  rw [List.set_eq_take_append_cons_drop, if_pos h]
theorem FA_mem {ps ys : List Rat} {m : Nat} {x : Int} (h : x ∈ FA ps ys m) : ∃ k : Nat, x = (k : Int) ∧ k < ps.length ∧ alone ps ys m k = true := by
  obtain ⟨y, hy, hz⟩ := List.mem_filterMap.mp h
  obtain ⟨k, rfl, hk⟩ := rng_nat hy
  rw [Int.toNat_natCast] at hz
  split at hz
  · rename_i q
    cases hz
    exact ⟨k, rfl, hk, q⟩
  · cases hz
theorem mend_ev {ps ys : List Rat} {m i : Nat} (ha : ps.Pairwise (· < ·)) (hi : i < ps.length) (hn : m + 1 ≤ ps.length) (h : alone ps ys m i = true) (x : Rat) : ev (IP ((oth ps i).take m) ((oth ys i).take m)) x = ev (IP (oth ps i) (oth ys i)) x := by
  have ao := oth_asc ha i
  have ol := oth_len hi
  have f := of_decide_eq_true h
  have il := IP_len ((oth ps i).take m) ((oth ys i).take m)
  rw [List.length_take] at il
  rw [← trim_ev (IP (oth ps i) (oth ys i))]
  refine same_ev (ps := (oth ps i).take m) (m := m) (asc_ne (take_asc ao m)) (by rw [List.length_take]; omega) (by omega) f (fun p hp => ?_) x
  obtain ⟨j, hj, rfl⟩ := List.getElem_of_mem hp
  have hj' := hj
  rw [List.length_take] at hj'
  rw [trim_ev, ev_IP (take_asc ao m) hj, List.getElem_take, ev_IP ao (by omega), getD_take (by omega)]
theorem fold_append {R : Type} {f : (List Int × R) → Int → Mm (List Int × R)} {P : Nat → Bool} {r : R} {n : Nat} (hf : ∀ (acc : List Int) (k : Nat), k < n → acc.length ≤ k → f (acc, r) (k : Int) = .ok (acc ++ (if P k then [(k : Int)] else []), r)) : ∀ (m k : Nat) (acc : List Int), k + m = n → acc.length ≤ k → foldM f (acc, r) (rangeL (k : Int) m) = .ok (acc ++ (rangeL (k : Int) m).filterMap (fun x => if P x.toNat then some x else none), r)
  | 0, k, acc, _, _ => by
    show Mm.ok _ = Mm.ok (acc ++ [], r)
    rw [List.append_nil]
  | m + 1, k, acc, h, ha => by
    have e4 : (k : Int) + 1 = ((k + 1 : Nat) : Int) := by omega
    rw [rangeL_succ]
    unfold foldM
    rw [hf acc k (by omega) ha, bdo, e4, fold_append hf m (k + 1) _ (by omega) (by
      rw [List.length_append]
      have : (if P k then [(k : Int)] else []).length ≤ 1 := by split <;> simp
      omega), List.filterMap_cons, Int.toNat_natCast, List.append_assoc]
    cases P k <;> rfl
/-! ### cuts -/
def hf (lo hi n : Int) : Rat := ((hi - lo : Int) : Rat) / ((2 * n : Int) : Rat)
def mid (lo hi n x : Int) : Rat := (lo : Rat) + ((2 * x + 1 : Int) : Rat) * hf lo hi n
def CSt (lo hi n : Int) (ps ws f : List Rat) (x : Int) : Rat := Rd (ps.map fun p => mid lo hi n x + hf lo hi n * p) (ws.map fun w => w * hf lo hi n) f
def CS (lo hi n : Int) (ps ws f : List Rat) : Rat := ((rangeL 0 n.toNat).map (CSt lo hi n ps ws f)).sum
theorem hf_pos {lo hi n : Int} (h : lo < hi) (n1 : 1 ≤ n) : 0 < hf lo hi n := by
  unfold hf
  rw [Rat.div_def]
  exact Rat.mul_pos (Rat.intCast_pos.mpr (by omega)) (Rat.inv_pos.mpr (Rat.intCast_pos.mpr (by omega)))
theorem rangeL_mem {n : Nat} {x : Int} (h : x ∈ rangeL 0 n) : 0 ≤ x ∧ x < n := by
  obtain ⟨i, hi, rfl⟩ := List.mem_map.mp h
  have := List.mem_range.mp hi
  omega
theorem hf_sq {lo hi n : Int} (h1 : -20 ≤ lo) (h2 : lo < hi) (h3 : hi ≤ 20) (n1 : 1 ≤ n) (n12 : n ≤ 12) : Sq 6 (hf lo hi n) := by
  have : (2 : Nat) ^ 6 = 64 := by decide
  exact sq_div (by omega) (by omega) (by omega)
theorem mid_sq {lo hi n x : Int} (h1 : -20 ≤ lo) (h2 : lo < hi) (h3 : hi ≤ 20) (n1 : 1 ≤ n) (n12 : n ≤ 12) (x0 : 0 ≤ x) (x1 : x < n) : Sq 17 (mid lo hi n x) := by
  have e5 : (2 : Nat) ^ 5 = 32 := by decide
  exact sq_add (sq_int (a := 5) (by omega) (by decide)) (sq_mul (sq_int (a := 5) (by omega) (by decide)) (hf_sq h1 h2 h3 n1 n12) (Nat.le_refl _)) (by decide)
theorem All2.mapL {α β γ : Type} {p : α → γ → Prop} {q : β → γ → Prop} {g : α → β} {l : List α} {r : List γ} (h : All2 p l r) (k : ∀ x y, p x y → q (g x) y) : All2 q (l.map g) r := by
  induction h with
  | nil => exact .nil
  | cons a _ ih => exact .cons (k _ _ a) ih
theorem self_rx {b : Nat} {ps : List Rat} (h : Sqs b ps) : All2 (fun p x => Rx b x p) ps (ps.map fr) := All2.self ps fun p hp => rx_fr (h p hp)
theorem cutW_ok {lo hi : Int} (h1 : -20 ≤ lo) (h2 : lo < hi) (h3 : hi ≤ 20) : WOk ([], [(lo, hi, 1)]) :=
  ⟨⟨by simp, by simp, by simp⟩, ⟨h1, h2, by show (1 : Int) ≤ 1; decide, by show (1 : Int) ≤ 20; decide, h3⟩, by simp, .inr (by simp)⟩
/-! ### sums; a weighting as weights at places -/
def rs {α : Type} (l : List α) (f : α → Rat) : Rat := (l.map f).sum
theorem rs_nil {α : Type} (f : α → Rat) : rs [] f = 0 := rfl
theorem rs_cons {α : Type} (x : α) (l : List α) (f : α → Rat) : rs (x :: l) f = f x + rs l f := by
  unfold rs
  rw [List.map_cons, List.sum_cons]
theorem rs_add {α : Type} (f g : α → Rat) : ∀ l : List α, rs l f + rs l g = rs l fun x => f x + g x
  | [] => by simp only [rs_nil]; grind
  | x :: l => by
    rw [rs_cons, rs_cons, rs_cons, ← rs_add f g l]
    grind
theorem rs_mul {α : Type} (c : Rat) (f : α → Rat) : ∀ l : List α, c * rs l f = rs l fun x => c * f x
  | [] => by simp only [rs_nil]; grind
  | x :: l => by
    rw [rs_cons, rs_cons, ← rs_mul c f l]
    grind
theorem rs_congr {α : Type} {f g : α → Rat} : ∀ l : List α, (∀ x ∈ l, f x = g x) → rs l f = rs l g
  | [], _ => rfl
  | x :: l, h => by rw [rs_cons, rs_cons, h x (List.mem_cons_self ..), rs_congr l fun y hy => h y (List.mem_cons_of_mem _ hy)]
theorem rs_app {α : Type} (f : α → Rat) (l r : List α) : rs (l ++ r) f = rs l f + rs r f := by
  unfold rs
  rw [List.map_append, List.sum_append]
theorem rs_map {α β : Type} (f : β → Rat) (g : α → β) (l : List α) : rs (l.map g) f = rs l fun x => f (g x) := by
  unfold rs
  rw [List.map_map]
  rfl
theorem rs_flat {α β : Type} (f : β → Rat) (g : α → List β) : ∀ l : List α, rs (l.flatMap g) f = rs l fun x => rs (g x) f
  | [] => rfl
  | x :: l => by rw [List.flatMap_cons, rs_app, rs_cons, rs_flat f g l]
theorem rs_nn {α : Type} {f : α → Rat} : ∀ l : List α, (∀ x ∈ l, 0 ≤ f x) → 0 ≤ rs l f ∧ (rs l f = 0 → ∀ x ∈ l, f x = 0)
  | [], _ => ⟨by rw [rs_nil]; decide, fun _ x h => by cases h⟩
  | x :: l, h => by
    obtain ⟨a, b⟩ := rs_nn l fun y hy => h y (List.mem_cons_of_mem _ hy)
    have c := h x (List.mem_cons_self ..)
    rw [rs_cons]
    refine ⟨by grind, fun e y hy => ?_⟩
    have e1 : f x = 0 := by grind
    have e2 : rs l f = 0 := by grind
    rcases List.mem_cons.mp hy with rfl | hy
    · exact e1
    · exact b e2 y hy
def atS (s : Int × Int × Int) : List (Rat × Rat) := QN.map fun q => ((s.2.2 : Rat) * ((((s.2.1 - s.1 : Int)) : Rat) * q.1), (s.1 : Rat) + ((s.2.1 - s.1 : Int) : Rat) * q.2)
def atoms (w : Wt) : List (Rat × Rat) := w.1.map (fun m => ((m.2 : Rat), (m.1 : Rat))) ++ w.2.flatMap atS
theorem pow_cast (x : Int) : ∀ k : Nat, ((x ^ k : Int) : Rat) = (x : Rat) ^ k
  | 0 => by simp
  | k + 1 => by
    rw [Int.pow_succ, Rat.pow_succ, ← pow_cast x k]
    push_cast
    rfl
theorem sI_atoms (s : Int × Int × Int) {k : Nat} (hk : k ≤ 12) : ((sI k s : Int) : Rat) = rs (atS s) (fun u => u.1 * u.2 ^ k) * (((k : Int) + 1 : Int) : Rat) := by
  have q := quad (s.1 : Rat) ((s.2.1 - s.1 : Int) : Rat) k hk
  have e : (s.1 : Rat) + ((s.2.1 - s.1 : Int) : Rat) = (s.2.1 : Rat) := by
    push_cast
    grind
  rw [e] at q
  have e1 : rs (atS s) (fun u => u.1 * u.2 ^ k) = (s.2.2 : Rat) * rs QN (fun q => ((s.2.1 - s.1 : Int) : Rat) * q.1 * ((s.1 : Rat) + ((s.2.1 - s.1 : Int) : Rat) * q.2) ^ k) := by
    unfold atS
    rw [rs_map, rs_mul]
    refine rs_congr _ fun x _ => ?_
    grind
  have e2 : ((sI k s : Int) : Rat) = (s.2.2 : Rat) * ((s.2.1 : Rat) ^ (k + 1) - (s.1 : Rat) ^ (k + 1)) := by
    unfold sI
    rw [← pow_cast, ← pow_cast]
    push_cast
    rfl
  rw [e1, e2, ← q]
  unfold rs
  grind
theorem PS_atoms (w : Wt) {k : Nat} (hk : k ≤ 12) : PS w k = rs (atoms w) fun u => u.1 * u.2 ^ k := by
  have hz := intc_ne (n := (k : Int) + 1) (by omega)
  unfold atoms
  rw [rs_app, rs_map, rs_flat]
  have e1 : rs w.1 (fun m => (m.2 : Rat) * (m.1 : Rat) ^ k) = (((w.1.map (mI k)).sum : Int) : Rat) := by
    rw [← sum_cast]
    refine rs_congr _ fun m _ => ?_
    unfold mI
    rw [← pow_cast]
    push_cast
    rfl
  have e2 : rs w.2 (fun s => rs (atS s) fun u => u.1 * u.2 ^ k) * (((k : Int) + 1 : Int) : Rat) = (((w.2.map (sI k)).sum : Int) : Rat) := by
    rw [← sum_cast]
    have : (w.2.map fun x => ((sI k x : Int) : Rat)).sum = rs w.2 fun s => rs (atS s) (fun u => u.1 * u.2 ^ k) * (((k : Int) + 1 : Int) : Rat) := rs_congr _ fun s _ => sI_atoms s hk
    rw [this]
    have c : ∀ x : Rat, x * (((k : Int) + 1 : Int) : Rat) = (((k : Int) + 1 : Int) : Rat) * x := fun x => by grind
    rw [c, rs_mul]
    exact rs_congr _ fun s _ => by rw [c]
  unfold PS
  rw [e1, ← (show (((w.1.map (mI k)).sum * ((k : Int) + 1) : Int) : Rat) + (((w.2.map (sI k)).sum : Int) : Rat) = (((w.1.map (mI k)).sum * ((k : Int) + 1) + (w.2.map (sI k)).sum : Int) : Rat) by push_cast; rfl), ← e2]
  push_cast
  push_cast at hz
  grind
theorem WS_from (w : Wt) : ∀ (l : List Rat) (k : Nat), k + l.length ≤ 13 → ((numL (k : Int) l).map (tW w)).sum = rs (atoms w) fun u => u.1 * u.2 ^ k * ev l u.2
  | [], k, _ => by
    show (0 : Rat) = _
    rw [rs_congr (g := fun _ => 0 * 0) _ fun u _ => by show u.1 * u.2 ^ k * 0 = _; grind, ← rs_mul]
    grind
  | c :: l, k, h => by
    rw [List.length_cons] at h
    have ih := WS_from w l (k + 1) (by omega)
    unfold numL
    rw [List.map_cons, List.sum_cons, show ((k : Int) + 1) = ((k + 1 : Nat) : Int) by omega, ih]
    show c * PS w ((k : Int)).toNat + _ = _
    rw [Int.toNat_natCast, PS_atoms w (by omega), rs_mul, rs_add]
    refine rs_congr _ fun u _ => ?_
    show c * (u.1 * u.2 ^ k) + u.1 * u.2 ^ (k + 1) * ev l u.2 = u.1 * u.2 ^ k * (c + u.2 * ev l u.2)
    rw [Rat.pow_succ]
    grind
theorem WS_atoms (w : Wt) {l : List Rat} (h : l.length ≤ 13) : WS w l = rs (atoms w) fun u => u.1 * ev l u.2 := by
  refine (WS_from w l 0 (by omega)).trans (rs_congr _ fun u _ => ?_)
  rw [Rat.pow_zero]
  grind
theorem comb (A : List (Rat × Rat)) (P : Rat → Rat) (n : Nat) (h : ∀ j, j < n → rs A (fun u => u.1 * (u.2 ^ j * P u.2)) = 0) : ∀ (l : List Rat) (k : Nat), k + l.length ≤ n → rs A (fun u => u.1 * P u.2 * (u.2 ^ k * ev l u.2)) = 0
  | [], k, _ => by
    rw [rs_congr (g := fun _ => 0 * 0) _ fun u _ => by show u.1 * P u.2 * (u.2 ^ k * 0) = _; grind, ← rs_mul]
    grind
  | c :: l, k, hk => by
    rw [List.length_cons] at hk
    have a := h k (by omega)
    have b := comb A P n h l (k + 1) (by omega)
    have e : rs A (fun u => u.1 * P u.2 * (u.2 ^ k * ev (c :: l) u.2)) = c * rs A (fun u => u.1 * (u.2 ^ k * P u.2)) + rs A (fun u => u.1 * P u.2 * (u.2 ^ (k + 1) * ev l u.2)) := by
      rw [rs_mul, rs_add]
      refine rs_congr _ fun u _ => ?_
      show u.1 * P u.2 * (u.2 ^ k * (c + u.2 * ev l u.2)) = _
      rw [Rat.pow_succ]
      grind
    rw [e, a, b]
    grind
theorem nd_len : ∀ (l r : List Rat), l.Nodup → (∀ x ∈ l, x ∈ r) → l.length ≤ r.length
  | [], r, _, _ => Nat.zero_le _
  | x :: l, r, h, k => by
    obtain ⟨h1, h2⟩ := List.nodup_cons.mp h
    have hx := k x (List.mem_cons_self ..)
    have := nd_len l (r.erase x) h2 fun y hy => (List.mem_erase_of_ne (fun e => h1 (by rw [← e]; exact hy))).mpr (k y (List.mem_cons_of_mem _ hy))
    rw [List.length_erase_of_mem hx] at this
    have := List.length_pos_of_mem hx
    rw [List.length_cons]
    omega
/-! ### gaps -/
def GP (w : Wt) (ps ws : List Rat) (k : Nat) : Rat := PS w k - rs (ps.zip ws) fun x => x.2 * x.1 ^ k
theorem GP_lin {w : Wt} {ps ws : List Rat} {m : Nat} (hm : m ≤ 12) (h : ∀ k, k ≤ m → GP w ps ws k = 0) : ∀ (l : List Rat) (k : Nat), k + l.length ≤ m + 1 → rs (atoms w) (fun u => u.1 * (u.2 ^ k * ev l u.2)) = rs (ps.zip ws) fun x => x.2 * (x.1 ^ k * ev l x.1)
  | [], k, _ => by
    rw [rs_congr (g := fun _ => 0 * 0) _ fun u _ => by show u.1 * (u.2 ^ k * 0) = _; grind, ← rs_mul, rs_congr (g := fun _ => 0 * 0) (ps.zip ws) fun u _ => by show u.2 * (u.1 ^ k * 0) = _; grind, ← rs_mul]
    grind
  | c :: l, k, hk => by
    rw [List.length_cons] at hk
    have ih := GP_lin hm h l (k + 1) (by omega)
    have z := h k (by omega)
    unfold GP at z
    rw [PS_atoms w (by omega)] at z
    have e1 : rs (atoms w) (fun u => u.1 * (u.2 ^ k * ev (c :: l) u.2)) = c * rs (atoms w) (fun u => u.1 * u.2 ^ k) + rs (atoms w) (fun u => u.1 * (u.2 ^ (k + 1) * ev l u.2)) := by
      rw [rs_mul, rs_add]
      refine rs_congr _ fun u _ => ?_
      show u.1 * (u.2 ^ k * (c + u.2 * ev l u.2)) = _
      rw [Rat.pow_succ]
      grind
    have e2 : rs (ps.zip ws) (fun x => x.2 * (x.1 ^ k * ev (c :: l) x.1)) = c * rs (ps.zip ws) (fun x => x.2 * x.1 ^ k) + rs (ps.zip ws) (fun x => x.2 * (x.1 ^ (k + 1) * ev l x.1)) := by
      rw [rs_mul, rs_add]
      refine rs_congr _ fun u _ => ?_
      show u.2 * (u.1 ^ k * (c + u.1 * ev l u.1)) = _
      rw [Rat.pow_succ]
      grind
    rw [e1, e2, ih]
    grind
theorem atoms_pos {w : Wt} (g : Good w) : ∀ u ∈ atoms w, 0 < u.1 := fun u hu => by
  unfold atoms at hu
  rcases List.mem_append.mp hu with hu | hu
  · obtain ⟨m, hm, rfl⟩ := List.mem_map.mp hu
    have := g.ms m hm
    exact Rat.intCast_pos.mpr (by omega)
  · obtain ⟨t, ht, hu⟩ := List.mem_flatMap.mp hu
    obtain ⟨q, hq, rfl⟩ := List.mem_map.mp hu
    have a := g.ss t ht
    have b := QN_pos q hq
    have c : (0 : Rat) < ((t.2.1 - t.1 : Int) : Rat) := Rat.intCast_pos.mpr (by omega)
    have d : (0 : Rat) < ((t.2.2 : Int) : Rat) := Rat.intCast_pos.mpr (by omega)
    exact Rat.mul_pos d (Rat.mul_pos c b)
theorem sq_nn (x : Rat) : 0 ≤ x * x := by
  rcases Rat.le_total (a := 0) (b := x) with q | q
  · exact Rat.mul_nonneg q q
  · have := Rat.mul_nonneg (a := -x) (b := -x) (by grind) (by grind)
    grind
theorem prd_root {x : Rat} {ps : List Rat} (h : prd x ps = 0) : x ∈ ps := Classical.byContradiction fun z => prd_ne z h
theorem atoms_in {w : Wt} (g : Good w) {ps ws : List Rat} (hl : ps.length ≤ 6) (h : ∀ k, k ≤ 2 * ps.length → GP w ps ws k = 0) : ∀ u ∈ atoms w, u.2 ∈ ps := by
  have wl := WR_len ps
  have z1 : ∀ j, j < ps.length + 1 → rs (atoms w) (fun u => u.1 * (u.2 ^ j * ev (WR ps) u.2)) = 0 := fun j hj => by
    rw [GP_lin (m := 2 * ps.length) (by omega) h (WR ps) j (by omega)]
    rw [rs_congr (g := fun _ => 0 * 0) _ fun x hx => ?_, ← rs_mul]
    · grind
    · rw [ev_WR, prd_zero (List.of_mem_zip (a := x.1) (b := x.2) hx).1]
      grind
  have z2 := comb (atoms w) (ev (WR ps)) _ z1 (WR ps) 0 (by omega)
  have nn := rs_nn (f := fun u => u.1 * ev (WR ps) u.2 * (u.2 ^ 0 * ev (WR ps) u.2)) (atoms w) fun u hu => by
    have a := Rat.le_of_lt (atoms_pos g u hu)
    have b := Rat.mul_nonneg a (sq_nn (ev (WR ps) u.2))
    rw [Rat.pow_zero]
    grind
  intro u hu
  have a := nn.2 z2 u hu
  rw [Rat.pow_zero] at a
  have b := atoms_pos g u hu
  have c : ev (WR ps) u.2 = 0 := by
    have : u.1 ≠ 0 := fun e => by rw [e] at b; exact absurd b (by decide)
    grind
  rw [ev_WR] at c
  exact prd_root c
theorem gap_all {w : Wt} (g : Good w) {ps ws : List Rat} (ha : ps.Pairwise (· < ·)) (h0 : 0 < ps.length) (hl : ps.length ≤ 6) (h : ∀ k, k ≤ 2 * ps.length → GP w ps ws k = 0) : ∀ k, k ≤ 12 → GP w ps ws k = 0 := fun k hk => by
  have ins := atoms_in g hl h
  have R := ev_IPf ha fun p => p ^ k
  have il := IP_len ps (ps.map fun p => p ^ k)
  have lin := GP_lin (m := 2 * ps.length) (by omega) h (IP ps (ps.map fun p => p ^ k)) 0 (by omega)
  have e1 : rs (atoms w) (fun u => u.1 * (u.2 ^ 0 * ev (IP ps (ps.map fun p => p ^ k)) u.2)) = PS w k := by
    rw [PS_atoms w hk]
    refine rs_congr _ fun u hu => ?_
    rw [R u.2 (ins u hu), Rat.pow_zero]
    grind
  have e2 : rs (ps.zip ws) (fun x => x.2 * (x.1 ^ 0 * ev (IP ps (ps.map fun p => p ^ k)) x.1)) = rs (ps.zip ws) fun x => x.2 * x.1 ^ k := rs_congr _ fun x hx => by
    rw [R x.1 (List.of_mem_zip (a := x.1) (b := x.2) hx).1, Rat.pow_zero]
    grind
  unfold GP
  rw [← e1, lin, e2]
  grind
/-! ### gaps, as program and law tell them -/
theorem ev_rise (x : Rat) : ∀ k : Nat, ev (List.replicate k 0 ++ [1]) x = x ^ k
  | 0 => by
    show 1 + x * 0 = x ^ 0
    rw [Rat.pow_zero]
    grind
  | k + 1 => by
    rw [List.replicate_succ]
    show 0 + x * ev (List.replicate k 0 ++ [1]) x = _
    rw [ev_rise x k, Rat.pow_succ]
    grind
theorem sq_pow {b : Nat} {p : Rat} (h : Sq b p) : ∀ k : Nat, Sq (1 + b * k) (p ^ k)
  | 0 => by rw [Rat.pow_zero]; exact one_sq
  | k + 1 => by
    rw [Rat.pow_succ]
    exact sq_mul (sq_pow h k) h (by rw [Nat.mul_succ]; omega)
theorem flat_one {α : Type} (x : α) : ∀ n : Nat, (List.replicate n [x]).flatten = List.replicate n x
  | 0 => rfl
  | n + 1 => by
    rw [List.replicate_succ, List.flatten_cons, flat_one x n, List.replicate_succ]
    rfl
structure RR (b c n : Nat) (pl wl : List (Int × Int)) (ps ws : List Rat) : Prop where
  rp : All2 (fun p x => Rx b x p) ps pl
  rw : All2 (fun p x => Rx c x p) ws wl
  asc : ps.Pairwise (· < ·)
  pos : 0 < ps.length
  len : ps.length ≤ n
  eq : ws.length = ps.length
def fnz (G : Nat → Rat) : Nat → Nat → Option Nat
  | 0, _ => none
  | n + 1, k => if G k = 0 then fnz G n (k + 1) else some k
theorem fnz_app (G : Nat → Rat) : ∀ (m j k : Nat), fnz G (m + j) k = (fnz G m k).orElse fun _ => fnz G j (k + m)
  | 0, j, k => by rw [Nat.zero_add]; rfl
  | m + 1, j, k => by
    rw [Nat.succ_add]
    show (if G k = 0 then fnz G (m + j) (k + 1) else some k) = Option.orElse (if G k = 0 then fnz G m (k + 1) else some k) fun _ => fnz G j (k + (m + 1))
    by_cases z : G k = 0
    · rw [if_pos z, if_pos z, fnz_app G m j (k + 1), show k + 1 + m = k + (m + 1) by omega]
    · rw [if_neg z, if_neg z]
      rfl
theorem fnz_none {G : Nat → Rat} : ∀ {n k : Nat}, fnz G n k = none ↔ ∀ j, k ≤ j → j < k + n → G j = 0
  | 0, k => ⟨fun _ j h1 h2 => by omega, fun _ => rfl⟩
  | n + 1, k => by
    unfold fnz
    split
    · rename_i z
      rw [fnz_none]
      refine ⟨fun h j h1 h2 => ?_, fun h j h1 h2 => h j (by omega) (by omega)⟩
      by_cases q : j = k
      · rw [q]; exact z
      · exact h j (by omega) (by omega)
    · rename_i z
      exact ⟨(fun h => by cases h), fun h => absurd (h k (Nat.le_refl _) (by omega)) z⟩
theorem fnz_more {G : Nat → Rat} {m n : Nat} (hm : m ≤ n) (h : (∀ k, k < m → G k = 0) → ∀ k, k < n → G k = 0) : fnz G m 0 = fnz G n 0 := by
  have e : n = m + (n - m) := by omega
  cases q : fnz G m 0 with
  | some k => rw [e, fnz_app, q]; rfl
  | none =>
    have z := fnz_none.mp q
    exact (fnz_none.mpr fun j _ hj => h (fun k hk => z k (Nat.zero_le _) (by omega)) j (by omega)).symm
theorem fnz_lt {G : Nat → Rat} : ∀ {n k j : Nat}, fnz G n k = some j → j < k + n
  | 0, k, j, h => by cases h
  | n + 1, k, j, h => by
    unfold fnz at h
    split at h
    · have := fnz_lt h
      omega
    · cases h
      omega
def share (k : Nat) (x : Rat × Rat) : Rat := x.2 * x.1 ^ k
theorem served_ok {w : Wt} (g : Good w) {ps ws : List Rat} {pl wl : List (Int × Int)} {b c n : Nat} (h : RR b c n pl wl ps ws) (hn : n ≤ 6) (hb : b < 4000) (hT : (c + (1 + b * (2 * n + 1)) + 1) * n ≤ 8000) (hc : c + (1 + b * (2 * n + 1)) + b ≤ 8000) (hc0 : 0 < c) : served w pl wl = .ok ((fnz (GP w ps ws) (2 * ps.length + 1) 0).map fun (k : Nat) => (k : Int) - 1) := by
  have hl := h.len
  have e := h.eq
  have sp : Sqs b ps := h.rp.left fun _ _ r => r.sq
  have sw : Sqs c ws := h.rw.left fun _ _ r => r.sq
  have zl : (ps.zip ws).length = ps.length := by rw [List.length_zip]; omega
  have each : ∀ (k : Nat), k ≤ 2 * n + 1 → ∀ x ∈ ps.zip ws, Sq b x.1 ∧ Sq (c + (1 + b * (2 * n + 1))) (share k x) := fun k hk x hx => by
    have m := List.of_mem_zip (a := x.1) (b := x.2) hx
    have mono : b * k ≤ b * (2 * n + 1) := Nat.mul_le_mul_left _ hk
    exact ⟨sp _ m.1, (sq_mul (sw _ m.2) (sq_pow (sp _ m.1) k) (Nat.le_refl _)).up (by omega)⟩
  have zz : ∀ k : Nat, (ps.map fr).zip ((((ps.zip ws).map (share k))).map fr) = (ps.zip ws).map fun x => (fr x.1, fr (share k x)) := fun k => by
    have : ∀ (l : List Rat) (r : List Rat), l.length = r.length → (l.map fr).zip (((l.zip r).map (share k)).map fr) = (l.zip r).map fun x => (fr x.1, fr (share k x)) := fun l => by
      induction l with
      | nil => intro r _; rfl
      | cons a l ih =>
        intro r hr
        cases r with
        | nil => cases hr
        | cons b r =>
          rw [List.zip_cons_cons, List.map_cons, List.map_cons, List.map_cons, List.map_cons, List.zip_cons_cons, ih r (by simpa using hr)]
    exact this ps ws e.symm
  have T : (c + (1 + b * (2 * n + 1)) + 1) * ps.length ≤ (c + (1 + b * (2 * n + 1)) + 1) * n := Nat.mul_le_mul_left _ hl
  have loop : ∀ (m k : Nat), k + m ≤ 2 * n + 1 → (foldL (R := (Option Int)) (fun (b24 : (List (Int × Int))) (x25 : Int) => (added_up (b24)).bd fun b47 => (power_sum w (x25)).bd fun b54 => cond (!(decide (b47 = b54))) (Mm.ok (Fl.ret (some (x25 - (1 : Int))))) ((guardM (((ps.map fr).zip b24).length ≤ 50000)).bd fun _ => (mapMm (fun (x67 : ((Int × Int) × (Int × Int))) => (times (x67.2) (x67.1)).bd fun b92 => Mm.ok b92) ((ps.map fr).zip b24)).bd fun b66 => Mm.ok (Fl.go b66))) (((ps.zip ws).map (share k)).map fr) (rangeL (k : Int) m)).bd (fun o => o.el (fun b41 => Mm.ok none) (fun r => Mm.ok r)) = .ok ((fnz (GP w ps ws) m k).map fun (k : Nat) => (k : Int) - 1) := fun m => by
    induction m with
    | zero => intro k _; rfl
    | succ m ih =>
      intro k hk
      have ss : Sqs (c + (1 + b * (2 * n + 1))) ((ps.zip ws).map (share k)) := fun q hq => by
        obtain ⟨x, hx, rfl⟩ := List.mem_map.mp hq
        exact (each k (by omega) x hx).2
      obtain ⟨A1, A2⟩ := added_up_ok _ ss (by rw [List.length_map, zl]; omega)
      have dd : decide (fr ((ps.zip ws).map (share k)).sum = fr (PS w k)) = decide (GP w ps ws k = 0) := decide_eq_decide.mpr (by
        unfold GP rs share
        constructor
        · intro h
          rw [← fr_inj h]
          grind
        · intro h
          congr 1
          grind)
      rw [rangeL_succ]
      unfold foldL fnz
      rw [A1, bdo, power_sum_ok g (by omega) (by omega), bdo, Int.toNat_natCast, dd]
      by_cases z : GP w ps ws k = 0
      · rw [if_pos z, cF (c := !decide (GP w ps ws k = 0)) (by rw [decide_eq_true z]; rfl), zz, guard_ok (by rw [List.length_map]; omega), bdo, mapMm_map, mapMm_eq (g := fun x => fr (share (k + 1) x)) _ fun x hx => ?_, bdo, bdo]
        · have e2 : (ps.zip ws).map (fun x => fr (share (k + 1) x)) = ((ps.zip ws).map (share (k + 1))).map fr := by rw [List.map_map]; rfl
          have e3 : (k : Int) + 1 = ((k + 1 : Nat) : Int) := by omega
          rw [e2, e3]
          exact ih (k + 1) (by omega)
        · obtain ⟨q1, q2⟩ := each k (by omega) x hx
          show (times (fr (share k x)) (fr x.1)).bd _ = _
          rw [times_ok q2 q1 (by omega), bdo]
          congr 2
          unfold share
          rw [Rat.pow_succ]
          grind
      · rw [if_neg z, cT (c := !decide (GP w ps ws k = 0)) (by rw [decide_eq_false z]; rfl), bdo]
        rfl
  have s0 : ws.map fr = ((ps.zip ws).map (share 0)).map fr := by
    congr 1
    have : ∀ (l r : List Rat), l.length = r.length → r = (l.zip r).map (share 0) := fun l => by
      induction l with
      | nil => intro r hr; cases r with
        | nil => rfl
        | cons => cases hr
      | cons a l ih =>
        intro r hr
        cases r with
        | nil => cases hr
        | cons b r =>
          rw [List.zip_cons_cons, List.map_cons, ← ih r (by simpa using hr)]
          congr 1
          unfold share
          rw [Rat.pow_zero]
          grind
    exact this ps ws e.symm
  have L := loop (2 * ps.length + 1) 0 (by omega)
  have e5 : ((2 : Int) * (ps.length : Int) + 1).toNat = 2 * ps.length + 1 := by omega
  have e3 : (2 : Nat) ^ 3 = 8 := by decide
  unfold served
  rw [checked_places_x hb h.rp h.asc (by omega) h.pos, bdo, List.length_map, checked_weights_x (by omega) h.rw (by omega) (by omega), bdo, mul_ok (a := 2) (b := 3) (by decide) (by omega) (by decide), bdo, range_ok (by omega) (by omega), bdo, e5, s0]
  exact L
/-! ### the law of gaps -/
/-! ### Lagrange's weights serve exactly -/
theorem rs_swap {α β : Type} (f : α → β → Rat) (B : List β) : ∀ A : List α, rs A (fun u => rs B fun v => f u v) = rs B fun v => rs A fun u => f u v
  | [] => by
    rw [rs_nil, rs_congr (g := fun _ => 0 * 0) B fun v _ => by rw [rs_nil]; grind, ← rs_mul]
    grind
  | x :: A => by
    rw [rs_cons, rs_swap f B A, rs_add]
    exact rs_congr _ fun v _ => by rw [rs_cons]
theorem ev_IPk_sum {ps ys : List Rat} (x : Rat) : ∀ k, k ≤ ps.length → ev (IPk ps ys k) x = rs (List.range k) fun i => ys.getD i 0 * ev (LB ps i) x
  | 0, _ => ev_repl x _
  | k + 1, h => by
    show ev (List.zipWith (· + ·) (IPk ps ys k) ((LB ps k).map (ys.getD k 0 * ·))) x = _
    rw [ev_zipWith _ _ _ (by rw [IPk_len ps ys k (by omega), List.length_map, LB_len (by omega)]), ev_map_mul, ev_IPk_sum x k (by omega), List.range_succ, rs_app, rs_cons, rs_nil]
    grind
theorem by_range (ps : List Rat) : ps = (List.range ps.length).map fun i => ps.getD i 0 := by
  refine List.ext_getElem (by simp) fun i h1 h2 => ?_
  rw [List.getElem_map, List.getElem_range, getD_at h1]
theorem WS_exact (w : Wt) {ps g : List Rat} (ha : ps.Pairwise (· < ·)) (hl : ps.length ≤ 6) (hg : g.length ≤ ps.length) : WS w g = rs (ps.zip (Wts w ps)) fun x => x.2 * ev g x.1 := by
  have E : ∀ x, ev g x = rs (List.range ps.length) fun i => ev g (ps.getD i 0) * ev (LB ps i) x := fun x => by
    have il := IP_len ps (ps.map fun p => ev g p)
    rw [same_ev (ps := ps) (m := ps.length) (asc_ne ha) (Nat.le_refl _) hg (by omega) (fun p hp => (ev_IPf ha (fun p => ev g p) p hp).symm) x]
    unfold IP
    rw [ev_IPk_sum x _ (Nat.le_refl _)]
    refine rs_congr _ fun i hi => ?_
    have lt := List.mem_range.mp hi
    rw [getD_at lt, List.getD_eq_getElem?_getD, List.getElem?_map, List.getElem?_eq_getElem lt]
    rfl
  have z : ps.zip (Wts w ps) = (List.range ps.length).map fun i => (ps.getD i 0, WS w (LB ps i)) := by
    have b := by_range ps
    unfold Wts
    generalize hn : ps.length = n at b
    generalize hf : (fun i => ps.getD i 0) = f at b
    conv => lhs; lhs; rw [b]
    rw [List.zip_map']
    refine List.map_congr_left fun i _ => ?_
    rw [← hf]
  rw [z, rs_map, WS_atoms w (by omega)]
  have e1 : rs (atoms w) (fun u => u.1 * ev g u.2) = rs (atoms w) fun u => rs (List.range ps.length) fun i => ev g (ps.getD i 0) * (u.1 * ev (LB ps i) u.2) := rs_congr _ fun u _ => by
    rw [E u.2, rs_mul]
    exact rs_congr _ fun i _ => by grind
  rw [e1, rs_swap]
  refine rs_congr _ fun i hi => ?_
  have lt := List.mem_range.mp hi
  rw [← rs_mul, WS_atoms w (l := LB ps i) (by rw [LB_len lt]; omega)]
  grind
/-! ### a polynomial of m + h x -/
def aff (m h : Rat) : List Rat → List Rat
  | [] => []
  | c :: l => rp (-(m / h)) c ((aff m h l).map (h * ·))
theorem aff_len (m h : Rat) : ∀ l, (aff m h l).length = l.length
  | [] => rfl
  | c :: l => by
    unfold aff
    rw [rp_len, List.length_map, aff_len m h l, List.length_cons]
theorem ev_aff {m h : Rat} (h0 : h ≠ 0) (x : Rat) : ∀ l, ev (aff m h l) x = ev l (m + h * x)
  | [] => rfl
  | c :: l => by
    unfold aff
    rw [ev_rp, ev_map_mul, ev_aff h0 x l]
    show _ = c + (m + h * x) * ev l (m + h * x)
    generalize ev l (m + h * x) = y
    grind
def W0 : Wt := ([], [((0 : Int) - (1 : Int), (1 : Int), (1 : Int))])
theorem atoms_cut (lo hi : Int) : atoms ([], [(lo, hi, 1)]) = QN.map fun q => ((1 : Rat) * (((hi - lo : Int) : Rat) * q.1), (lo : Rat) + ((hi - lo : Int) : Rat) * q.2) := by
  unfold atoms atS
  simp only [List.map_nil, List.nil_append, List.flatMap_cons, List.flatMap_nil, List.append_nil]
  rfl
theorem hf_one (lo hi : Int) : hf lo hi 1 = ((hi - lo : Int) : Rat) / 2 := by
  unfold hf
  rfl
theorem mid_one (lo hi : Int) : mid lo hi 1 0 = (lo : Rat) + hf lo hi 1 := by
  unfold mid
  have : ((2 * 0 + 1 : Int) : Rat) = 1 := rfl
  rw [this]
  grind
theorem WS_aff {lo hi : Int} (h : lo < hi) {f : List Rat} (hl : f.length ≤ 13) : WS ([], [(lo, hi, 1)]) f = hf lo hi 1 * WS W0 (aff (mid lo hi 1 0) (hf lo hi 1) f) := by
  have h0 : hf lo hi 1 ≠ 0 := by
    have := hf_pos (n := 1) h (by decide)
    grind
  have e2 : ((1 - (0 - 1) : Int) : Rat) = 2 := rfl
  have e1 : ((0 - 1 : Int) : Rat) = -1 := rfl
  unfold W0
  rw [WS_atoms _ hl, WS_atoms _ (by rw [aff_len]; exact hl), atoms_cut, atoms_cut, rs_map, rs_map, rs_mul]
  refine rs_congr _ fun q _ => ?_
  have e3 : mid lo hi 1 0 + hf lo hi 1 * (((0 - 1 : Int) : Rat) + ((1 - (0 - 1) : Int) : Rat) * q.2) = (lo : Rat) + ((hi - lo : Int) : Rat) * q.2 := by
    rw [mid_one, hf_one, e1, e2]
    grind
  show 1 * (((hi - lo : Int) : Rat) * q.1) * ev f ((lo : Rat) + ((hi - lo : Int) : Rat) * q.2) = hf lo hi 1 * (1 * (((1 - (0 - 1) : Int) : Rat) * q.1) * ev (aff (mid lo hi 1 0) (hf lo hi 1) f) (((0 - 1 : Int) : Rat) + ((1 - (0 - 1) : Int) : Rat) * q.2))
  rw [ev_aff h0, e3, e2, hf_one]
  grind
theorem CSt_rs (lo hi n : Int) (ps ws f : List Rat) (x : Int) : CSt lo hi n ps ws f x = rs (ps.zip ws) fun y => y.2 * hf lo hi n * ev f (mid lo hi n x + hf lo hi n * y.1) := by
  unfold CSt Rd zipR rs
  rw [List.zip_map, List.map_map]
  rfl
theorem cut_exact {lo hi : Int} (h : lo < hi) {ps f : List Rat} (ha : ps.Pairwise (· < ·)) (hl : ps.length ≤ 6) (hf' : f.length ≤ ps.length) : CSt lo hi 1 ps (Wts W0 ps) f 0 = WS ([], [(lo, hi, 1)]) f := by
  have h0 : hf lo hi 1 ≠ 0 := by
    have := hf_pos (n := 1) h (by decide)
    grind
  rw [WS_aff h (by omega), WS_exact W0 ha hl (by rw [aff_len]; exact hf'), CSt_rs, rs_mul]
  refine rs_congr _ fun x _ => ?_
  rw [ev_aff h0]
  grind
/-! ### cuts put together -/
theorem hf_sub {lo s n a : Int} (n1 : 1 ≤ n) : hf lo (lo + s * n) n = hf a (a + s) 1 := by
  have k := intc_ne (n := n) (by omega)
  unfold hf
  push_cast
  push_cast at k
  grind
theorem mid_sub {lo s n k : Int} (n1 : 1 ≤ n) : mid lo (lo + s * n) n k = mid (lo + k * s) (lo + k * s + s) 1 0 := by
  rw [mid_one, ← hf_sub (lo := lo) (s := s) (n := n) (a := lo + k * s) n1]
  unfold mid
  have h : hf lo (lo + s * n) n = (s : Rat) / 2 := by
    rw [hf_sub (a := 0) n1, hf_one]
    congr 2
    omega
  rw [h]
  push_cast
  grind
theorem CSt_sub {lo s n k : Int} (n1 : 1 ≤ n) (ps ws f : List Rat) : CSt lo (lo + s * n) n ps ws f k = CSt (lo + k * s) (lo + k * s + s) 1 ps ws f 0 := by
  rw [CSt_rs, CSt_rs, mid_sub n1, hf_sub (a := lo + k * s) n1]
theorem CS_one (a b : Int) (ps ws f : List Rat) : CS a b 1 ps ws f = CSt a b 1 ps ws f 0 := by
  show CSt a b 1 ps ws f 0 + 0 = _
  grind
theorem CS_parts {lo s n : Int} (n1 : 1 ≤ n) (ps ws f : List Rat) : CS lo (lo + s * n) n ps ws f = ((rangeL 0 n.toNat).map fun k => CS (lo + k * s) (lo + k * s + s) 1 ps ws f).sum := by
  unfold CS
  congr 1
  refine List.map_congr_left fun k _ => ?_
  rw [CSt_sub n1, ← CS_one]
  rfl
theorem rs_sum {α : Type} (l : List α) (f : α → Rat) : (l.map f).sum = rs l f := rfl
theorem CS_twice (lo hi n : Int) (ps ws f : List Rat) : CS lo hi n ps (ws.map (2 * ·)) f = CS lo hi n ps ws f * 2 := by
  unfold CS
  rw [rs_sum, rs_sum, show ∀ x : Rat, x * 2 = 2 * x from fun x => by grind, rs_mul]
  refine rs_congr _ fun k _ => ?_
  rw [CSt_rs, CSt_rs, rs_mul, List.zip_map_right, rs_map]
  refine rs_congr _ fun x _ => ?_
  show 2 * x.2 * hf lo hi n * ev f (mid lo hi n k + hf lo hi n * x.1) = _
  grind
theorem CS_nil (lo hi n : Int) (ps ws : List Rat) : CS lo hi n ps ws [] = 0 := by
  unfold CS
  rw [rs_sum, rs_congr (g := fun _ => 0 * 0) _ fun k _ => ?_, ← rs_mul]
  · grind
  · rw [CSt_rs, rs_congr (g := fun _ => 0 * 0) _ fun x _ => by show x.2 * hf lo hi n * 0 = _; grind, ← rs_mul]
    grind
theorem PS_W0 : ∀ k, k < 13 → PS W0 k = if k % 2 = 0 then 2 / (((k : Int) + 1 : Int) : Rat) else 0 := by decide +kernel
theorem PS_W0_sq : ∀ k, k < 6 → Sq 4 (PS W0 k) := by
  unfold Sq
  decide +kernel
theorem W0_wts {B : Int} {ps : List Rat} (hp : PB B 6 ps) (ha : ps.Pairwise (· < ·)) (hl : ps.length ≤ 4) : Sqs 200 (Wts W0 ps) := fun q hq => by
  obtain ⟨i, hi, rfl⟩ := List.mem_map.mp hq
  have lt := List.mem_range.mp hi
  have sL := (LB_sq hp ha lt).up (show _ ≤ 44 by omega)
  have k : ∀ l : List (Int × Rat), (∀ x ∈ l, Sq 48 (tW W0 x)) → Sq (1 + 49 * l.length) (l.map (tW W0)).sum := fun l => by
    induction l with
    | nil => intro _; exact zero_sqn (by omega)
    | cons x l ih =>
      intro hx
      rw [List.map_cons, List.sum_cons]
      exact sq_add (hx x (List.mem_cons_self ..)) (ih fun y hy => hx y (List.mem_cons_of_mem _ hy)) (by rw [List.length_cons, Nat.mul_succ]; omega)
  have q := k (numL 0 (LB ps i)) fun x hx => by
    obtain ⟨a, b, m⟩ := numL_mem _ 0 x hx
    have := LB_len lt
    exact sq_mul (sL _ m) (PS_W0_sq _ (by omega)) (Nat.le_refl _)
  rw [numL_len, LB_len lt] at q
  exact q.up (by omega)
/-! ### sums by readings -/
def SB (ws ys : List Rat) : Rat := ((ws.zip ys).map fun x => x.1 * x.2).sum
theorem zip_frs (l r : List Rat) : (l.map fr).zip (r.map fr) = (l.zip r).map fun x => (fr x.1, fr x.2) := by
  rw [List.zip_map]
  rfl
theorem shares_ok {ws ys : List Rat} {a c : Nat} (hw : Sqs a ws) (hy : Sqs c ys) (h : a + c ≤ 1000) (hl : ws.length ≤ 6) : mapMm (fun (x36 : ((Int × Int) × (Int × Int))) => (times (x36.1) (x36.2)).bd fun b61 => Mm.ok b61) ((ws.map fr).zip (ys.map fr)) = .ok (((ws.zip ys).map fun x => x.1 * x.2).map fr) ∧ added_up (((ws.zip ys).map fun x => x.1 * x.2).map fr) = .ok (fr (SB ws ys)) ∧ Sq (1 + (a + c + 1) * 6) (SB ws ys) := by
  have each : ∀ x ∈ ws.zip ys, Sq a x.1 ∧ Sq c x.2 := fun x hx => by
    have m := List.of_mem_zip (a := x.1) (b := x.2) hx
    exact ⟨hw _ m.1, hy _ m.2⟩
  have sl : Sqs (a + c) ((ws.zip ys).map fun x => x.1 * x.2) := fun q hq => by
    obtain ⟨x, hx, rfl⟩ := List.mem_map.mp hq
    exact sq_mul (each x hx).1 (each x hx).2 (Nat.le_refl _)
  have ll : ((ws.zip ys).map fun x => x.1 * x.2).length ≤ 6 := by rw [List.length_map, List.length_zip]; omega
  have mm : (a + c + 1) * ((ws.zip ys).map fun x => x.1 * x.2).length ≤ (a + c + 1) * 6 := Nat.mul_le_mul_left _ ll
  obtain ⟨A, B⟩ := added_up_ok _ sl (by omega)
  refine ⟨?_, A, B.up (by omega)⟩
  rw [zip_frs, mapMm_map, mapMm_eq (g := fun x => fr (x.1 * x.2)) _ fun x hx => by rw [times_ok (each x hx).1 (each x hx).2 (by omega), bdo], List.map_map]
  rfl
structure SBy (a c : Nat) (w : Wt) (pl yl : List (Int × Int)) (ps ys : List Rat) : Prop where
  rp : All2 (fun p x => Rx 30 x p) ps pl
  ry : All2 (fun p x => Rx c x p) ys yl
  asc : ps.Pairwise (· < ·)
  len : ps.length ≤ 6
  pos : 0 < ps.length
  eq : ys.length = ps.length
  wf : weights_for w pl = .ok ((Wts w ps).map fr)
  sw : Sqs a (Wts w ps)
  ac : a + c ≤ 1000
theorem SBy.sy {a c : Nat} {w : Wt} {pl yl : List (Int × Int)} {ps ys : List Rat} (h : SBy a c w pl yl ps ys) : Sqs c ys := h.ry.left fun _ _ r => r.sq
def Due (ws ys : List Rat) (i : Nat) (q : Rat) : Option Rat := if ws.getD i 0 = 0 then none else some (ys.getD i 0 + (q - SB ws ys) / ws.getD i 0)
/-! ### sums of fractions of several sizes -/
theorem fold_var {f : Int × Int → Rat → Mm (Int × Int)} (hf : ∀ p x a c, Sq a p → Sq c x → a + c < 8999 → f (fr p) x = .ok (fr (p + x))) : ∀ (cs : List Nat) (l : List Rat) (p : Rat) (a : Nat), All2 (fun c q => Sq c q) cs l → Sq a p → a + cs.sum + cs.length < 8998 → foldM f (fr p) l = .ok (fr (p + l.sum)) ∧ Sq (a + cs.sum + cs.length) (p + l.sum) := fun cs => by
  induction cs with
  | nil =>
    intro l p a h ha hl
    cases h
    rw [List.sum_nil, Rat.add_zero]
    exact ⟨rfl, ha.up (by simp)⟩
  | cons c cs ih =>
    intro l p a h ha hl
    rw [List.sum_cons, List.length_cons] at hl
    cases h with
    | cons h hr =>
      rename_i x l
      obtain ⟨A, B⟩ := ih l (p + x) (a + c + 1) hr (sq_add (n := a + c + 1) ha h (by omega)) (by omega)
      rw [List.sum_cons, show p + (x + l.sum) = p + x + l.sum from (Rat.add_assoc ..).symm]
      refine ⟨?_, B.up (by rw [List.sum_cons, List.length_cons]; omega)⟩
      show (f (fr p) x).bd _ = _
      rw [hf p x a c ha h (by omega), bdo, A]
theorem added_up_var {cs : List Nat} {l : List Rat} (h : All2 (fun c q => Sq c q) cs l) (hl : cs.sum + cs.length < 8990) : added_up (l.map fr) = .ok (fr l.sum) ∧ Sq (1 + cs.sum + cs.length) l.sum := by
  obtain ⟨A, B⟩ := fold_var (f := fun (s : Int × Int) (x : Rat) => (plus s (fr x)).bd fun b => Mm.ok b) (fun p x a c ha hc hn => by rw [plus_ok ha hc hn, bdo]) cs l 0 1 h zero_sq (by omega)
  rw [zero_add', fr_zero] at A
  rw [zero_add'] at B
  refine ⟨?_, B⟩
  unfold added_up
  rw [foldM_map, A, bdo]
theorem sum_sq {c : Nat} : ∀ l : List Rat, Sqs c l → Sq (1 + (c + 1) * l.length) l.sum
  | [], _ => by rw [List.sum_nil]; exact zero_sq.up (by omega)
  | x :: l, h => by
    have a := h x (by simp)
    have b := sum_sq l fun q hq => h q (by simp [hq])
    rw [List.sum_cons, List.length_cons]
    exact sq_add a b (by rw [Nat.mul_add]; omega)
theorem pow_lt6 {x : Int} {k : Nat} (h : x.natAbs ≤ 20) (hk : k ≤ 6) : (x ^ k).natAbs < 2 ^ 31 := by
  refine up_lt (pow_lt (b := 5) (by have : (2 : Nat) ^ 5 = 32 := by decide
                                    omega) k) (by omega)
theorem sq_PS5 {w : Wt} (g : Good w) {k : Nat} (hk : k ≤ 5) : Sq 50 (PS w k) := by
  have sm : ((k : Int) + 1).natAbs < 2 ^ 3 := by
    have : (2 : Nat) ^ 3 = 8 := by decide
    omega
  have a : (w.1.map (mI k)).sum.natAbs < 2 ^ 44 := by
    refine up_lt (sum_lt (a := 37) _ fun x hx => ?_) (by rw [List.length_map]; have := g.lm; omega)
    obtain ⟨m, hm, rfl⟩ := List.mem_map.mp hx
    have q := g.ms m hm
    exact mul_lt (a := 5) (b := 31) (by have : (2 : Nat) ^ 5 = 32 := by decide
                                        omega) (pow_lt6 q.1 (by omega)) (by decide)
  have b : (w.2.map (sI k)).sum.natAbs < 2 ^ 44 := by
    refine up_lt (sum_lt (a := 37) _ fun x hx => ?_) (by rw [List.length_map]; have := g.ls; omega)
    obtain ⟨s, hs, rfl⟩ := List.mem_map.mp hx
    have q := g.ss s hs
    exact mul_lt (a := 5) (b := 32) (by have : (2 : Nat) ^ 5 = 32 := by decide
                                        omega) (sub_lt (n := 32) (pow_lt6 q.2.1 (by omega)) (pow_lt6 q.1 (by omega)) (by decide) (by decide)) (by decide)
  refine sq_div (by omega) ?_ (up_lt sm (by decide))
  exact add_lt (mul_lt a sm (Nat.le_refl _)) b (by decide) (by decide)
theorem WS_sq5 {w : Wt} (g : Good w) {l : List Rat} {c : Nat} (hl : l.length ≤ 6) (hc : Sqs c l) : Sq (1 + (c + 51) * l.length) (WS w l) := by
  have sm : Sqs (c + 50) ((numL 0 l).map (tW w)) := fun q hq => by
    obtain ⟨y, hy, rfl⟩ := List.mem_map.mp hq
    obtain ⟨a, b, m⟩ := numL_mem l 0 y hy
    exact sq_mul (hc _ m) (sq_PS5 g (by omega)) (Nat.le_refl _)
  have A := sum_sq _ sm
  rw [List.length_map, numL_len] at A
  exact A
theorem Wts_sq5 {w : Wt} (g : Good w) {B : Int} {e : Nat} {ps : List Rat} (hp : PB B e ps) (ha : ps.Pairwise (· < ·)) (hl : ps.length ≤ 6) : Sqs (1 + (2 * (1 + (e + 1) * (ps.length - 1)) + 51) * ps.length) (Wts w ps) := fun q hq => by
  unfold Wts at hq
  obtain ⟨i, hi, rfl⟩ := List.mem_map.mp hq
  have lt := List.mem_range.mp hi
  have := WS_sq5 g (by rw [LB_len lt]; exact hl) (LB_sq hp ha lt)
  rw [LB_len lt] at this
  exact this
/-! ### sums by readings, one of which is exchanged -/
theorem SB_set : ∀ (ws ys : List Rat) (k : Nat) (v : Rat), k < ws.length → k < ys.length → SB ws (ys.set k v) = SB ws ys + ws.getD k 0 * (v - ys.getD k 0)
  | w :: ws, y :: ys, 0, v, _, _ => by
    unfold SB
    rw [List.set_cons_zero, List.zip_cons_cons, List.zip_cons_cons, List.map_cons, List.map_cons, List.sum_cons, List.sum_cons, List.getD_cons_zero, List.getD_cons_zero]
    grind
  | w :: ws, y :: ys, k + 1, v, h1, h2 => by
    have := SB_set ws ys k v (by simpa using h1) (by simpa using h2)
    unfold SB at this ⊢
    rw [List.set_cons_succ, List.zip_cons_cons, List.zip_cons_cons, List.map_cons, List.map_cons, List.sum_cons, List.sum_cons, List.getD_cons_succ, List.getD_cons_succ, this]
    grind
  | [], _, _, _, h, _ => by simp at h
  | _ :: _, [], _, _, _, h => by simp at h
theorem zm_set : ∀ (ws ys : List Rat) (k : Nat) (v : Rat), k < ws.length → k < ys.length → ((ws.zip (ys.set k v)).map fun x => x.1 * x.2) = ((ws.zip ys).map fun x => x.1 * x.2).set k (ws.getD k 0 * v)
  | w :: ws, y :: ys, 0, v, _, _ => rfl
  | w :: ws, y :: ys, k + 1, v, h1, h2 => by
    have := zm_set ws ys k v (by simpa using h1) (by simpa using h2)
    rw [List.set_cons_succ, List.zip_cons_cons, List.zip_cons_cons, List.map_cons, List.map_cons, List.set_cons_succ, List.getD_cons_succ, this]
  | [], _, _, _, h, _ => by simp at h
  | _ :: _, [], _, _, _, h => by simp at h
theorem SB_add : ∀ (ws ys zs : List Rat), ys.length = zs.length → SB ws (List.zipWith (· + ·) ys zs) = SB ws ys + SB ws zs
  | [], _, _, _ => by unfold SB; simp only [List.zip_nil_left, List.map_nil, List.sum_nil]; grind
  | w :: ws, [], [], _ => by unfold SB; simp only [List.zipWith_nil_left, List.zip_nil_right, List.map_nil, List.sum_nil]; grind
  | w :: ws, y :: ys, z :: zs, h => by
    have := SB_add ws ys zs (by simpa using h)
    unfold SB at this ⊢
    rw [List.zipWith_cons_cons, List.zip_cons_cons, List.zip_cons_cons, List.zip_cons_cons, List.map_cons, List.map_cons, List.map_cons, List.sum_cons, List.sum_cons, List.sum_cons, this]
    grind
theorem set_sum : ∀ (l : List Nat) (k v : Nat), (l.set k v).sum ≤ l.sum + v
  | [], _, _ => by simp
  | a :: l, 0, v => by rw [List.set_cons_zero, List.sum_cons, List.sum_cons]; omega
  | a :: l, k + 1, v => by
    have := set_sum l k v
    rw [List.set_cons_succ, List.sum_cons, List.sum_cons]
    omega
theorem all2_rep {c : Nat} : ∀ l : List Rat, Sqs c l → All2 (fun c q => Sq c q) (List.replicate l.length c) l
  | [], _ => .nil
  | x :: l, h => .cons (h x (by simp)) (all2_rep l fun q hq => h q (by simp [hq]))
theorem set_cut {α : Type} (l : List α) {i : Nat} (h : i < l.length) (v : α) : (l.take i ++ [v]) ++ l.drop (i + 1) = l.set i v := by
  rw [List.append_assoc, List.singleton_append, List.set_eq_take_append_cons_drop, if_pos h]
theorem trim_last {l r : List Rat} {x : Rat} (h : trim l = r ++ [x]) : x ≠ 0 := fun z => by
  have len : (trim l).length = r.length + 1 := by rw [h, List.length_append, List.length_singleton]
  have no : ¬ (trim l).length ≤ r.length := by omega
  apply no
  rw [trim_le]
  intro k hk
  by_cases e : k = r.length
  · have g : (trim l).getD k 0 = l.getD k 0 := by
      unfold trim
      rw [getD_take (by rw [← trim_len]; omega)]
    rw [← g, h, e, getD_snoc, z]
  · exact trim_le.mp (Nat.le_refl _) k (by omega)
theorem trim_rep (l : List Rat) : ∀ n : Nat, trim (l ++ List.replicate n 0) = trim l
  | 0 => by rw [List.replicate_zero, List.append_nil]
  | n + 1 => by rw [List.replicate_succ', ← List.append_assoc, trim_snoc0, trim_rep l n]
theorem IP_own {ps f : List Rat} (ha : ps.Pairwise (· < ·)) (hf : f.length ≤ ps.length) : trim (IP ps (ps.map fun p => ev f p)) = trim f := by
  have e : IP ps (ps.map fun p => ev f p) = f ++ List.replicate (ps.length - f.length) 0 :=
    same_poly (asc_ne ha) (by rw [IP_len, pad_len f hf]) (by rw [IP_len]; exact Nat.le_refl _) fun p hp => by rw [ev_IPf ha (fun p => ev f p) p hp, ev_pad]
  rw [e, trim_rep]
theorem ip_one (p q : Rat) : trim (IP [p] [q]) = if q = 0 then [] else [q] := by
  have a : ([p] : List Rat).Pairwise (· < ·) := List.pairwise_singleton ..
  have e : IP [p] [q] = [q] := by
    refine same_poly (asc_ne a) (IP_len _ _) (by rw [IP_len]; exact Nat.le_refl _) fun r hr => ?_
    rw [List.mem_singleton.mp hr]
    have := ev_IPf a (fun _ => q) p (by simp)
    rw [show ([p] : List Rat).map (fun _ => q) = [q] from rfl] at this
    rw [this]
    show q = q + p * 0
    grind
  rw [e]
  by_cases z : q = 0
  · rw [if_pos z, z]
    exact trim_snoc0 []
  · rw [if_neg z]
    exact trim_snoc z (l := [])
theorem trim_popI {c : List Int × Rw → Mm Bool} {b : List Int × Rw → Mm (List Int × Rw)} (hc : ∀ s, c s = (cond (!(decide (s.1 = []))) ((getM s.1 (-(1 : Int))).bd fun i => Mm.ok (decide (i = (0 : Int)))) (Mm.ok false)).bd fun b => Mm.ok b)
    (hb : ∀ s, b s = (popN s.1).bd fun _ => Mm.ok (List.dropLast s.1, s.2)) : ∀ (N : Nat) (l : List Int) (s : Rw), l.length < N → ∃ g : List Int, foldW c b N (l, s) = .ok (g, s) ∧ toR g = trim (toR l) := fun N => by
  induction N with
  | zero => intro l s h; omega
  | succ N ih =>
    intro l s hl
    unfold foldW
    rcases List.eq_nil_or_concat l with q | ⟨r, x, q⟩
    · subst q
      refine ⟨[], ?_, rfl⟩
      rw [hc]
      rfl
    · rw [List.concat_eq_append] at q
      subst q
      rw [List.length_append, List.length_singleton] at hl
      have tr : toR (r ++ [x]) = toR r ++ [(x : Rat)] := by unfold toR; rw [List.map_append]; rfl
      rw [hc, cT (c := !decide ((r ++ [x], s).1 = [])) (by rw [decide_eq_false (by simp)]; rfl), show (r ++ [x], s).1 = r ++ [x] from rfl, getM_last, bdo, bdo, bdo]
      by_cases z : x = 0
      · obtain ⟨g, e1, e2⟩ := ih r s (by omega)
        refine ⟨g, ?_, by rw [tr, z, show (((0 : Int)) : Rat) = 0 from rfl, trim_snoc0, e2]⟩
        have p1 : popN (r ++ [x]) = .ok (r ++ [x]).dropLast := by
          cases r with
          | nil => rfl
          | cons a b => rfl
        rw [decide_eq_true z]
        show (b (r ++ [x], s)).bd _ = _
        rw [hb, show (r ++ [x], s).1 = r ++ [x] from rfl, p1, bdo, bdo, List.dropLast_concat]
        exact e1
      · refine ⟨r ++ [x], ?_, by rw [tr, trim_snoc (intc_ne z)]⟩
        rw [decide_eq_false z]
theorem idx_has (P : Rat → Bool) (l : List Rat) {i : Nat} (h : i < l.length) : hasM (idx P l) (i : Int) = P (l.getD i 0) := by
  have at_ : l[i]? = some (l.getD i 0) := by
    rw [List.getD_eq_getElem?_getD, List.getElem?_eq_getElem h]
    rfl
  have m : ((i : Int) ∈ idx P l) ↔ P (l.getD i 0) = true := by
    unfold idx
    rw [List.mem_filterMap]
    constructor
    · rintro ⟨y, hy, e⟩
      have a := numL_at hy
      by_cases c : P y.2 = true
      · rw [if_pos c] at e
        have e1 : y.1 = (i : Int) := Option.some.inj e
        have a1 := a.1
        rw [e1, Int.toNat_natCast, at_] at a1
        rw [Option.some.inj a1]
        exact c
      · rw [if_neg c] at e
        cases e
    · intro c
      have b : (i, l.getD i 0) ∈ (List.range l.length).zip l := by
        rw [List.mem_iff_getElem?]
        refine ⟨i, List.getElem?_zip_eq_some.mpr ⟨?_, at_⟩⟩
        rw [List.getElem?_range h]
      have mem : ((i : Int), l.getD i 0) ∈ numL 0 l := by
        rw [← enumL_eq]
        unfold enumL
        rw [List.mem_iff_getElem?]
        refine ⟨i, List.getElem?_zip_eq_some.mpr ⟨?_, at_⟩⟩
        unfold rangeL
        rw [List.getElem?_map, List.getElem?_range h]
        show some ((0 : Int) + (i : Int)) = some (i : Int)
        rw [Int.zero_add]
      exact ⟨_, mem, by rw [if_pos c]⟩
  unfold hasM
  rw [Bool.eq_iff_iff, List.contains_iff_mem]
  exact m
theorem zadd : ∀ {c : Nat} {qs : List Rat} {o : List (Int × Int)} (ys : List Rat), All2 (fun q x => Rx c x q) qs o → ((ys.zip o).map fun v => fr (v.1 + rv v.2)) = (List.zipWith (· + ·) ys qs).map fr
  | _, _, _, [], _ => by simp
  | _, _, _, y :: ys, .nil => by simp
  | _, _, _, y :: ys, .cons h r => by
    have e := h.v
    rw [List.zip_cons_cons, List.map_cons, List.zipWith_cons_cons, List.map_cons, zadd ys r]
    unfold rv
    rw [e]
theorem SB_ev (f : Rat → Rat) : ∀ ws ps : List Rat, SB ws (ps.map f) = rs (ps.zip ws) fun x => x.2 * f x.1
  | [], _ => by unfold SB rs; simp
  | w :: ws, [] => by unfold SB rs; simp
  | w :: ws, p :: ps => by
    have := SB_ev f ws ps
    unfold SB rs at this ⊢
    rw [List.map_cons, List.zip_cons_cons, List.map_cons, List.sum_cons, List.zip_cons_cons, List.map_cons, List.sum_cons, this]
/-! ### the laws of family A: weightings that are drawn, their sums -/
theorem pair_fold {f : Int × Int → Int → Mm (Int × Int)} {hi lo : Int} {b : Nat} (h1 : hi.natAbs < 2 ^ b) (h2 : lo.natAbs < 2 ^ b) (hf : ∀ s x, f s x = (mulM s.1 hi).bd fun m => (mulM s.2 lo).bd fun n => Mm.ok (m, n)) : ∀ (l : List Int) (s : Int × Int) (a : Nat), s.1.natAbs < 2 ^ a → s.2.natAbs < 2 ^ a → a + b * (l.length + 1) ≤ 900000 →
    foldM f s l = .ok (s.1 * hi ^ l.length, s.2 * lo ^ l.length)
  | [], s, a, _, _, _ => by simp [foldM]
  | x :: l, s, a, ha, ha2, h => by
    have e : a + b + b * (l.length + 1) ≤ 900000 := by
      rw [List.length_cons] at h
      have : b * (l.length + 1 + 1) = b * (l.length + 1) + b := by rw [Nat.mul_succ]
      omega
    unfold foldM
    rw [hf, mul_ok ha h1 (by omega)]
    show Mm.bd (Mm.bd (mulM s.2 lo) _) _ = _
    rw [mul_ok ha2 h2 (by omega)]
    show foldM f (s.1 * hi, s.2 * lo) l = _
    rw [pair_fold h1 h2 hf l _ (a + b) (mul_lt ha h1 (Nat.le_refl _)) (mul_lt ha2 h2 (Nat.le_refl _)) e, List.length_cons, Int.mul_assoc, Int.mul_assoc, Int.pow_succ', Int.pow_succ']
theorem law_sum_ok {w : Wt} (g : Good w) {p : Int} (h0 : 0 ≤ p) (h1 : p ≤ 60) : law_sum w p = .ok (fr (PS w p.toNat)) := by
  unfold law_sum
  have lm := g.lm
  have ls := g.ls
  have A := fold_fr (v := fun m => ((mI p.toNat m : Int) : Rat)) (c := 320) (f := fun (b16 : (Int × Int)) (x17 : (Int × Int)) => (rangeM p).bd fun l52 => (foldM (fun (b53 : Int) (x54 : Int) => (mulM b53 x17.1).bd fun m77 => Mm.ok m77) x17.2 (rangeL 0 p.toNat)).bd fun b70 => (law_add (b16) ((b70, (1 : Int)))).bd fun b92 => Mm.ok b92) w.1 (fun x hx => ?_) 0 1 (by unfold Sq; decide) (by omega)
  · obtain ⟨A, A2⟩ := A
    rw [show ((0 : Int), (1 : Int)) = fr 0 from fr_zero.symm, A]
    have B := fold_fr (v := fun s => ((sI p.toNat s : Int) : Rat) / (((p.toNat : Int) + 1 : Int) : Rat)) (c := 330) (f := fun (b115 : (Int × Int)) (x116 : (Int × Int × Int)) => (rangeM (p + (1 : Int))).bd fun l153 => (foldM (fun (b154 : (Int × Int)) (x155 : Int) => (mulM b154.1 x116.2.1).bd fun m176 => (mulM b154.2 x116.1).bd fun m179 => Mm.ok (m176, m179)) (x116.2.2, x116.2.2) (rangeL 0 (p + (1 : Int)).toNat)).bd fun b171 => (law_low ((b171.1 - b171.2)) ((p + (1 : Int)))).bd fun b187 => (law_add (b115) (b187)).bd fun b194 => Mm.ok b194) w.2 (fun x hx => ?_) _ _ A2 (by omega)
    · show (foldM _ _ _).bd _ = _
      rw [B.1]
      show Mm.ok (fr _) = _
      congr 2
      rw [sum_cast, sum_castD]
      unfold PS
      have k := intc_ne (n := (p.toNat : Int) + 1) (by omega)
      push_cast
      push_cast at k
      grind
    · have q := g.ss x hx
      have sm := small_lt (k := p.toNat) (by omega)
      have e : p + 1 = ((p.toNat : Nat) : Int) + 1 := by omega
      have e2 : (((p.toNat : Nat) : Int) + 1).toNat = p.toNat + 1 := by omega
      have sq : Sq 330 (((sI p.toNat x : Int) : Rat) / (((p.toNat : Int) + 1 : Int) : Rat)) := sq_div (by omega) (up_lt (sI_lt q (by omega)) (by decide)) (up_lt sm (by decide))
      refine ⟨sq, fun r a ha hl => ?_⟩
      show (rangeM (p + 1)).bd _ = _
      rw [range_ok (by omega) (by omega)]
      show (foldM _ _ _).bd _ = _
      rw [pair_fold (hi := x.2.1) (lo := x.1) (b := 5) (by omega) (by omega) (fun s x => rfl) _ _ 5 (by show x.2.2.natAbs < _; omega) (by show x.2.2.natAbs < _; omega) (by rw [rangeL_len]; omega), rangeL_len]
      show (law_low _ _).bd _ = _
      rw [e, e2, law_low_any (by omega) sm (by decide)]
      show (law_add _ _).bd _ = _
      have e3 : x.2.2 * x.2.1 ^ (p.toNat + 1) - x.2.2 * x.1 ^ (p.toNat + 1) = sI p.toNat x := by
        unfold sI
        rw [Int.mul_sub]
      rw [show ((x.2.2, x.2.2) : Int × Int).1 = x.2.2 from rfl, show ((x.2.2, x.2.2) : Int × Int).2 = x.2.2 from rfl, e3, law_add_ok ha sq hl]
      rfl
  · have q := g.ms x hx
    refine ⟨sq_int (mI_lt q (by omega)) (by decide), fun r a ha hl => ?_⟩
    show (rangeM p).bd _ = _
    rw [range_ok (by omega) (by omega)]
    show (foldM _ _ _).bd _ = _
    rw [pow_fold (base := x.1) (b := 5) (by omega) (fun s x => rfl) _ _ 5 (by omega) (by rw [rangeL_len]; omega), rangeL_len]
    show (law_add _ _).bd _ = _
    rw [← fr_of_int]
    show (law_add (fr r) (fr ((mI p.toNat x : Int) : Rat))).bd _ = _
    rw [law_add_ok ha (sq_int (mI_lt q (by omega)) (by decide)) hl]
    rfl
theorem insU_len (x : Int) : ∀ l : List Int, (insU x l).length ≤ l.length + 1
  | [] => by simp [insU]
  | y :: l => by
    have := insU_len x l
    unfold insU
    split
    · simp
    · split
      · simp
      · simp only [List.length_cons]; omega
theorem sortedSet_len : ∀ l : List Int, (sortedSet l).length ≤ l.length
  | [] => by simp [sortedSet]
  | x :: l => by
    have := sortedSet_len l
    have := insU_len x (sortedSet l)
    show (insU x (sortedSet l)).length ≤ l.length + 1
    omega
theorem law_masses_ok {scr : List Int} {st : Rw} {most far : Int} {N : Nat} (r : Rk N st) (h0 : 0 ≤ most) (h1 : most ≤ 6) (f0 : 0 ≤ far) (f1 : far ≤ 20) (hN : N < 9000) : Yes (law_masses scr st most far) fun r => MsOk r.1 ∧ Rk (N + 30) r.2 := by
  unfold law_masses
  refine (takenA_ok r (by omega) (by omega) (by omega)).bd fun b hb => ?_
  obtain ⟨⟨b0, b1⟩, rb⟩ := hb
  rw [range_ok (by omega) (by omega)]
  refine .guard (by rw [rangeL_len]; omega) ?_
  refine (yes_mapS (fun s n => ∃ k, Rk k s ∧ k + n ≤ N + 7) (fun _ y => y.natAbs ≤ 20) _ _ ⟨N + 1, rb, by rw [rangeL_len]; omega⟩ fun s x n hx hs => ?_).bd fun c hc => ?_
  · obtain ⟨k, rk, hk⟩ := hs
    refine .eq (mul_ok (a := 2) (b := 5) (by decide) (by omega) (by decide)) ?_
    refine (takenA_ok rk (by omega) (by omega) (by omega)).bd fun d hd => ?_
    exact .ok ⟨by show (d.1 - far).natAbs ≤ 20; omega, k + 1, hd.2, by omega⟩
  · obtain ⟨hc, k, rk, hk⟩ := hc
    have l1 := hc.len
    rw [rangeL_len] at l1
    have l2 := sortedSet_len c.1
    have hp := hc.right fun x y h => h
    refine .guard (by omega) (.guard (by omega) ?_)
    refine (yes_mapS (fun s n => ∃ k, Rk k s ∧ k + 3 * n ≤ N + 30) (fun (x : Int) (y : Int × Int) => y.1 = x ∧ 1 ≤ y.2 ∧ y.2 ≤ 20) (sortedSet c.1) c.2 ⟨k, rk, by omega⟩ fun s x n hx hs => ?_).bd fun d hd => ?_
    · obtain ⟨k, rk, hk⟩ := hs
      refine (takenA_ok rk (by decide) (by decide) (by omega)).bd fun e he => ?_
      refine (takenA_ok he.2 (by decide) (by decide) (by omega)).bd fun f hf => ?_
      refine (pickA_ok hf.2 (by simp) (by simp) (by omega)).bd fun g hg => ?_
      refine .ok ⟨⟨rfl, ?_⟩, k + 3, hg.2, by omega⟩
      have m := hg.1
      simp only [List.mem_cons, List.not_mem_nil, or_false] at m
      show 1 ≤ 1 + g.1 ∧ 1 + g.1 ≤ 20
      omega
    · obtain ⟨hd, k2, rk2, hk2⟩ := hd
      have l3 := hd.len
      have hf := hd.fst (g := (·.1)) fun x y h => h.1
      refine .ok ⟨⟨fun m hm => ⟨?_, hd.right (fun x y h => h.2) m hm⟩, by rw [hf]; exact asc_sortedSet _, by show d.1.length ≤ 6; omega⟩, rk2.1, rk2.2.1, rk2.2.2.1, by have := rk2.2.2.2; show d.2.pos ≤ _; omega⟩
      have : m.1 ∈ sortedSet c.1 := by
        rw [← hf]
        exact List.mem_map_of_mem hm
      exact hp _ ((mem_sortedSet _ _).mp this)
theorem law_stretches_ok {scr : List Int} {st : Rw} {far : Int} {N : Nat} (r : Rk N st) (f0 : 1 ≤ far) (f1 : far ≤ 20) (hN : N < 9000) : Yes (law_stretches scr st 3 far) fun r => (SsTo (-20) r.1 20 ∧ r.1.length ≤ 3) ∧ Rk (N + 10) r.2 := by
  unfold law_stretches
  refine (takenA_ok r (by omega) (by omega) (by omega)).bd fun b hb => ?_
  obtain ⟨⟨b0, b1⟩, rb⟩ := hb
  rw [range_ok (by omega) (by omega)]
  refine (yes_fold (fun (s : Int × Ss × Rw) (l : List Int) => s.2.1.length + l.length ≤ 3 ∧ (∃ y, y ≤ s.1 ∧ y ≤ far ∧ SsTo (-far) s.2.1 y) ∧ ∃ k, Rk k s.2.2 ∧ k + 3 * l.length ≤ N + 10) _ _ ⟨by rw [rangeL_len]; show 0 + b.1.toNat ≤ 3; omega, ⟨-far, by show -far ≤ 0 - far; omega, by omega, Int.le_refl _⟩, N + 1, rb, by rw [rangeL_len]; omega⟩ fun s x l hs => ?_).bd fun c hc => ?_
  · obtain ⟨hl, ⟨y, y1, y2, hy⟩, k, rk, hk⟩ := hs
    rw [List.length_cons] at hl hk
    refine (takenA_ok rk (by omega) (by omega) (by omega)).bd fun d hd => ?_
    refine (takenA_ok hd.2 (by omega) (by omega) (by omega)).bd fun e he => ?_
    have d0 := hd.1.1
    have e0 := he.1.1
    by_cases q : s.1 + d.1 + 1 + e.1 ≤ far
    · rw [decide_eq_true q]
      refine (takenA_ok he.2 (by omega) (by omega) (by omega)).bd fun f hf => ?_
      refine .guard (by omega) (.ok ⟨?_, ⟨s.1 + d.1 + 1 + e.1, Int.le_refl _, q, ?_⟩, k + 3, hf.2, by omega⟩)
      · show (s.2.1 ++ [_]).length + l.length ≤ 3
        rw [List.length_append, List.length_singleton]
        omega
      · exact hy.app (by omega) (by omega) (by omega) (by omega)
    · rw [decide_eq_false q]
      refine .ok ⟨by show s.2.1.length + l.length ≤ 3; omega, ⟨y, by show y ≤ s.1 + d.1; omega, y2, hy⟩, k + 2, he.2, by omega⟩
  · obtain ⟨hl, ⟨y, y1, y2, hy⟩, k, rk, hk⟩ := hc
    refine .ok ⟨⟨(hy.low (by omega)).up (by omega), by simpa using hl⟩, rk.1, rk.2.1, rk.2.2.1, by have := rk.2.2.2; show c.2.2.pos ≤ _; omega⟩
theorem law_parts_ok {scr : List Int} : Yes (law_parts scr (Rw.mk 0 0 0)) fun r => (WOk r.1 ∧ r.1.2.length ≤ 3) ∧ Rk 60 r.2 := by
  unfold law_parts
  refine (pickA_ok (N := 0) ⟨by decide, by decide, by decide, by decide⟩ (by decide) (by decide) (by decide)).bd fun a ha => ?_
  have m1 := ha.1
  simp only [List.mem_cons, List.not_mem_nil, or_false] at m1
  refine (pickA_ok ha.2 (by decide) (by decide) (by decide)).bd fun b hb => ?_
  have m2 := hb.1
  simp only [List.mem_cons, List.not_mem_nil, or_false] at m2
  refine (law_masses_ok hb.2 (by omega) (by omega) (by omega) (by omega) (by decide)).bd fun c hc => ?_
  refine (law_stretches_ok hc.2 (by omega) (by omega) (by decide)).bd fun d hd => ?_
  have l1 := hc.1.len
  have l2 := hd.1.2
  refine .guard (by omega) ?_
  by_cases q : c.1 = [] ∧ d.1 = []
  · rw [q.1, q.2]
    refine .ok ⟨⟨⟨zeroW, ?_, Nat.zero_le 4, .inl (by simp)⟩, Nat.zero_le 3⟩, hd.2.1, hd.2.2.1, hd.2.2.2.1, by have := hd.2.2.2.2; show d.2.pos ≤ 60; omega⟩
    show (-20 : Int) ≤ 20
    decide
  · have e : (c.1.isEmpty && d.1.isEmpty) = false := by
      cases h1 : c.1 with
      | nil => cases h2 : d.1 with
        | nil => exact absurd ⟨h1, h2⟩ q
        | cons _ _ => rfl
      | cons _ _ => rfl
    rw [e]
    refine .ok ⟨⟨⟨hc.1, hd.1.1, by show d.1.length ≤ 4; omega, ?_⟩, hd.1.2⟩, hd.2.1, hd.2.2.1, hd.2.2.2.1, by have := hd.2.2.2.2; show d.2.pos ≤ 60; omega⟩
    by_cases z : c.1 = []
    · exact .inr fun z2 => q ⟨z, z2⟩
    · exact .inl z
theorem num_at : ∀ {l : List Rat} {i : Nat} {x : Int × Rat}, (numL 0 l)[i]? = some x → x.1 = (i : Int) ∧ l[i]? = some x.2 := by
  have gen : ∀ (l : List Rat) (k : Nat) (i : Nat) (x : Int × Rat), (numL (k : Int) l)[i]? = some x → x.1 = ((k + i : Nat) : Int) ∧ l[i]? = some x.2 := fun l => by
    induction l with
    | nil => intro k i x h; cases h
    | cons a l ih =>
      intro k i x h
      have e : (k : Int) + 1 = ((k + 1 : Nat) : Int) := by omega
      cases i with
      | zero =>
        have h0 : some ((k : Int), a) = some x := h
        cases h0
        exact ⟨rfl, rfl⟩
      | succ i =>
        have h1 : (numL ((k : Int) + 1) l)[i]? = some x := h
        rw [e] at h1
        obtain ⟨p, q⟩ := ih (k + 1) i x h1
        exact ⟨by rw [p]; congr 1; omega, q⟩
  intro l i x h
  obtain ⟨p, q⟩ := gen l 0 i x h
  exact ⟨by rw [p, Nat.zero_add], q⟩
theorem law_weighting_okA {w : Wt} (h : WOk w) : law_weighting w = .ok w := by
  unfold law_weighting
  rw [init_ok h, bdo]
/-! ### the bar -/
def barS (w : Wt) : Nat → List Rat → Option (List Rat)
  | 0, _ => none
  | n + 1, l => if WS w l = 0 then barS w n (0 :: l) else some l
theorem zero_cons {l : List Rat} {a : Nat} (h : Sqs a l) (ha : 0 < a) : Sqs a (0 :: l) := fun q hq => by
  rcases List.mem_cons.mp hq with rfl | hq
  · exact zero_sqn ha
  · exact h q hq
theorem cons_fr (l : List Rat) : [((0, 1) : Int × Int)] ++ l.map fr = (0 :: l).map fr := by rw [List.map_cons, fr_zero]; rfl
theorem bar_fold {w : Wt} (g : Good w) {c : Nat} (c0 : 0 < c) (c6 : c ≤ 590) : ∀ (n : Nat) (k : Int) (l : List Rat), Sqs c l → l.length + n ≤ 14 →
    (foldL (R := (Option (List (Int × Int)))) (fun (b21 : (List (Int × Int))) (x22 : Int) => (weighed (w) (b21)).bd fun b42 => cond (!(decide (b42 = ((0, 1) : (Int × Int))))) (Mm.ok (Fl.ret (some b21))) ((guardM ([((0, 1) : (Int × Int))].length + b21.length ≤ 100000)).bd fun _ => Mm.ok (Fl.go ([((0, 1) : (Int × Int))] ++ b21)))) (l.map fr) (rangeL k n)).bd (fun o => o.el (fun b38 => Mm.ok none) (fun r => Mm.ok r)) = .ok ((barS w n l).map (List.map fr))
  | 0, k, l, _, _ => rfl
  | n + 1, k, l, hs, hl => by
    have N : (c + 91) * l.length ≤ 681 * 13 := Nat.mul_le_mul (by omega) (by omega)
    rw [rangeL_succ]
    unfold foldL
    rw [(weighed_ok g (by omega) hs (by omega)).1, bdo, fr_isz]
    unfold barS
    by_cases q : WS w l = 0
    · rw [decide_eq_true q, if_pos q, cF (c := !true) rfl, guard_ok (by simp only [List.length_map, List.length_cons, List.length_nil]; omega), bdo, bdo, cons_fr]
      exact bar_fold g c0 c6 n (k + 1) (0 :: l) (zero_cons hs c0) (by rw [List.length_cons]; omega)
    · rw [decide_eq_false q, if_neg q]
      rfl
theorem bar_okG {w : Wt} (g : Good w) {ps : List Rat} {pl : List (Int × Int)} {B : Int} {b e : Nat} (hr : All2 (fun p x => Rx b x p) ps pl) (hb : b < 4000) (hp : PB B e ps) (ha : ps.Pairwise (· < ·)) (hl : ps.length ≤ 6) (h0 : 0 < ps.length) (he : e ≤ 90) : bar w pl = .ok ((barS w (ps.length + 1) (WR ps)).map (List.map fr)) := by
  have N : (e + 1) * ps.length ≤ 91 * 6 := Nat.mul_le_mul (by omega) hl
  have f := bar_fold g (c := 1 + (e + 1) * ps.length) (by omega) (by omega) (ps.length + 1) 0 (WR ps) (WR_sq hp) (by rw [WR_len]; omega)
  have e1 : ((ps.length : Int) + 1).toNat = ps.length + 1 := by omega
  unfold bar
  rw [checked_places_x hb hr ha hl h0, bdo, with_roots_ok hp (by omega) (by omega), bdo, List.length_map, range_ok (by omega) (by omega), bdo, e1]
  exact f
theorem best_degree_okG {w : Wt} {pl : List (Int × Int)} {o : Option (List Rat)} (h : bar w pl = .ok (o.map (List.map fr))) : best_degree w pl = .ok (o.map fun d => (d.length : Int) - 2) := by
  unfold best_degree
  rw [h, bdo]
  cases o with
  | none => rfl
  | some d =>
    show Mm.ok (some (((d.map fr).length : Int) - 2)) = Mm.ok (some ((d.length : Int) - 2))
    rw [List.length_map]
/-! ### what a rule misses of a polynomial -/
def AF (w : Wt) (ps ws l : List Rat) : Rat := WS w l - rs (ps.zip ws) fun x => x.2 * ev l x.1
theorem ev_app (x : Rat) (r : List Rat) : ∀ l : List Rat, ev (l ++ r) x = ev l x + x ^ l.length * ev r x
  | [] => by
    show ev r x = 0 + x ^ 0 * ev r x
    rw [Rat.pow_zero]
    grind
  | c :: l => by
    show c + x * ev (l ++ r) x = c + x * ev l x + x ^ (l.length + 1) * ev r x
    rw [ev_app x r l, Rat.pow_succ]
    grind
theorem AF_low {w : Wt} {ps ws : List Rat} {k : Nat} (hk : k ≤ 13) (h : ∀ i, i < k → GP w ps ws i = 0) {l : List Rat} (hl : l.length ≤ k) : AF w ps ws l = 0 := by
  unfold AF
  rw [WS_atoms w (by omega)]
  cases k with
  | zero =>
    have : l = [] := List.length_eq_zero_iff.mp (by omega)
    rw [this, rs_congr (g := fun _ => 0 * 0) (atoms w) fun u _ => by show u.1 * 0 = _; grind, rs_congr (g := fun _ => 0 * 0) (ps.zip ws) fun u _ => by show u.2 * 0 = _; grind, ← rs_mul, ← rs_mul]
    grind
  | succ m =>
    have := GP_lin (w := w) (ps := ps) (ws := ws) (m := m) (by omega) (fun i hi => h i (by omega)) l 0 (by omega)
    rw [rs_congr (g := fun u => u.1 * (u.2 ^ 0 * ev l u.2)) (atoms w) fun u _ => by rw [Rat.pow_zero]; grind, this, rs_congr (g := fun x => x.2 * ev l x.1) (ps.zip ws) fun u _ => by rw [Rat.pow_zero]; grind]
    grind
theorem AF_monic {w : Wt} {ps ws : List Rat} {k : Nat} (hk : k ≤ 12) (h : ∀ i, i < k → GP w ps ws i = 0) {r : List Rat} (hl : r.length = k) : AF w ps ws (r ++ [1]) = GP w ps ws k := by
  have z := AF_low (w := w) (ps := ps) (ws := ws) (by omega) h (Nat.le_of_eq hl)
  unfold AF at z ⊢
  unfold GP
  have e : ∀ x : Rat, ev (r ++ [1]) x = ev r x + x ^ k := fun x => by
    rw [ev_app, hl]
    show ev r x + x ^ k * (1 + x * 0) = _
    grind
  rw [WS_atoms w (by rw [List.length_append, List.length_singleton]; omega), PS_atoms w hk]
  rw [WS_atoms w (by omega)] at z
  rw [rs_congr (g := fun u => u.1 * ev r u.2 + u.1 * u.2 ^ k) (atoms w) fun u _ => by rw [e]; grind, rs_congr (g := fun x => x.2 * ev r x.1 + x.2 * x.1 ^ k) (ps.zip ws) fun x _ => by rw [e]; grind, ← rs_add, ← rs_add]
  grind
theorem Wts_exact (w : Wt) {ps : List Rat} (ha : ps.Pairwise (· < ·)) (hl : ps.length ≤ 6) {k : Nat} (hk : k < ps.length) : GP w ps (Wts w ps) k = 0 := by
  have a := WS_exact w ha hl (g := List.replicate k 0 ++ [1]) (by rw [List.length_append, List.length_replicate, List.length_singleton]; omega)
  rw [WS_atoms w (by rw [List.length_append, List.length_replicate, List.length_singleton]; omega)] at a
  unfold GP
  rw [PS_atoms w (by omega), rs_congr (g := fun u => u.1 * ev (List.replicate k 0 ++ [1]) u.2) (atoms w) fun u _ => by rw [ev_rise], a, rs_congr (g := fun x => x.2 * x.1 ^ k) (ps.zip (Wts w ps)) fun u _ => by rw [ev_rise]]
  grind
theorem monic_rp (p : Rat) : ∀ (r : List Rat) (z : Rat), ∃ r', r'.length = r.length + 1 ∧ rp p z (r ++ [1]) = r' ++ [1]
  | [], z => ⟨[z - 1 * p], rfl, rfl⟩
  | x :: r, z => by
    obtain ⟨r', h1, h2⟩ := monic_rp p r x
    refine ⟨(z - x * p) :: r', by rw [List.length_cons, h1, List.length_cons], ?_⟩
    show (z - x * p) :: rp p x (r ++ [1]) = _
    rw [h2]
    rfl
theorem monic_WRf : ∀ (ps r : List Rat), ∃ r', r'.length = r.length + ps.length ∧ WRf ps (r ++ [1]) = r' ++ [1]
  | [], r => ⟨r, rfl, rfl⟩
  | p :: ps, r => by
    obtain ⟨r1, h1, h2⟩ := monic_rp p r 0
    obtain ⟨r', h3, h4⟩ := monic_WRf ps r1
    refine ⟨r', by rw [h3, h1, List.length_cons]; omega, ?_⟩
    show WRf ps (rp p 0 (r ++ [1])) = _
    rw [h2, h4]
theorem monic_WR (ps : List Rat) : ∃ r, r.length = ps.length ∧ WR ps = r ++ [1] := by
  obtain ⟨r, h1, h2⟩ := monic_WRf ps []
  exact ⟨r, by simpa using h1, h2⟩
theorem rs_zero {α : Type} {f : α → Rat} : ∀ l : List α, (∀ x ∈ l, f x = 0) → rs l f = 0
  | [], _ => rfl
  | x :: l, h => by
    rw [rs_cons, h x (by simp), rs_zero l fun y hy => h y (by simp [hy])]
    grind
theorem bar_gap {w : Wt} {ps : List Rat} (ha : ps.Pairwise (· < ·)) (hl : ps.length ≤ 6) : ∀ (m j : Nat), j + m = ps.length + 1 → (∀ i, i < ps.length + j → GP w ps (Wts w ps) i = 0) → (barS w m (List.replicate j 0 ++ WR ps)).map (fun d => (d.length : Int) - 2) = (fnz (GP w ps (Wts w ps)) m (ps.length + j)).map fun (k : Nat) => (k : Int) - 1
  | 0, j, _, _ => rfl
  | m + 1, j, hj, h => by
    obtain ⟨r, h1, h2⟩ := monic_WR ps
    have e : List.replicate j 0 ++ WR ps = (List.replicate j 0 ++ r) ++ [1] := by rw [h2, List.append_assoc]
    have a := AF_monic (w := w) (ps := ps) (ws := Wts w ps) (k := ps.length + j) (by omega) h (r := List.replicate j 0 ++ r) (by rw [List.length_append, List.length_replicate, h1]; omega)
    have z : rs (ps.zip (Wts w ps)) (fun x => x.2 * ev (List.replicate j 0 ++ WR ps) x.1) = 0 := rs_zero _ fun x hx => by
      have m := List.of_mem_zip (a := x.1) (b := x.2) hx
      rw [ev_app, ev_WR, prd_zero m.1, ev_repl]
      grind
    have b : WS w (List.replicate j 0 ++ WR ps) = GP w ps (Wts w ps) (ps.length + j) := by
      rw [← a, ← e]
      unfold AF
      rw [z]
      grind
    unfold barS fnz
    rw [b]
    by_cases q : GP w ps (Wts w ps) (ps.length + j) = 0
    · rw [if_pos q, if_pos q]
      exact bar_gap ha hl m (j + 1) (by omega) fun i hi => by
        by_cases c : i = ps.length + j
        · rw [c, q]
        · exact h i (by omega)
    · rw [if_neg q, if_neg q]
      show some (((List.replicate j 0 ++ WR ps).length : Int) - 2) = some (((ps.length + j : Nat) : Int) - 1)
      rw [List.length_append, List.length_replicate, WR_len]
      congr 1
      omega
theorem fnz_skip {G : Nat → Rat} {n m : Nat} (h : ∀ i, i < n → G i = 0) : fnz G (n + m) 0 = fnz G m n := by
  rw [fnz_app, fnz_none.mpr (fun j _ hj => h j (by omega))]
  show fnz G m (0 + n) = _
  rw [Nat.zero_add]
theorem bar_first {w : Wt} {ps : List Rat} (ha : ps.Pairwise (· < ·)) (hl : ps.length ≤ 6) : (barS w (ps.length + 1) (WR ps)).map (fun d => (d.length : Int) - 2) = (fnz (GP w ps (Wts w ps)) (2 * ps.length + 1) 0).map fun (k : Nat) => (k : Int) - 1 := by
  rw [show 2 * ps.length + 1 = ps.length + (ps.length + 1) by omega, fnz_skip fun i hi => Wts_exact w ha hl hi]
  exact bar_gap ha hl (ps.length + 1) 0 (by omega) fun i hi => Wts_exact w ha hl (by omega)
theorem GP_sq {w : Wt} (g : Good w) {ps ws : List Rat} {b c k : Nat} (sp : Sqs b ps) (sw : Sqs c ws) (hk : k ≤ 60) : Sq (340 + (1 + (c + (1 + b * k) + 1) * (ps.zip ws).length) + 1) (GP w ps ws k) := by
  have s : Sqs (c + (1 + b * k)) ((ps.zip ws).map fun x => x.2 * x.1 ^ k) := fun q hq => by
    obtain ⟨x, hx, rfl⟩ := List.mem_map.mp hq
    have m := List.of_mem_zip (a := x.1) (b := x.2) hx
    exact sq_mul (sw _ m.2) (sq_pow (sp _ m.1) k) (Nat.le_refl _)
  have A := sum_sq _ s
  rw [List.length_map] at A
  exact sq_subB (sq_PS g hk) A (by omega)
theorem pick_idx {α : Type} (pl : List α) (P : Rat → Bool) : ∀ (l : List Rat) (rest pre : List α), pl = pre ++ rest → rest.length = l.length → mapMm (fun x => (getM pl x).bd fun i => .ok i) ((numL (pre.length : Int) l).filterMap (fun y => if P y.2 then some y.1 else none)) = .ok (((rest.zip l).filter fun x => P x.2).map (·.1))
  | [], rest, pre, _, h => by
    have : rest = [] := List.length_eq_zero_iff.mp h
    subst this
    rfl
  | q :: l, [], pre, _, h => by simp at h
  | q :: l, a :: rest, pre, e, h => by
    have ih := pick_idx pl P l rest (pre ++ [a]) (by rw [e, List.append_assoc]; rfl) (by simpa using h)
    rw [List.length_append, List.length_singleton] at ih
    have e1 : ((pre.length + 1 : Nat) : Int) = (pre.length : Int) + 1 := by omega
    rw [e1] at ih
    show mapMm _ (((pre.length : Int), q) :: numL ((pre.length : Int) + 1) l |>.filterMap _) = _
    rw [List.zip_cons_cons]
    by_cases c : P q = true
    · rw [List.filterMap_cons_some (b := (pre.length : Int)) (by rw [if_pos c]), List.filter_cons_of_pos (by exact c), List.map_cons]
      show (Mm.bd (getM pl (pre.length : Int)) _).bd _ = _
      rw [e, getM_mid, bdo, bdo, ← e, ih, bdo]
    · rw [List.filterMap_cons_none (by rw [if_neg c]), List.filter_cons_of_neg (by exact c)]
      exact ih
theorem idx_mem {P : Rat → Bool} {l : List Rat} {x : Int} (h : x ∈ idx P l) : ∃ i : Nat, x = (i : Int) ∧ i < l.length ∧ P (l.getD i 0) = true := by
  unfold idx at h
  obtain ⟨y, hy, e⟩ := List.mem_filterMap.mp h
  have a := numL_at hy
  have lt : y.1.toNat < l.length := (List.getElem?_eq_some_iff.mp a.1).1
  by_cases c : P y.2 = true
  · rw [if_pos c] at e
    have e1 : y.1 = x := Option.some.inj e
    refine ⟨y.1.toNat, by omega, lt, ?_⟩
    rw [List.getD_eq_getElem?_getD, a.1]
    exact c
  · rw [if_neg c] at e
    cases e
theorem idx_nil {P : Rat → Bool} {l : List Rat} (h : ∀ q ∈ l, P q = false) : idx P l = [] := by
  rw [List.eq_nil_iff_forall_not_mem]
  intro x hx
  obtain ⟨i, _, hi, c⟩ := idx_mem hx
  rw [List.getD_eq_getElem?_getD, List.getElem?_eq_getElem hi] at c
  have := h l[i] (List.getElem_mem hi)
  rw [show (some l[i]).getD 0 = l[i] from rfl] at c
  rw [this] at c
  cases c
theorem rs_filter (f : Rat × Rat → Rat) (hf : ∀ x, x.2 = 0 → f x = 0) : ∀ l : List (Rat × Rat), rs (l.filter fun x => decide (x.2 ≠ 0)) f = rs l f
  | [] => rfl
  | x :: l => by
    by_cases c : x.2 = 0
    · rw [List.filter_cons_of_neg (by simpa using c), rs_filter f hf l, rs_cons, hf x c]
      grind
    · rw [List.filter_cons_of_pos (by simpa using c), rs_cons, rs_cons, rs_filter f hf l]
theorem zip_back (l : List (Rat × Rat)) : (l.map (·.1)).zip (l.map (·.2)) = l := by
  induction l with
  | nil => rfl
  | cons a l ih => rw [List.map_cons, List.map_cons, List.zip_cons_cons, ih]
theorem all2_filter {c : Nat} {P : Rat → Bool} : ∀ {ps : List Rat} {pl : List (Int × Int)} (ws : List Rat), All2 (fun p x => Rx c x p) ps pl → All2 (fun p x => Rx c x p) (((ps.zip ws).filter fun x => P x.2).map (·.1)) (((pl.zip ws).filter fun x => P x.2).map (·.1))
  | _, _, [], h => by
    rw [List.zip_nil_right, List.zip_nil_right]
    exact .nil
  | _, _, w :: ws, .nil => .nil
  | _, _, w :: ws, .cons h r => by
    rw [List.zip_cons_cons, List.zip_cons_cons]
    by_cases c : P w = true
    · rw [List.filter_cons_of_pos (by exact c), List.filter_cons_of_pos (by exact c)]
      exact .cons h (all2_filter ws r)
    · rw [List.filter_cons_of_neg (by exact c), List.filter_cons_of_neg (by exact c)]
      exact all2_filter ws r
theorem zip_self_fil {P : Rat → Bool} : ∀ (ps ws : List Rat), ps.length = ws.length → (((ws.map fr).zip ws).filter fun x => P x.2).map (·.1) = (((ps.zip ws).filter fun x => P x.2).map (·.2)).map fr
  | [], [], _ => rfl
  | p :: ps, w :: ws, h => by
    have ih := zip_self_fil (P := P) ps ws (by simpa using h)
    rw [List.map_cons, List.zip_cons_cons, List.zip_cons_cons]
    by_cases c : P w = true
    · rw [List.filter_cons_of_pos (by exact c), List.filter_cons_of_pos (by exact c), List.map_cons, List.map_cons, List.map_cons, ih]
    · rw [List.filter_cons_of_neg (by exact c), List.filter_cons_of_neg (by exact c), ih]
theorem one_only {f : Rat → Rat} : ∀ (ps us : List Rat) (i : Nat), us.length = ps.length → i < ps.length → f (ps.getD i 0) = 1 → (∀ j, j < ps.length → j ≠ i → f (ps.getD j 0) = 0) → rs (ps.zip us) (fun x => x.2 * f x.1) = us.getD i 0
  | [], _, i, _, h, _, _ => by simp at h
  | p :: ps, [], _, h, _, _, _ => by simp at h
  | p :: ps, u :: us, 0, h, _, h1, h2 => by
    have z : rs (ps.zip us) (fun x => x.2 * f x.1) = 0 := rs_zero _ fun x hx => by
      have m := List.of_mem_zip (a := x.1) (b := x.2) hx
      obtain ⟨j, hj, e⟩ := List.mem_iff_getElem.mp m.1
      have := h2 (j + 1) (by rw [List.length_cons]; omega) (by omega)
      rw [List.getD_cons_succ, getD_at hj, e] at this
      rw [this]
      grind
    rw [List.zip_cons_cons, rs_cons, z, List.getD_cons_zero]
    rw [List.getD_cons_zero] at h1
    show u * f p + 0 = u
    rw [h1]
    grind
  | p :: ps, u :: us, i + 1, h, hi, h1, h2 => by
    have z := h2 0 (by rw [List.length_cons]; omega) (by omega)
    rw [List.getD_cons_zero] at z
    rw [List.getD_cons_succ] at h1
    have ih := one_only (f := f) ps us i (by simpa using h) (by simpa using hi) h1 fun j hj hji => by
      have := h2 (j + 1) (by rw [List.length_cons]; omega) (by omega)
      rw [List.getD_cons_succ] at this
      exact this
    rw [List.zip_cons_cons, rs_cons, ih, List.getD_cons_succ]
    show u * f p + _ = _
    rw [z]
    grind
theorem Wts_uniq {w : Wt} {ps us : List Rat} (ha : ps.Pairwise (· < ·)) (hl : ps.length ≤ 6) (hn : us.length = ps.length) (h : ∀ i, i < ps.length → GP w ps us i = 0) : Wts w ps = us := by
  refine List.ext_getElem (by rw [Wts_len, hn]) fun i h0 h2 => ?_
  have h1 : i < ps.length := by rw [Wts_len] at h0; exact h0
  have a := AF_low (w := w) (ps := ps) (ws := us) (by omega) h (l := LB ps i) (by rw [LB_len h1]; exact Nat.le_refl _)
  unfold AF at a
  have b := one_only (f := fun x => ev (LB ps i) x) ps us i hn h1 (by rw [getD_at h1]; exact ev_LB_self ha h1) fun j hj hji => by rw [getD_at hj]; exact ev_LB_other hj hji
  rw [b] at a
  have e0 : (Wts w ps)[i]? = some (WS w (LB ps i)) := by
    unfold Wts
    rw [List.getElem?_map, List.getElem?_range h1]
    rfl
  have e : (Wts w ps)[i] = WS w (LB ps i) := Option.some.inj ((List.getElem?_eq_getElem h0).symm.trans e0)
  have e2 : us.getD i 0 = us[i] := by
    rw [List.getD_eq_getElem?_getD, List.getElem?_eq_getElem h2]
    rfl
  rw [e2] at a
  rw [e]
  grind
theorem flat_of {w : Wt} (g : Good w) {ps : List Rat} (hl : ps.length ≤ 12) (root : ∀ u ∈ atoms w, u.2 ∈ ps) : w.2 = [] := by
  cases hw : w.2 with
  | nil => rfl
  | cons s l =>
    exfalso
    have hs := g.ss s (by rw [hw]; exact List.mem_cons_self ..)
    have dn : ((s.2.1 - s.1 : Int) : Rat) ≠ 0 := intc_ne (by omega)
    have nd : ((atS s).map (·.2)).Nodup := by
      have q := QN_nodup
      unfold List.Nodup at q ⊢
      unfold atS
      rw [List.map_map, List.pairwise_map] at *
      refine q.imp fun {a b} hab e => hab ?_
      have e' : (s.1 : Rat) + ((s.2.1 - s.1 : Int) : Rat) * a.2 = (s.1 : Rat) + ((s.2.1 - s.1 : Int) : Rat) * b.2 := e
      grind
    have sub : ∀ x ∈ (atS s).map (·.2), x ∈ ps := fun x hx => by
      obtain ⟨u, hu, rfl⟩ := List.mem_map.mp hx
      refine root u ?_
      unfold atoms
      rw [hw]
      exact List.mem_append_right _ (List.mem_flatMap.mpr ⟨s, List.mem_cons_self .., hu⟩)
    have len : ((atS s).map (·.2)).length ≤ ps.length := nd_len _ _ nd sub
    rw [List.length_map] at len
    have : (atS s).length = 13 := by
      unfold atS
      rw [List.length_map]
      rfl
    omega
theorem PS_flat {w : Wt} (h : w.2 = []) (k : Nat) : PS w k = rs (atoms w) fun u => u.1 * u.2 ^ k := by
  unfold PS atoms
  rw [h, List.map_nil, List.sum_nil, List.flatMap_nil, List.append_nil, rs_map]
  have e : rs w.1 (fun m => ((m.2 : Int) : Rat) * (m.1 : Rat) ^ k) = (((w.1.map (mI k)).sum : Int) : Rat) := by
    rw [← sum_cast]
    refine rs_congr _ fun m _ => ?_
    unfold mI
    rw [Rat.intCast_mul, pow_cast]
  rw [e]
  have c := intc_ne (n := (k : Int) + 1) (by omega)
  push_cast
  push_cast at c
  grind
theorem gap_every {w : Wt} (g : Good w) {ps ws : List Rat} (ha : ps.Pairwise (· < ·)) (h0 : 0 < ps.length) (hl : ps.length ≤ 6) (h : ∀ k, k ≤ 2 * ps.length → GP w ps ws k = 0) : ∀ k, GP w ps ws k = 0 := fun k => by
  have ins := atoms_in g hl h
  have fl := flat_of g (show ps.length ≤ 12 by omega) ins
  have R := ev_IPf ha fun p => p ^ k
  have il := IP_len ps (ps.map fun p => p ^ k)
  have lin := GP_lin (m := 2 * ps.length) (by omega) h (IP ps (ps.map fun p => p ^ k)) 0 (by omega)
  have e1 : rs (atoms w) (fun u => u.1 * (u.2 ^ 0 * ev (IP ps (ps.map fun p => p ^ k)) u.2)) = PS w k := by
    rw [PS_flat fl]
    refine rs_congr _ fun u hu => ?_
    rw [R u.2 (ins u hu), Rat.pow_zero]
    grind
  have e2 : rs (ps.zip ws) (fun x => x.2 * (x.1 ^ 0 * ev (IP ps (ps.map fun p => p ^ k)) x.1)) = rs (ps.zip ws) fun x => x.2 * x.1 ^ k := rs_congr _ fun x hx => by
    rw [R x.1 (List.of_mem_zip (a := x.1) (b := x.2) hx).1, Rat.pow_zero]
    grind
  unfold GP
  rw [← e1, lin, e2]
  grind
theorem fnz_every {w : Wt} (g : Good w) {ps ws : List Rat} (ha : ps.Pairwise (· < ·)) (h0 : 0 < ps.length) (hl : ps.length ≤ 6) {n : Nat} (hn : 2 * ps.length + 1 ≤ n) : fnz (GP w ps ws) (2 * ps.length + 1) 0 = fnz (GP w ps ws) n 0 :=
  fnz_more hn fun h k _ => gap_every g ha h0 hl (fun k hk => h k (by omega)) k
theorem fnz_ge {G : Nat → Rat} : ∀ {n k j : Nat}, fnz G n k = some j → k ≤ j
  | 0, _, _, h => by cases h
  | n + 1, k, j, h => by
    unfold fnz at h
    split at h
    · have := fnz_ge h
      omega
    · cases h
      exact Nat.le_refl _
def Tells (o : Option Nat) : Int := match o with
  | some k => (k : Int) - 1
  | none => 14
theorem tells_loop {f : Unit → Int → Mm (Fl Int Unit)} {G : Nat → Rat} (hf : ∀ k : Nat, k < 15 → f () (k : Int) = cond (!(decide (G k = 0))) (Mm.ok (Fl.ret ((k : Int) - (1 : Int)))) (Mm.ok (Fl.go ()))) : ∀ (m k : Nat), k + m ≤ 15 → (foldL f () (rangeL (k : Int) m)).bd (fun o => o.el (fun _ => Mm.ok (14 : Int)) (fun r => Mm.ok r)) = .ok (Tells (fnz G m k))
  | 0, k, _ => rfl
  | m + 1, k, hk => by
    have ih := tells_loop hf m (k + 1) (by omega)
    have e : ((k + 1 : Nat) : Int) = (k : Int) + 1 := by omega
    rw [e] at ih
    rw [rangeL_succ]
    unfold foldL fnz
    rw [hf k (by omega)]
    by_cases z : G k = 0
    · rw [if_pos z, cF (c := !decide (G k = 0)) (by rw [decide_eq_true z]; rfl), bdo]
      exact ih
    · rw [if_neg z, cT (c := !decide (G k = 0)) (by rw [decide_eq_false z]; rfl), bdo]
      rfl
theorem law_served_okA {w : Wt} (g : Good w) {ps us : List Rat} {c : Nat} (sp : Sqs 5 ps) (su : Sqs c us) (hl : ps.length ≤ 5) (hn : us.length = ps.length) (hc : c ≤ 1000) : law_served w (ps.map fr) (us.map fr) = .ok (Tells (fnz (GP w ps us) 15 0)) := by
  have zl : (ps.zip us).length = ps.length := by rw [List.length_zip]; omega
  have pw : ∀ (m : List Int) (q p : Rat) (n : Nat) (i : Nat), ps[i]? = some p → Sq 5 p → Sq n q → n + 5 * m.length < 8000 → foldM (fun (b71 : (Int × Int)) (x72 : Int) => (getM (ps.map fr) (i : Int)).bd fun i92 => (law_mul (b71) (i92)).bd fun b97 => Mm.ok b97) (fr q) m = .ok (fr (q * p ^ m.length)) ∧ Sq (n + 5 * m.length) (q * p ^ m.length) := fun m => by
    induction m with
    | nil =>
      intro q p n i hi hp hq _
      rw [List.length_nil, Rat.pow_zero, Rat.mul_one]
      exact ⟨rfl, hq.up (by omega)⟩
    | cons x m ih =>
      intro q p n i hi hp hq hm
      rw [List.length_cons] at hm
      obtain ⟨A, B⟩ := ih (q * p) p (n + 5) i hi hp (sq_mul hq hp (Nat.le_refl _)) (by omega)
      have e : q * p ^ (m.length + 1) = q * p * p ^ m.length := by rw [Rat.pow_succ]; grind
      rw [List.length_cons, e]
      have S1 : (getM (ps.map fr) (i : Int)).bd (fun i92 => (law_mul (fr q) (i92)).bd fun b97 => Mm.ok b97) = Mm.ok (fr (q * p)) := by rw [getM_map hi, bdo, law_mul_ok hq hp (by omega), bdo]
      exact ⟨(congrArg (fun z => Mm.bd z (fun s' => foldM _ s' m)) S1).trans A, B.up (by omega)⟩
  unfold law_served
  rw [range_ok (by decide) (by decide), bdo]
  refine tells_loop (fun k hk => ?_) 15 0 (by decide)
  have tk : (c + 5 * k + 1) * ps.length ≤ 1080 * 5 := Nat.mul_le_mul (by omega) hl
  have F := fold_frJ (f := fun (b37 : (Int × Int)) (x38 : Int) => (getM (us.map fr) x38).bd fun i64 => (rangeM (k : Int)).bd fun l70 => (foldM (fun (b71 : (Int × Int)) (x72 : Int) => (getM (ps.map fr) x38).bd fun i92 => (law_mul (b71) (i92)).bd fun b97 => Mm.ok b97) i64 (rangeL 0 k)).bd fun b88 => (law_add (b37) (b88)).bd fun b108 => Mm.ok b108) (v := fun y : Rat × Rat => y.2 * y.1 ^ k) (c := c + 5 * k) (ps.zip us) (fun i y hy => by
    have z := zip_at hy
    have m := List.of_mem_zip (a := y.1) (b := y.2) (List.mem_of_getElem? hy)
    have pp := pw (rangeL 0 k) y.2 y.1 c i z.1 (sp _ m.1) (su _ m.2) (by rw [rangeL_len]; omega)
    rw [rangeL_len] at pp
    refine ⟨pp.2, fun p a hp ha' => ?_⟩
    rw [getM_map z.2, bdo, rangeM_ok (by omega), bdo, pp.1, bdo, law_add_ok hp pp.2 (by omega), bdo]) 0 1 zero_sq (by rw [zl]; omega)
  rw [zero_add', zl, fr_zero] at F
  have dd : decide (fr ((ps.zip us).map fun y : Rat × Rat => y.2 * y.1 ^ k).sum = fr (PS w k)) = decide (GP w ps us k = 0) := decide_eq_decide.mpr (by
    unfold GP rs
    constructor
    · intro h
      rw [← fr_inj h]
      grind
    · intro h
      congr 1
      grind)
  rw [List.length_map, show rangeM (ps.length : Int) = .ok (rangeL 0 ps.length) from rangeM_ok (by omega), bdo, Int.toNat_natCast, Int.toNat_natCast, F.1, bdo, law_sum_ok g (by omega) (by omega), bdo, Int.toNat_natCast, dd]
theorem is_all_ok {G : Nat → Rat} : law_is_all (Tells (fnz G 15 0)) = .ok ((fnz G 15 0).map fun (k : Nat) => (k : Int) - 1) := by
  unfold law_is_all
  cases h : fnz G 15 0 with
  | none => rfl
  | some k =>
    have lt := fnz_lt h
    show Mm.bd (cond (decide ((k : Int) - 1 = 14)) _ _) _ = _
    rw [decide_eq_false (by omega)]
    rfl
structure K5 (w : Wt) (pl : List (Int × Int)) (ps : List Rat) : Prop where
  ok : WOk w
  ep : pl = ps.map fr
  asc : ps.Pairwise (· < ·)
  pb : PB 30 10 ps
  sp : Sqs 5 ps
  pos : 0 < ps.length
  len : ps.length ≤ 5
theorem ints5 (w : Wt) (ok : WOk w) (zs : List Int) (h : zs.Pairwise (· < ·)) (hb : ∀ z ∈ zs, z.natAbs ≤ 20) (hl : zs.length ≤ 5) (h0 : 0 < zs.length) : K5 w (zs.map fun z => (z, (1 : Int))) (zs.map fun z => ((z : Int) : Rat)) := by
  have e5 : (2 : Nat) ^ 5 = 32 := by decide
  have e10 : (2 : Nat) ^ 10 = 1024 := by decide
  refine ⟨ok, ?_, ?_, ⟨by decide, by decide, fun p hp => ?_⟩, fun p hp => ?_, by rw [List.length_map]; exact h0, by rw [List.length_map]; exact hl⟩
  · rw [List.map_map]
    exact List.map_congr_left fun z _ => (fr_of_int z).symm
  · rw [List.pairwise_map]
    exact h.imp fun {a b} k => by exact_mod_cast k
  · obtain ⟨z, hz, rfl⟩ := List.mem_map.mp hp
    have := hb z hz
    refine ⟨30 * z, ?_, by omega⟩
    rw [Rat.intCast_mul]
    have : ((30 : Int) : Rat) ≠ 0 := intc_ne (by decide)
    grind
  · obtain ⟨z, hz, rfl⟩ := List.mem_map.mp hp
    have := hb z hz
    exact sq_int (by omega) (by decide)
theorem law_true (scr : List Int) (hl : scr.length ≤ 63) : law scr = .ok true := by
  suffices h : Yes (law scr) fun b => b = true by
    obtain ⟨b, e, rfl⟩ := h
    exact e
  unfold law
  refine law_parts_ok.bd fun P hP => ?_
  obtain ⟨⟨ok, _⟩, rP⟩ := hP
  refine .eq (law_weighting_okA ok) ?_
  refine (law_places_okA rP (by decide) (by decide) (by omega)).bd fun d hd => ?_
  obtain ⟨⟨ps0, ep0, ha0, pb0, sp0, h00, hl0⟩, rd⟩ := hd
  have k0 : K5 P.1 d.1 ps0 := ⟨ok, ep0, ha0, pb0, sp0, h00, by omega⟩
  have T1 : Yes ((cond (decide (P.1.2 = [])) ((takenA scr d.2 ((2 : Int))).bd fun b38 => (cond (decide (b38.1 = (0 : Int))) (Mm.ok (decide ((P.1.1.length : Int) < (6 : Int)))) (Mm.ok false)).bd fun b45 => Mm.ok (b45, b38.2)) (Mm.ok (false, d.2))).bd fun b33 => (cond b33.1 ((guardM (P.1.1.length ≤ 50000)).bd fun _ => (mapMm (fun (x61 : (Int × Int)) => Mm.ok (x61.1, (1 : Int))) P.1.1).bd fun b60 => Mm.ok (b60, b33.2)) (Mm.ok (d.1, b33.2)))) fun r => (∃ ps, K5 P.1 r.1 ps) ∧ Rk 90 r.2 := by
    by_cases c1 : P.1.2 = []
    · rw [cT (c := decide (P.1.2 = [])) (decide_eq_true c1)]
      obtain ⟨k, ek, hk, rk2⟩ := takenA_ok (scr := scr) (many := 2) rd (by decide) (by decide) (by omega)
      rw [ek, bdo]
      by_cases c2 : k.1 = 0
      · rw [cT (c := decide (k.1 = 0)) (decide_eq_true c2), bdo, bdo]
        by_cases c3 : (P.1.1.length : Int) < 6
        · have lm := ok.ms.len
          rw [cT (c := (decide ((P.1.1.length : Int) < 6), k.2).1) (decide_eq_true c3), guard_ok (by omega), bdo, mapMm_eq (f := fun (x94 : (Int × Int)) => Mm.ok (x94.1, (1 : Int))) (g := fun (x : Int × Int) => (x.1, (1 : Int))) _ fun x hx => rfl, bdo]
          have e : P.1.1.map (fun (x : Int × Int) => (x.1, (1 : Int))) = (P.1.1.map (fun (x : Int × Int) => x.1)).map fun z => (z, (1 : Int)) := by
            rw [List.map_map]
            rfl
          rw [e]
          refine .ok ⟨⟨_, ints5 P.1 ok _ ok.ms.asc ?_ ?_ ?_⟩, rk2.up (by omega)⟩
          · intro z hz
            obtain ⟨m, hm, rfl⟩ := List.mem_map.mp hz
            exact (ok.ms.each m hm).1
          · rw [List.length_map]
            omega
          · rw [List.length_map]
            rcases ok.ne with h | h
            · exact List.length_pos_iff.mpr h
            · exact absurd c1 h
        · rw [cF (c := (decide ((P.1.1.length : Int) < 6), k.2).1) (decide_eq_false c3)]
          exact .ok ⟨⟨ps0, k0⟩, rk2.up (by omega)⟩
      · rw [cF (c := decide (k.1 = 0)) (decide_eq_false c2), bdo, bdo]
        exact .ok ⟨⟨ps0, k0⟩, rk2.up (by omega)⟩
    · rw [cF (c := decide (P.1.2 = [])) (decide_eq_false c1), bdo]
      exact .ok ⟨⟨ps0, k0⟩, rd.up (by omega)⟩
  rw [← bd_assoc]
  refine T1.bd fun r hr => ?_
  obtain ⟨⟨ps1, k1⟩, rr⟩ := hr
  refine (takenA_ok rr (by decide) (by decide) (by omega)).bd fun t ht => ?_
  have T2 : Yes (cond (decide (t.1 = (0 : Int))) ((takenA scr t.2 ((9 : Int))).bd fun b117 => (mulM (-(2 : Int)) ((1 : Int) + b117.1)).bd fun m124 => (mulM (2 : Int) ((1 : Int) + b117.1)).bd fun m137 => (law_weighting (([(m124, (1 : Int)), ((0 : Int), (6 : Int)), (m137, (1 : Int))], []))).bd fun b175 => Mm.ok (([(m124, (1 : Int)), ((0 : Int), (6 : Int)), (m137, (1 : Int))], []), [(((0 : Int) - ((1 : Int) + b117.1)), (1 : Int)), (((1 : Int) + b117.1), (1 : Int))], b175, b117.2)) (Mm.ok (P.1, r.1, P.1, t.2))) fun v => (∃ ps, K5 v.1 v.2.1 ps) ∧ v.2.2.1 = v.1 ∧ Rk 92 v.2.2.2 := by
    by_cases c1 : t.1 = 0
    · rw [cT (c := decide (t.1 = 0)) (decide_eq_true c1)]
      refine (takenA_ok ht.2 (by decide) (by decide) (by omega)).bd fun u hu => ?_
      have u1 := hu.1
      have e5 : (2 : Nat) ^ 5 = 32 := by decide
      refine .eq (mul_ok (a := 2) (b := 5) (by decide) (by omega) (by decide)) (.eq (mul_ok (a := 2) (b := 5) (by decide) (by omega) (by decide)) ?_)
      have wk : WOk ([(-(2 : Int) * (1 + u.1), (1 : Int)), ((0 : Int), (6 : Int)), ((2 : Int) * (1 + u.1), (1 : Int))], []) := by
        refine ⟨⟨fun m hm => ?_, ?_, by show 3 ≤ 6; decide⟩, by show (-20 : Int) ≤ 20; decide, by show 0 ≤ 4; decide, .inl (by simp)⟩
        · simp only [List.mem_cons, List.not_mem_nil, or_false] at hm
          rcases hm with rfl | rfl | rfl
          · exact ⟨by show (-(2 : Int) * (1 + u.1)).natAbs ≤ 20; omega, by show (1 : Int) ≤ 1; decide, by show (1 : Int) ≤ 20; decide⟩
          · exact ⟨by decide, by decide, by decide⟩
          · exact ⟨by show ((2 : Int) * (1 + u.1)).natAbs ≤ 20; omega, by show (1 : Int) ≤ 1; decide, by show (1 : Int) ≤ 20; decide⟩
        · show ([-(2 : Int) * (1 + u.1), 0, 2 * (1 + u.1)] : List Int).Pairwise (· < ·)
          simp only [List.pairwise_cons, List.mem_cons, List.not_mem_nil, or_false, forall_eq_or_imp, forall_eq, List.Pairwise.nil, and_true, false_imp_iff, implies_true]
          omega
      refine .eq (law_weighting_okA wk) (.ok ⟨⟨_, ints5 _ wk [0 - (1 + u.1), 1 + u.1] ?_ ?_ (by simp) (by simp)⟩, rfl, hu.2.up (by omega)⟩)
      · simp only [List.pairwise_cons, List.mem_cons, List.not_mem_nil, or_false, forall_eq, List.Pairwise.nil, and_true, false_imp_iff, implies_true]
        omega
      · intro z hz
        simp only [List.mem_cons, List.not_mem_nil, or_false] at hz
        omega
    · rw [cF (c := decide (t.1 = 0)) (decide_eq_false c1)]
      exact .ok ⟨⟨ps1, k1⟩, rfl, ht.2.up (by omega)⟩
  refine T2.bd fun v hv => ?_
  obtain ⟨⟨ps, K⟩, ew, rv0⟩ := hv
  have g := K.ok.good
  have ha := K.asc
  have pb := K.pb
  have sp := K.sp
  have h0 := K.pos
  have l5 := K.len
  have wl := Wts_len v.1 ps
  have m1 : (10 + 1) * (ps.length - 1) ≤ 11 * 4 := Nat.mul_le_mul (by omega) (by omega)
  have m2 : (2 * (1 + (10 + 1) * (ps.length - 1)) + 51) * ps.length ≤ 141 * 5 := Nat.mul_le_mul (by omega) l5
  have ws := (Wts_sq5 g pb ha (show ps.length ≤ 6 by omega)).up (show _ ≤ 706 by omega)
  rw [ew, K.ep]
  refine (law_wide_okA rv0 (self_rx sp) (by omega) (by decide) (by omega)).bd fun x hx => ?_
  obtain ⟨x1, rx⟩ := hx
  refine .eq (weights_for_ok g (c := 7) (by decide) x1 pb ha (by omega) h0 (by decide)) ?_
  refine .eq (law_served_okA g sp ws l5 wl (by decide)) (.eq is_all_ok ?_)
  have ex : ∀ i, i < ps.length → GP v.1 ps (Wts v.1 ps) i = 0 := fun i hi => Wts_exact v.1 ha (by omega) hi
  have E1 : (cond (!(decide ((((Wts v.1 ps).map fr).length : Int) = ((ps.map fr).length : Int)))) (Mm.ok true) ((cond (!((fnz (GP v.1 ps (Wts v.1 ps)) 15 0).map fun (k : Nat) => (k : Int) - 1).isNone) ((getO ((fnz (GP v.1 ps (Wts v.1 ps)) 15 0).map fun (k : Nat) => (k : Int) - 1)).bd fun a242 => Mm.ok (decide (a242 < (((ps.map fr).length : Int) - (1 : Int))))) (Mm.ok false)).bd fun b238 => Mm.ok b238)) = .ok false := by
    rw [List.length_map, List.length_map, wl, cF (c := !decide ((ps.length : Int) = (ps.length : Int))) (by rw [decide_eq_true rfl]; rfl)]
    have sk : fnz (GP v.1 ps (Wts v.1 ps)) 15 0 = fnz (GP v.1 ps (Wts v.1 ps)) (15 - ps.length) ps.length := by
      rw [show 15 = ps.length + (15 - ps.length) by omega, fnz_skip ex]
      congr 1
      omega
    cases hf : fnz (GP v.1 ps (Wts v.1 ps)) 15 0 with
    | none => rfl
    | some k =>
      have ge : ps.length ≤ k := fnz_ge (sk ▸ hf)
      simp only [Option.map_some, Option.isNone_some]
      rw [cT (c := !false) rfl, show getO (some ((k : Int) - 1)) = .ok ((k : Int) - 1) from rfl, bdo, bdo, decide_eq_false (by omega)]
  rw [E1, bdo, cF (c := false) rfl]
  refine (law_wide_okA rx (self_rx sp) (by omega) (by decide) (by omega)).bd fun y hy => ?_
  obtain ⟨y1, ry⟩ := hy
  have bo := best_degree_okG (bar_okG g y1 (by decide) pb ha (by omega) h0 (by decide))
  rw [bar_first ha (by omega), fnz_every g ha h0 (by omega) (show 2 * ps.length + 1 ≤ 15 by omega)] at bo
  refine .eq bo ?_
  rw [cF (c := !decide (((fnz (GP v.1 ps (Wts v.1 ps)) 15 0).map fun (k : Nat) => (k : Int) - 1) = ((fnz (GP v.1 ps (Wts v.1 ps)) 15 0).map fun (k : Nat) => (k : Int) - 1))) (by rw [decide_eq_true rfl]; rfl)]
  have rr1 : RR 5 706 5 (ps.map fr) ((Wts v.1 ps).map fr) ps (Wts v.1 ps) := ⟨self_rx sp, self_rx ws, ha, h0, l5, wl⟩
  have so := served_ok g rr1 (by decide) (by decide) (by decide) (by decide) (by decide)
  rw [fnz_every g ha h0 (by omega) (show 2 * ps.length + 1 ≤ 15 by omega)] at so
  refine .eq so ?_
  rw [cF (c := !decide (((fnz (GP v.1 ps (Wts v.1 ps)) 15 0).map fun (k : Nat) => (k : Int) - 1) = ((fnz (GP v.1 ps (Wts v.1 ps)) 15 0).map fun (k : Nat) => (k : Int) - 1))) (by rw [decide_eq_true rfl]; rfl), List.length_map]
  refine (takenA_ok ry (by omega) (by omega) (by omega)).bd fun k hk => ?_
  have k1 := hk.1
  have ke : k.1 = ((k.1.toNat : Nat) : Int) := by omega
  have lt : k.1.toNat < ps.length := by omega
  rw [ke]
  generalize hi : k.1.toNat = i at lt
  have gw : (Wts v.1 ps)[i]? = some ((Wts v.1 ps).getD i 0) := by
    rw [List.getD_eq_getElem?_getD, List.getElem?_eq_getElem (by omega)]
    rfl
  have sW := ws _ (List.mem_of_getElem? gw)
  refine .eq (getM_map gw) ?_
  refine (takenA_ok hk.2 (by decide) (by decide) (by omega)).bd fun a ha1 => ?_
  have a1 := ha1.1
  have e4 : (2 : Nat) ^ 4 = 16 := by decide
  have rd1 : Rx 4 ((1 : Int), 1 + a.1) ((1 : Rat) / ((1 + a.1 : Int) : Rat)) := ⟨by show 1 + a.1 ≠ 0; omega, by show (1 : Int).natAbs < _; omega, by show (1 + a.1).natAbs < _; omega, rfl⟩
  refine .eq (law_add_x (rx_fr sW) rd1 (by decide)) ?_
  have e1 : (i : Int) + 1 = ((i + 1 : Nat) : Int) := by omega
  rw [e1, cut_take, cut_drop, guard_ok (by rw [List.length_take, List.length_singleton, List.length_map]; omega), bdo, guard_ok (by rw [List.length_append, List.length_take, List.length_singleton, List.length_drop, List.length_map]; omega), bdo, set_cut _ (by rw [List.length_map]; omega), ← List.map_set]
  -- a weight that is changed
  have ne : (1 : Rat) / ((1 + a.1 : Int) : Rat) ≠ 0 := by
    intro h
    have p : (0 : Rat) < 1 / ((1 + a.1 : Int) : Rat) := by
      rw [Rat.div_def]
      exact Rat.mul_pos (by decide) (Rat.inv_pos.mpr (Rat.intCast_pos.mpr (by omega)))
    rw [h] at p
    exact absurd p (by decide +kernel)
  have s1 : Sqs 711 ((Wts v.1 ps).set i ((Wts v.1 ps).getD i 0 + 1 / ((1 + a.1 : Int) : Rat))) := fun q hq => by
    rcases List.mem_or_eq_of_mem_set hq with h | h
    · exact (ws q h).up (by decide)
    · rw [h]
      exact sq_add sW rd1.sq (by decide)
  have n1 : ((Wts v.1 ps).set i ((Wts v.1 ps).getD i 0 + 1 / ((1 + a.1 : Int) : Rat))).length = ps.length := by rw [List.length_set]; exact wl
  have gset : ∀ (us : List Rat) (j : Nat) (x : Rat), us.length = ps.length → j < ps.length → GP v.1 ps (us.set j x) 0 = GP v.1 ps us 0 - (x - us.getD j 0) := fun us j x hu hj => by
    unfold GP
    have key : ∀ (ps us : List Rat) (j : Nat), us.length = ps.length → j < ps.length → rs (ps.zip (us.set j x)) (fun y => y.2 * y.1 ^ 0) = rs (ps.zip us) (fun y => y.2 * y.1 ^ 0) + (x - us.getD j 0) := fun ps => by
      induction ps with
      | nil => intro us j _ h; simp at h
      | cons p ps ih =>
        intro us j hu hj
        cases us with
        | nil => simp at hu
        | cons u us =>
          cases j with
          | zero =>
            rw [List.set_cons_zero, List.zip_cons_cons, List.zip_cons_cons, rs_cons, rs_cons, List.getD_cons_zero, Rat.pow_zero]
            grind
          | succ j =>
            rw [List.set_cons_succ, List.zip_cons_cons, List.zip_cons_cons, rs_cons, rs_cons, ih us j (by simpa using hu) (by simpa using hj), List.getD_cons_succ]
            grind
    rw [key ps us j hu hj]
    grind
  have G0 : GP v.1 ps ((Wts v.1 ps).set i ((Wts v.1 ps).getD i 0 + 1 / ((1 + a.1 : Int) : Rat))) 0 ≠ 0 := by
    rw [gset _ i _ wl lt, ex 0 h0]
    intro h
    apply ne
    grind
  have WV : Yes (law_wide_v scr a.2 (((Wts v.1 ps).set i ((Wts v.1 ps).getD i 0 + 1 / ((1 + a.1 : Int) : Rat))).map fr)) fun r => All2 (fun p x => Rx (711 + 2) x p) ((Wts v.1 ps).set i ((Wts v.1 ps).getD i 0 + 1 / ((1 + a.1 : Int) : Rat))) r.1 ∧ Rk (92 + ps.length + ps.length + 1 + 1 + ((Wts v.1 ps).set i ((Wts v.1 ps).getD i 0 + 1 / ((1 + a.1 : Int) : Rat))).length) r.2 := law_wide_okA ha1.2 (self_rx s1) (by omega) (by decide) (by omega)
  refine WV.bd fun z hz => ?_
  have rr2 : RR 5 713 5 (ps.map fr) z.1 ps ((Wts v.1 ps).set i ((Wts v.1 ps).getD i 0 + 1 / ((1 + a.1 : Int) : Rat))) := ⟨self_rx sp, hz.1, ha, h0, l5, n1⟩
  have so2 := served_ok g rr2 (by decide) (by decide) (by decide) (by decide) (by decide)
  have f0 : fnz (GP v.1 ps ((Wts v.1 ps).set i ((Wts v.1 ps).getD i 0 + 1 / ((1 + a.1 : Int) : Rat)))) (2 * ps.length + 1) 0 = some 0 := by
    unfold fnz
    rw [if_neg G0]
  rw [f0] at so2
  refine .eq so2 ?_
  rw [cF (c := !decide (Option.map (fun (k : Nat) => (k : Int) - 1) (some 0) = some (-(1 : Int)))) (by decide)]
  by_cases c2 : (ps.length : Int) < 2
  · rw [cT (decide_eq_true c2)]
    exact .ok rfl
  · rw [cF (decide_eq_false c2), mod_ok (by omega), bdo]
    obtain ⟨j, hj, jl, ji⟩ : ∃ j : Nat, ((i + 1 : Nat) : Int) % (ps.length : Int) = (j : Int) ∧ j < ps.length ∧ j ≠ i := by
      by_cases c : i + 1 = ps.length
      · refine ⟨0, ?_, h0, by omega⟩
        rw [c]
        exact Int.emod_self
      · refine ⟨i + 1, ?_, by omega, by omega⟩
        exact Int.emod_eq_of_lt (by omega) (by omega)
    rw [hj]
    have gj : (Wts v.1 ps)[j]? = some ((Wts v.1 ps).getD j 0) := by
      rw [List.getD_eq_getElem?_getD, List.getElem?_eq_getElem (by omega)]
      rfl
    have sJ := ws _ (List.mem_of_getElem? gj)
    have o1 : Rx 2 ((1 : Int), (1 : Int)) 1 := ⟨by decide, by decide, by decide, by decide +kernel⟩
    have o2 : Rx 2 (-(1 : Int), (1 : Int)) (-1) := ⟨by decide, by decide, by decide, by decide +kernel⟩
    rw [getM_map gw, bdo, law_add_x (rx_fr sW) o1 (by decide), bdo, getM_map gj, bdo, law_add_x (rx_fr sJ) o2 (by decide), bdo, setM_ok _ (by omega) (by rw [List.length_map]; omega), bdo, Int.toNat_natCast, setM_ok _ (by omega) (by rw [List.length_set, List.length_map]; omega), bdo, Int.toNat_natCast, ← List.map_set, ← List.map_set]
    have s3 : Sqs 709 (((Wts v.1 ps).set i ((Wts v.1 ps).getD i 0 + 1)).set j ((Wts v.1 ps).getD j 0 + -1)) := fun q hq => by
      rcases List.mem_or_eq_of_mem_set hq with h | h
      · rcases List.mem_or_eq_of_mem_set h with h | h
        · exact (ws q h).up (by decide)
        · rw [h]
          exact sq_add sW o1.sq (by decide)
      · rw [h]
        exact sq_add sJ o2.sq (by decide)
    have n3 : (((Wts v.1 ps).set i ((Wts v.1 ps).getD i 0 + 1)).set j ((Wts v.1 ps).getD j 0 + -1)).length = ps.length := by rw [List.length_set, List.length_set]; exact wl
    have rr3 : RR 5 709 5 (ps.map fr) ((((Wts v.1 ps).set i ((Wts v.1 ps).getD i 0 + 1)).set j ((Wts v.1 ps).getD j 0 + -1)).map fr) ps (((Wts v.1 ps).set i ((Wts v.1 ps).getD i 0 + 1)).set j ((Wts v.1 ps).getD j 0 + -1)) := ⟨self_rx sp, self_rx s3, ha, h0, l5, n3⟩
    have so3 := served_ok g rr3 (by decide) (by decide) (by decide) (by decide) (by decide)
    rw [fnz_every g ha h0 (by omega) (show 2 * ps.length + 1 ≤ 15 by omega)] at so3
    have LS : law_served_l v.1 (ps.map fr) ((((Wts v.1 ps).set i ((Wts v.1 ps).getD i 0 + 1)).set j ((Wts v.1 ps).getD j 0 + -1)).map fr) = .ok (Tells (fnz (GP v.1 ps (((Wts v.1 ps).set i ((Wts v.1 ps).getD i 0 + 1)).set j ((Wts v.1 ps).getD j 0 + -1))) 15 0)) := law_served_okA g sp s3 l5 n3 (by decide)
    refine .eq so3 (.eq LS (.eq is_all_ok (.ok ?_)))
    exact decide_eq_true rfl
end L

theorem PySem.Challenge.cw_fewreadings_k05_whole_degrees_that_rules_holds : PySem.Challenge.rw_fewreadings_k05_whole_degrees_that_rules.Holds := by
  exact L.of_law L.law_true
