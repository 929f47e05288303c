import PyProof.Rows.All
import Wide.All
import OpenK.AllK
import Wide.FinOn
import HandS.ForMost
import HandS.ForExc
import HandS.Walk
import HandS.Wide
import HandS.Evl
import HandS.Deep
import HandS.Gcd
import HandS.TupAny
import HandS.Strs
import HandS.Defaults
import KE.GoesMore
import HandS.IsInst
import HandS.Property
import HandS.SetFor
import HandS.Head0
import HandS.Head1
import HandS.Head2
import HandS.HeadEnd
import HandS.HeadHook1
import HandS.HeadHook2
import HandS.HeadNt
import HandS.Ends
import HandS.Head3
import HandS.Star
import HandS.Style
import HandS.Iter
import HandS.List
import KE.GoesZip
import KE.GoesEnum
import HandS.Zip
import HandS.Conv
import HandS.TupMul
import HandS.OwnEq
import HandS.More
import HandS.Codes
import HandS.ExcOwn
import HandS.ExcInit
import HandS.TryMany
import HandS.FStr
import HandS.Nested
import KE.KExcSuper
import HandS.ExcField
import PyProof.StrLaws
import HandS.ExcIs
import HandS.Lambda
import KE.KExcIs
import HandS.HeadWalk
import HandS.HeadHook4
import HandS.Rev
import HandS.DictTup
import HandS.SortRule
import HandS.SortInts
import HandS.WordsDict
import KE.KDictList
import HandS.TryOnly
import KE.KDflt
import HandS.StrMore
import HandS.HeadHook3
import KE.IntTextLaws
import PyProof.StrLawsAffix
import HandS.RevRange
import HandS.RaiseMore
import PySem.Challenge.RW_fewreadings_k42_texts_of_fractions_and_w
set_option Elab.async false
set_option linter.all false
set_option maxRecDepth 100000
set_option maxHeartbeats 4000000
namespace Wk
open PySem L2 Evl

/-! ### outcomes -/
structure Er where
  c : Nat
  fs : List Int
inductive Mm (α : Type) where
  | ok (a : α)
  | ex (e : Er)
  | bad
def Mm.bd {α β : Type} (m : Mm α) (f : α → Mm β) : Mm β := match m with
  | .ok a => f a
  | .ex e => .ex e
  | .bad => .bad
def Out {α : Type} (m : Mm α) (p : α → Prop) (q : Er → Prop) : Prop := match m with
  | .ok a => p a
  | .ex e => q e
  | .bad => False
/-- what holds of an outcome -/
structure Post {α : Type} (m : Mm α) (p : α → Prop) (q : Er → Prop) : Prop where
  h : Out m p q
section
variable {α β : Type} {m : Mm α} {f : α → Mm β} {p : α → Prop} {r : β → Prop} {q : Er → Prop}
theorem post_bd (h : Post (m.bd f) r q) : Post m (fun a => Post (f a) r q) q := by
  cases m with
  | ok a => exact ⟨⟨h.h⟩⟩
  | ex e => exact ⟨h.h⟩
  | bad => exact ⟨h.h⟩
theorem Post.mono {p' : α → Prop} {q' : Er → Prop} (h : Post m p q) (hp : ∀ a, p a → p' a) (hq : ∀ e, q e → q' e) : Post m p' q' := by
  cases m with
  | ok a => exact ⟨hp a h.h⟩
  | ex e => exact ⟨hq e h.h⟩
  | bad => exact ⟨h.h⟩
theorem Post.of_ok {a : α} (e : m = .ok a) (h : p a) : Post m p q := by
  rw [e]; exact ⟨h⟩
theorem Post.elim {C : Prop} (h : Post (Mm.bad : Mm α) p q) : C := h.h.elim
theorem post_ok {a : α} (h : Post (.ok a) p q) : p a := h.h
end
@[simp] theorem bd_ok {α β : Type} (a : α) (f : α → Mm β) : (Mm.ok a).bd f = f a := rfl
@[simp] theorem bd_ex {α β : Type} (e : Er) (f : α → Mm β) : (Mm.ex e : Mm α).bd f = .ex e := rfl
@[simp] theorem bd_bad {α β : Type} (f : α → Mm β) : (Mm.bad : Mm α).bd f = .bad := rfl
def guardM (c : Prop) [Decidable c] : Mm Unit := if c then .ok () else .bad
instance {i j : Int} : Decidable (CMulW i j) := by unfold CMulW; exact inferInstance
instance {i j : Int} : Decidable (CDivW i j) := by unfold CDivW; exact inferInstance
def CDv (_ j : Int) : Prop := j ≠ 0 ∧ j.natAbs.log2 < 9000
instance {i j : Int} : Decidable (CDv i j) := by unfold CDv; exact inferInstance
def mulM (i j : Int) : Mm Int := if CMulW i j then .ok (i * j) else .bad
def divM (i j : Int) : Mm Int := if CDv i j then .ok (i.fdiv j) else .bad
def modM (i j : Int) : Mm Int := if j ≠ 0 then .ok (i.fmod j) else .bad
def getM {α : Type} (xs : List α) (i : Int) : Mm α := match atI xs i with
  | some a => .ok a
  | none => .bad
section
variable {β : Type} {f : Int → Mm β} {r : β → Prop} {q : Er → Prop} {i j : Int}
theorem post_mul (h : Post ((mulM i j).bd f) r q) : ∃ m, CMulW i j ∧ i * j = m ∧ Post (f m) r q := by
  unfold mulM at h
  split at h
  · exact ⟨_, ‹_›, rfl, ⟨h.h⟩⟩
  · exact h.h.elim
theorem post_div (h : Post ((divM i j).bd f) r q) : ∃ m, CDv i j ∧ i.fdiv j = m ∧ Post (f m) r q := by
  unfold divM at h
  split at h
  · exact ⟨_, ‹_›, rfl, ⟨h.h⟩⟩
  · exact h.h.elim
theorem post_mod (h : Post ((modM i j).bd f) r q) : ∃ m, j ≠ 0 ∧ i.fmod j = m ∧ Post (f m) r q := by
  unfold modM at h
  split at h
  · exact ⟨_, ‹_›, rfl, ⟨h.h⟩⟩
  · exact h.h.elim
theorem post_get {α : Type} {xs : List α} {f : α → Mm β} (h : Post ((getM xs i).bd f) r q) : ∃ a, atI xs i = some a ∧ Post (f a) r q := by
  unfold getM at h
  split at h
  · exact ⟨_, ‹_›, ⟨h.h⟩⟩
  · exact h.h.elim
theorem post_guard {c : Prop} [Decidable c] {f : Unit → Mm β} (h : Post ((guardM c).bd f) r q) : c ∧ Post (f ()) r q := by
  unfold guardM at h
  split at h
  · exact ⟨‹_›, ⟨h.h⟩⟩
  · exact h.h.elim
end
section
variable {X : Cx}
theorem op_divM : OpR X (binaryOp .FloorDiv) (fun x y H Q => ∃ i j m, x = .int i ∧ y = .int j ∧ CDv i j ∧ i.fdiv j = m ∧ Q (.int m) H) := by
  intro pins s σ H x y v u Q I rx ry h
  obtain ⟨i, j, m, rfl, rfl, c, rfl, q⟩ := h
  exact (opI (C := CDv) (g := fun i j => i.fdiv j) fun i j _ _ _ _ _ hc q => PyProof.Rows.floordiv_int hc.1 q (.inl (PyProof.noPylong_of_log2 hc.2))) pins s σ H _ _ v u Q I rx ry ⟨i, j, rfl, rfl, c, q⟩
theorem op_mulM : OpR X (binaryOp .Mult) (fun x y H Q => ∃ i j m, x = .int i ∧ y = .int j ∧ CMulW i j ∧ i * j = m ∧ Q (.int m) H) := by
  intro pins s σ H x y v u Q I rx ry h
  obtain ⟨i, j, m, rfl, rfl, c, rfl, q⟩ := h
  exact op_mulW pins s σ H _ _ v u Q I rx ry ⟨i, j, rfl, rfl, c, q⟩
theorem op_modM : OpR X (binaryOp .Mod) (fun x y H Q => ∃ i j m, x = .int i ∧ y = .int j ∧ j ≠ 0 ∧ i.fmod j = m ∧ Q (.int m) H) := by
  intro pins s σ H x y v u Q I rx ry h
  obtain ⟨i, j, m, rfl, rfl, c, rfl, q⟩ := h
  exact op_modN pins s σ H _ _ v u Q I rx ry ⟨i, j, rfl, rfl, c, q⟩
theorem pe_gint {x : Str} {i : Int} {pos : Pos} (h : ∃ t, X.mg x = some (.int i t)) (hg : Gl X x := by rfl) (hd : (x == ("__debug__" : Str)) = false := by decide) : PE X (.Name x pos) (tC (.int i)) := by
  obtain ⟨t, h⟩ := h
  exact pe_glob hg h ⟨t, rfl⟩ hd
theorem pe_gref {x : Str} {a : Addr} {pos : Pos} (h : X.mg x = some (.ref a)) (hg : Gl X x := by rfl) (hd : (x == ("__debug__" : Str)) = false := by decide) : PE X (.Name x pos) (tC (.ref a)) := pe_glob hg h rfl hd
end

/-! ### heaps: F what is fixed, H all -/
structure Gm (M : List Addr) (F H F' H' : Hp) : Prop where
  f : Ex F F'
  s : Ex F' H'
  h : ∀ a o, a ∉ M → H a = some o → H' a = some o
  n : ∀ a o, H a = some o → F a = none → F' a = none
  m : ∀ a o, H a = some o → ∃ o', H' a = some o'
section
variable {M : List Addr} {F H F1 H1 F2 H2 : Hp}
theorem Gm.refl (e : Ex F H) : Gm M F H F H := ⟨Ex.refl _, e, fun _ _ _ h => h, fun _ _ _ h => h, fun _ o h => ⟨o, h⟩⟩
theorem Gm.trans (a : Gm M F H F1 H1) (b : Gm M F1 H1 F2 H2) : Gm M F H F2 H2 :=
  ⟨a.f.trans b.f, b.s, fun x o hx h => b.h x o hx (a.h x o hx h), fun x o h hf => by
    obtain ⟨o', h'⟩ := a.m x o h
    exact b.n x o' h' (a.n x o h hf), fun x o h => by
    obtain ⟨o', h'⟩ := a.m x o h
    exact b.m x o' h'⟩
theorem Gm.up (a : Gm [] F H F1 H1) : Gm M F H F1 H1 := ⟨a.f, a.s, fun x o _ h => a.h x o (by simp) h, a.n, a.m⟩
/-- an owned object of the caller's that the callee leaves -/
theorem Gm.own (a : Gm M F H F1 H1) {p : Addr} {o : HO} (hp : p ∉ M) (h : H p = some o) (f : F p = none) : H1 p = some o ∧ F1 p = none := ⟨a.h p o hp h, a.n p o h f⟩
theorem Gm.fresh (a : Gm M F H F1 H1) {p : Addr} (h : H1 p = none) : H p = none := by
  cases e : H p with
  | none => rfl
  | some o =>
    obtain ⟨o', h'⟩ := a.m p o e
    rw [h] at h'
    cases h'
/-- a new fixed object -/
theorem Gm.new (e : Ex F H) {p : Addr} {o : HO} (h : H p = none) : Gm M F H (upd F p o) (upd H p o) := by
  have hf : F p = none := by
    cases q : F p with
    | none => rfl
    | some u => rw [e p u q] at h; cases h
  refine ⟨Ex.new hf, fun a u ha => ?_, fun a u _ ha => ?_, fun a u ha hn => ?_, fun a u ha => ?_⟩
  · by_cases q : a = p
    · subst q; rw [upd_same] at ha ⊢; exact ha
    · rw [upd_ne q] at ha ⊢; exact e a u ha
  · rw [upd_ne (ne_of_none ha h)]; exact ha
  · rw [upd_ne (ne_of_none ha h)]; exact hn
  · exact ⟨u, by rw [upd_ne (ne_of_none ha h)]; exact ha⟩
/-- a new object that may change -/
theorem Gm.newM (e : Ex F H) {p : Addr} {o : HO} (h : H p = none) : Gm M F H F (upd H p o) := by
  refine ⟨Ex.refl _, fun a u ha => ?_, fun a u _ ha => ?_, fun a u ha hn => hn, fun a u ha => ?_⟩
  · rw [upd_ne (ne_of_none (e a u ha) h)]; exact e a u ha
  · rw [upd_ne (ne_of_none ha h)]; exact ha
  · exact ⟨u, by rw [upd_ne (ne_of_none ha h)]; exact ha⟩
/-- an own object changes -/
theorem Gm.put (e : Ex F H) {p : Addr} {o u : HO} (h : H p = some u) (hf : F p = none) : Gm (p :: M) F H F (upd H p o) := by
  refine ⟨Ex.refl _, fun a u ha => ?_, fun a u hM ha => ?_, fun a u ha hn => hn, fun a u ha => ?_⟩
  · have q : a ≠ p := fun q => by rw [q, hf] at ha; cases ha
    rw [upd_ne q]; exact e a u ha
  · have q : a ≠ p := fun q => hM (by rw [q]; simp)
    rw [upd_ne q]; exact ha
  · by_cases q : a = p
    · subst q; exact ⟨o, upd_same⟩
    · exact ⟨u, by rw [upd_ne q]; exact ha⟩
/-- a change of an object that is younger than F0 H0 -/
theorem Gm.putYoung {F0 H0 : Hp} (g : Gm M F0 H0 F H) {p : Addr} {o u : HO} (h : H p = some u) (hf : F p = none) (h0 : H0 p = none) : Gm M F0 H0 F (upd H p o) := by
  refine ⟨g.f, fun a u ha => ?_, fun a u hM ha => ?_, g.n, fun a u ha => ?_⟩
  · have q : a ≠ p := fun q => by rw [q, hf] at ha; cases ha
    rw [upd_ne q]; exact g.s a u ha
  · have q : a ≠ p := fun q => by rw [q, h0] at ha; cases ha
    rw [upd_ne q]; exact g.h a u hM ha
  · by_cases q : a = p
    · subst q; exact ⟨o, upd_same⟩
    · obtain ⟨o', h'⟩ := g.m a u ha
      exact ⟨o', by rw [upd_ne q]; exact h'⟩
/-- an own young object is fixed -/
theorem Gm.fix {F0 H0 : Hp} (g : Gm M F0 H0 F H) {p : Addr} {o : HO} (h : H p = some o) (hf : F p = none) (h0 : H0 p = none) : Gm M F0 H0 (upd F p o) H := by
  refine ⟨fun a u ha => ?_, fun a u ha => ?_, g.h, fun a u ha hn => ?_, g.m⟩
  · have q : a ≠ p := fun q => by
      have z := g.f a u ha
      rw [q, hf] at z; cases z
    rw [upd_ne q]; exact g.f a u ha
  · by_cases q : a = p
    · subst q; rw [upd_same] at ha; rw [h]; exact ha
    · rw [upd_ne q] at ha; exact g.s a u ha
  · have q : a ≠ p := fun q => by rw [q, h0] at ha; cases ha
    rw [upd_ne q]; exact g.n a u ha hn
end

/-- what follows an answer -/
def Ret (M : List Addr) (F H : Hp) (S : Hp → Hp → V → Prop) (Q : VK) : Prop := ∀ v F' H', Gm M F H F' H' → S F' H' v → Q v H'
theorem Ret.then_ {M : List Addr} {F H F1 H1 : Hp} {S : Hp → Hp → V → Prop} {Q : VK} (k : Ret M F H S Q) (g : Gm M F H F1 H1) : Ret M F1 H1 S Q := fun v F' H' g' s => k v F' H' (g.trans g') s

/-! ### data -/
mutual
inductive Dq (K : PySem.W.Frag) (H : Hp) : V → PyData → Prop
  | non : Dq K H .non .none
  | bl (b : Bool) : Dq K H (.bl b) (.bool b)
  | int (i : Int) : Dq K H (.int i) (.int i)
  | str (x : Str) : Dq K H (.str x) (.str x)
  | lst {a : Addr} {xs : List V} {ds : List PyData} : H a = some (.lst xs) → DqAll K H xs ds → Dq K H (.ref a) (.list ds)
  | tup {a : Addr} {xs : List V} {ds : List PyData} : SqT K H a xs → DqAll K H xs ds → Dq K H (.ref a) (.tuple ds)
inductive DqAll (K : PySem.W.Frag) (H : Hp) : List V → List PyData → Prop
  | nil : DqAll K H [] []
  | cons {v : V} {vs : List V} {d : PyData} {ds : List PyData} : Dq K H v d → DqAll K H vs ds → DqAll K H (v :: vs) (d :: ds)
end
section
variable {K : PySem.W.Frag} {F F' H H' : Hp}
mutual
theorem dp_mono (e : Ex F F') : ∀ (d : PyData) (v : V), Dq K F v d → Dq K F' v d
  | .none, _, .non => .non
  | .bool _, _, .bl b => .bl b
  | .int _, _, .int i => .int i
  | .str _, _, .str x => .str x
  | .list ds, _, .lst h a => .lst (e _ _ h) (dpAll_mono e ds _ a)
  | .tuple ds, _, .tup h a => .tup (ex_t e h) (dpAll_mono e ds _ a)
  | .dict _, _, h => by cases h
theorem dpAll_mono (e : Ex F F') : ∀ (ds : List PyData) (vs : List V), DqAll K F vs ds → DqAll K F' vs ds
  | [], _, .nil => .nil
  | d :: ds, _, .cons h a => .cons (dp_mono e d _ h) (dpAll_mono e ds _ a)
end
mutual
theorem dq_dp : ∀ (d : PyData) (v : V), Dq K F v d → Dp K F v d
  | .none, _, .non => .non
  | .bool _, _, .bl b => .bl b
  | .int _, _, .int i => .int i
  | .str _, _, .str x => .str x
  | .list ds, _, .lst h a => .lst (sq_of h) (dqAll_dp ds _ a)
  | .tuple ds, _, .tup h a => .tup h (dqAll_dp ds _ a)
  | .dict _, _, h => by cases h
theorem dqAll_dp : ∀ (ds : List PyData) (vs : List V), DqAll K F vs ds → DpAll K F vs ds
  | [], _, .nil => .nil
  | d :: ds, _, .cons h a => .cons (dq_dp d _ h) (dqAll_dp ds _ a)
end
theorem _root_.Wk.Dq.dp {v : V} {d : PyData} (h : Dq K F v d) (e : Ex F F') : Dp K F' v d := dq_dp d v (dp_mono e d v h)
theorem _root_.Wk.Dq.up {v : V} {d : PyData} (h : Dq K F v d) (e : Ex F F') : Dq K F' v d := dp_mono e d v h
theorem _root_.Wk.DqAll.up {v : List V} {d : List PyData} (h : DqAll K F v d) (e : Ex F F') : DqAll K F' v d := dpAll_mono e d v h
theorem _root_.Wk.DqAll.len {vs : List V} {ds : List PyData} (h : DqAll K F vs ds) : vs.length = ds.length := by
  induction ds generalizing vs with
  | nil => cases h; rfl
  | cons d ds ih => cases h with | cons h a => simp [ih a]
theorem _root_.Wk.DqAll.get {vs : List V} {ds : List PyData} (h : DqAll K F vs ds) : ∀ {i : Nat} {d : PyData}, ds[i]? = some d → ∃ v, vs[i]? = some v ∧ Dq K F v d := by
  induction ds generalizing vs with
  | nil => intro i d e; simp at e
  | cons d ds ih =>
    cases h with
    | cons h a =>
      intro i x e
      cases i with
      | zero => simp at e; subst e; exact ⟨_, rfl, h⟩
      | succ i => simpa using ih a (by simpa using e)
theorem _root_.Wk.DqAll.getV {vs : List V} {ds : List PyData} (h : DqAll K F vs ds) : ∀ {i : Nat} {v : V}, vs[i]? = some v → ∃ d, ds[i]? = some d ∧ Dq K F v d := by
  induction ds generalizing vs with
  | nil => cases h; intro i d e; simp at e
  | cons d ds ih =>
    cases h with
    | cons h a =>
      intro i x e
      cases i with
      | zero => simp at e; subst e; exact ⟨_, rfl, h⟩
      | succ i => simpa using ih a (by simpa using e)
theorem _root_.Wk.DqAll.app {vs ws : List V} {ds es : List PyData} (h : DqAll K F vs ds) (h2 : DqAll K F ws es) : DqAll K F (vs ++ ws) (ds ++ es) := by
  induction ds generalizing vs with
  | nil => cases h; exact h2
  | cons d ds ih => cases h with | cons h a => exact .cons h (ih a)
theorem _root_.Wk.DqAll.take {vs : List V} {ds : List PyData} (h : DqAll K F vs ds) : ∀ n, DqAll K F (vs.take n) (ds.take n) := by
  induction ds generalizing vs with
  | nil => cases h; intro n; simp; exact .nil
  | cons d ds ih =>
    cases h with
    | cons h a =>
      intro n
      cases n with
      | zero => exact .nil
      | succ n => exact .cons h (ih a n)
theorem _root_.Wk.DqAll.drop {vs : List V} {ds : List PyData} (h : DqAll K F vs ds) : ∀ n, DqAll K F (vs.drop n) (ds.drop n) := by
  induction ds generalizing vs with
  | nil => cases h; intro n; simp; exact .nil
  | cons d ds ih =>
    cases h with
    | cons h a =>
      intro n
      cases n with
      | zero => exact .cons h a
      | succ n => exact ih a n
theorem dp_int {v : V} {i : Int} (h : Dq K F v (.int i)) : v = .int i := by cases h; rfl
theorem dp_bl {v : V} {b : Bool} (h : Dq K F v (.bool b)) : v = .bl b := by cases h; rfl
theorem dp_non {v : V} (h : Dq K F v .none) : v = .non := by cases h; rfl
theorem dp_str {v : V} {x : Str} (h : Dq K F v (.str x)) : v = .str x := by cases h; rfl
theorem dp_lst {v : V} {ds : List PyData} (h : Dq K F v (.list ds)) : ∃ p xs, v = .ref p ∧ F p = some (.lst xs) ∧ DqAll K F xs ds := by
  cases h with | lst h a => exact ⟨_, _, rfl, h, a⟩
theorem dp_tup {v : V} {ds : List PyData} (h : Dq K F v (.tuple ds)) : ∃ p xs, v = .ref p ∧ SqT K F p xs ∧ DqAll K F xs ds := by
  cases h with | tup h a => exact ⟨_, _, rfl, h, a⟩
theorem dp_tup2 {v : V} {d e : PyData} (h : Dq K F v (.tuple [d, e])) : ∃ p x y, v = .ref p ∧ SqT K F p [x, y] ∧ Dq K F x d ∧ Dq K F y e := by
  obtain ⟨p, xs, rfl, hs, a⟩ := dp_tup h
  cases a with | cons h1 a => cases a with | cons h2 a => cases a; exact ⟨p, _, _, rfl, hs, h1, h2⟩
theorem dp_tup3 {v : V} {d e f : PyData} (h : Dq K F v (.tuple [d, e, f])) : ∃ p x y z, v = .ref p ∧ SqT K F p [x, y, z] ∧ Dq K F x d ∧ Dq K F y e ∧ Dq K F z f := by
  obtain ⟨p, xs, rfl, hs, a⟩ := dp_tup h
  cases a with | cons h1 a => cases a with | cons h2 a => cases a with | cons h3 a => cases a; exact ⟨p, _, _, _, rfl, hs, h1, h2, h3⟩
end

/-! ### new tuples, new lists -/
section
variable {K : PySem.W.Frag} {M : List Addr} {F H : Hp} {Q : VK} {xs : List V} {ds : List PyData}
theorem new_tup (e : Ex F H) (a : DqAll K F xs ds) (hl : xs.length ≤ 100000) (k : Ret M F H (fun F' _ v => Dq K F' v (.tuple ds)) Q) : xs.length ≤ sizeLine ∧ ∀ p, H p = none → Q (.ref p) (upd H p (.tup xs)) :=
  ⟨sz_of hl, fun p hp => by
    have g : Gm M F H (upd F p (.tup xs)) (upd H p (.tup xs)) := Gm.new e hp
    exact k _ _ _ g (.tup (st_of upd_same) (a.up g.f))⟩
theorem new_lst (e : Ex F H) (a : DqAll K F xs ds) (hl : xs.length ≤ 100000) (k : Ret M F H (fun F' _ v => Dq K F' v (.list ds)) Q) : xs.length ≤ sizeLine ∧ ∀ p, H p = none → Q (.ref p) (upd H p (.lst xs)) :=
  ⟨sz_of hl, fun p hp => by
    have g : Gm M F H (upd F p (.lst xs)) (upd H p (.lst xs)) := Gm.new e hp
    exact k _ _ _ g (.lst upd_same (a.up g.f))⟩
end

/-! ### encoders -/
def eN (_ : Unit) : PyData := .none
def e2 {α β : Type} (f : α → PyData) (g : β → PyData) (p : α × β) : PyData := .tuple [f p.1, g p.2]
def e1 {α : Type} (f : α → PyData) (p : α) : PyData := .tuple [f p]
def e3 {α β γ : Type} (f : α → PyData) (g : β → PyData) (h : γ → PyData) (p : α × β × γ) : PyData := .tuple [f p.1, g p.2.1, h p.2.2]
def eL {α : Type} (f : α → PyData) (l : List α) : PyData := .list (l.map f)
def eV {α : Type} (f : α → PyData) (l : List α) : PyData := .tuple (l.map f)
def eO {α : Type} (f : α → PyData) (o : Option α) : PyData := match o with
  | none => .none
  | some a => f a
/-- data of a depth at most n whose equality is that of the values -/
structure Sh {α : Type} [DecidableEq α] (f : α → PyData) (n : Nat) : Prop where
  lay : ∀ a, (f a).canLay0 = true
  dep : ∀ a, (f a).depth ≤ n
  eq : ∀ a b, PyData.eqv (f a) (f b) = decide (a = b)
section
variable {α β γ : Type} [DecidableEq α] [DecidableEq β] [DecidableEq γ] {f : α → PyData} {g : β → PyData} {h : γ → PyData} {n m k : Nat}
theorem Sh.shaped (s : Sh f n) (hn : n ≤ 64 := by decide) (a : α) : SeqAt.shaped (f a) = true := by
  unfold SeqAt.shaped
  rw [s.lay a, Bool.true_and]
  exact decide_eq_true (Nat.le_trans (s.dep a) hn)
theorem sh_int : Sh PyData.int 0 := ⟨fun _ => by simp [PyData.canLay0], fun _ => by simp [PyData.depth], fun a b => by simp only [PyData.eqv]; exact Bool.eq_iff_iff.mpr (by simp)⟩
theorem sh_bool : Sh PyData.bool 0 := ⟨fun _ => by simp [PyData.canLay0], fun _ => by simp [PyData.depth], fun a b => by simp only [PyData.eqv]; exact Bool.eq_iff_iff.mpr (by simp)⟩
theorem sh_n : Sh eN 0 := ⟨fun _ => by simp [eN, PyData.canLay0], fun _ => by simp [eN, PyData.depth], fun a b => by simp [eN, PyData.eqv]⟩
theorem sh_e2 (a : Sh f n) (b : Sh g m) : Sh (e2 f g) (max n m + 1) := ⟨fun x => by simp [e2, PyData.canLay0, PyData.canLayAll0, a.lay, b.lay], fun x => by
    have := a.dep x.1
    have := b.dep x.2
    simp [e2, PyData.depth, PyData.depthAll]
    omega, fun x y => by
    obtain ⟨x1, x2⟩ := x
    obtain ⟨y1, y2⟩ := y
    simp only [e2, PyData.eqv, PyData.eqvAll, a.eq, b.eq]
    exact Bool.eq_iff_iff.mpr (by simp)⟩
theorem sh_e3 (a : Sh f n) (b : Sh g m) (c : Sh h k) : Sh (e3 f g h) (max (max n m) k + 1) := ⟨fun x => by simp [e3, PyData.canLay0, PyData.canLayAll0, a.lay, b.lay, c.lay], fun x => by
    have := a.dep x.1
    have := b.dep x.2.1
    have := c.dep x.2.2
    simp [e3, PyData.depth, PyData.depthAll]
    omega, fun x y => by
    obtain ⟨x1, x2, x3⟩ := x
    obtain ⟨y1, y2, y3⟩ := y
    simp only [e3, PyData.eqv, PyData.eqvAll, a.eq, b.eq, c.eq]
    exact Bool.eq_iff_iff.mpr (by simp)⟩
theorem lay_map (a : Sh f n) : ∀ l : List α, PyData.canLayAll0 (l.map f) = true
  | [] => by simp [PyData.canLayAll0]
  | x :: l => by simp [PyData.canLayAll0, a.lay, lay_map a l]
theorem dep_map (a : Sh f n) : ∀ l : List α, PyData.depthAll (l.map f) ≤ n
  | [] => by simp [PyData.depthAll]
  | x :: l => by
    have := a.dep x
    have := dep_map a l
    simp [PyData.depthAll]
    omega
theorem eqv_map (a : Sh f n) : ∀ l r : List α, PyData.eqvAll (l.map f) (r.map f) = decide (l = r)
  | [], [] => by simp [PyData.eqvAll]
  | [], _ :: _ => by simp [PyData.eqvAll]
  | _ :: _, [] => by simp [PyData.eqvAll]
  | x :: l, y :: r => by
    simp only [List.map_cons, PyData.eqvAll, a.eq, eqv_map a l r]
    exact Bool.eq_iff_iff.mpr (by simp)
theorem sh_eL (a : Sh f n) : Sh (eL f) (n + 1) := ⟨fun l => by simp [eL, PyData.canLay0, lay_map a l], fun l => by
    have := dep_map a l
    simp [eL, PyData.depth]
    omega, fun l r => by simp only [eL, PyData.eqv]; exact eqv_map a l r⟩
theorem sh_eV (a : Sh f n) : Sh (eV f) (n + 1) := ⟨fun l => by simp [eV, PyData.canLay0, lay_map a l], fun l => by
    have := dep_map a l
    simp [eV, PyData.depth]
    omega, fun l r => by simp only [eV, PyData.eqv]; exact eqv_map a l r⟩
end
/-! == and != of such data -/
section
variable {X : Cx} {α : Type} [DecidableEq α] {f : α → PyData} {n : Nat}
def rEqM (K : PySem.W.Frag) (f : α → PyData) : R2 := fun x y H Q => ∃ a b : α, Dp K H x (f a) ∧ Dp K H y (f b) ∧ Q (.bl (decide (a = b))) H
def rNeM (K : PySem.W.Frag) (f : α → PyData) : R2 := fun x y H Q => ∃ a b : α, Dp K H x (f a) ∧ Dp K H y (f b) ∧ Q (.bl (!decide (a = b))) H
theorem op_eqM (s : Sh f n) (hu : X.A.units + 64 < cLine) (hn : n ≤ 64 := by decide) : OpR X (compareOp .Eq) (rEqM X.K f) := by
  intro pins st σ H x y v u Q I rx ry h
  obtain ⟨a, b, ha, hb, q⟩ := h
  exact op_eqD hu pins st σ H x y v u Q I rx ry ⟨f a, f b, ha, hb, s.shaped hn a, s.shaped hn b, by rw [s.eq]; exact q⟩
theorem op_neM (s : Sh f n) (hu : X.A.units + 64 < cLine) (hn : n ≤ 64 := by decide) : OpR X (compareOp .NotEq) (rNeM X.K f) := by
  intro pins st σ H x y v u Q I rx ry h
  obtain ⟨a, b, ha, hb, q⟩ := h
  exact op_neD hu pins st σ H x y v u Q I rx ry ⟨f a, f b, ha, hb, s.shaped hn a, s.shaped hn b, by rw [s.eq]; exact q⟩
end
end Wk

set_option Elab.async false
set_option linter.all false
set_option maxRecDepth 100000
set_option maxHeartbeats 4000000
namespace Wk
open PySem L2 Evl

/-! ### defs that are known -/
structure Kn (P : Program) (w : World) (K : PySem.W.Frag) (mg : Str → Option Value) (base : Heap) (x : Str) (k : Nat) (ps : List Str) (sp : Sp) : Prop where
  ex : ∃ f fd, FnOk P w K mg base CX0 k f fd ps sp ∧ mg x = some (.ref f) ∧ PySem.W.keepIn K (.ref f) = true ∧ Binds K fd ps []
section
variable {X : Cx} {x : Str} {k : Nat} {ps : List Str} {sp : Sp} {p pos : Pos} {e : Expr} {es : List Expr} {t : TA}
theorem pe_kn (G : Kn X.prog X.w X.K X.mg X.base x k ps sp) (hr : Room k X.A) (ha : PA X (e :: es) t) (hg : Gl X x := by rfl) (hdb : (x == ("__debug__" : Str)) = false := by decide)
    (he : starEach (e :: es) X.env = (false, eval e X.env) :: starEach es X.env := by rfl) (hpl : (backTo pos (starEach es X.env)).any (·.1) = false := by rfl) : PE X (.Call (.Name x p) (e :: es) [] pos) (tCall sp [] E0 t) := by
  obtain ⟨f, fd, F, hm, hk, hb⟩ := G.ex
  exact pe_call F hr hg hm hk hb .nil pass0 ha hdb he hpl
theorem pe_kn0 (G : Kn X.prog X.w X.K X.mg X.base x k ps sp) (hr : Room k X.A) (hg : Gl X x := by rfl) (hdb : (x == ("__debug__" : Str)) = false := by decide) : PE X (.Call (.Name x p) [] [] pos) (tCall sp [] E0 tNil) := by
  obtain ⟨f, fd, F, hm, hk, hb⟩ := G.ex
  exact pe_call0 F hr hg hm hk hb .nil pass0 hdb
end

/-! ### the row of draws -/
structure Rw where
  pos : Int
  seed : Int
  left : Int
/-- the row at ra: the script at sc, ints n -/
def RowAt (K : PySem.W.Frag) (sc ra : Addr) (scr : List Int) (F H : Hp) (st : Rw) : Prop :=
  H ra = some (.lst [.ref sc, .int st.pos, .int st.seed, .int st.left]) ∧ F ra = none ∧ SqL K F sc (scr.map V.int)
theorem RowAt.keep {K : PySem.W.Frag} {sc ra : Addr} {scr : List Int} {F H F' H' : Hp} {st : Rw} (w : RowAt K sc ra scr F H st) (g : Gm [] F H F' H') : RowAt K sc ra scr F' H' st :=
  ⟨(g.own (by simp) w.1 w.2.1).1, (g.own (by simp) w.1 w.2.1).2, ex_l g.f w.2.2⟩

/-! ### loops -/
inductive Fl (R S : Type) where
  | go (s : S)
  | brk (s : S)
  | ret (r : R)
def foldM {α S : Type} (f : S → α → Mm S) : S → List α → Mm S
  | s, [] => .ok s
  | s, x :: xs => (f s x).bd fun s' => foldM f s' xs
/-- a loop that may be left -/
def foldL {α R S : Type} (f : S → α → Mm (Fl R S)) : S → List α → Mm (Fl R S)
  | s, [] => .ok (.go s)
  | s, x :: xs => (f s x).bd fun o => match o with
    | .go s' => foldL f s' xs
    | .brk s' => .ok (.go s')
    | .ret r => .ok (.ret r)
def Fl.el {R S β : Type} (o : Fl R S) (go : S → Mm β) (ret : R → Mm β) : Mm β := match o with
  | .go s => go s
  | .brk s => go s
  | .ret r => ret r
def foldW {S : Type} (c : S → Mm Bool) (f : S → Mm S) : Nat → S → Mm S
  | 0, _ => .bad
  | n + 1, s => (c s).bd fun b => match b with
    | true => (f s).bd fun s' => foldW c f n s'
    | false => .ok s
theorem post_assoc {α β γ : Type} {m : Mm α} {f : α → Mm β} {g : β → Mm γ} {p : γ → Prop} {q : Er → Prop} (h : Post ((m.bd f).bd g) p q) : Post (m.bd fun a => (f a).bd g) p q := by
  cases m <;> exact ⟨h.h⟩
section
variable {K : PySem.W.Frag} {M : List Addr} {F H : Hp} {σ : L2.St} {D : Ends} {g : TG} {tb : TS} {α β S : Type} {xs : List V} {l : List α} {step : S → α → Mm S} {rest : S → Mm β} {ok : β → Prop} {ex : Er → Prop} {s0 : S} {J : It} {n : Nat} {G : Hp → Prop} {Y : Nat → Hp → V → Hp → Prop}
/-- a for over anything that walks, no way out but by its end; Z: what a turn finds of the i-th item -/
theorem for_mir (w : Walk J n G Y) (I : S → Hp → Hp → L2.St → Prop) (k : Post ((foldM step s0 l).bd rest) ok ex) (e : Ex F H) (h0 : I s0 F H σ) (hn : l.length = n) (hG : ∀ F' H', Gm M F H F' H' → G H')
    (hb : ∀ i s x v σ' F' H' H'' , Gm M F H F' H' → I s F' H' σ' → l[i]? = some x → Y i H' v H'' → ∀ nx : L2.St → Hp → Prop,
      Post (step s x) (fun s' => ∀ σ2 F2 H2, Gm M F H F2 H2 → I s' F2 H2 σ2 → nx σ2 H2) ex → g v σ' H'' fun σ2 H2 => tb { D with nx := nx, ct := nx, bk := D.nx } σ2 H2)
    (kk : ∀ s σ' F' H', Gm M F H F' H' → I s F' H' σ' → Post (rest s) ok ex → D.nx σ' H') :
    ∃ W : Nat → Nat → L2.St → Hp → Prop, (∃ m, W 0 m σ H) ∧ ∀ i m σ H, W i m σ H →
      (J.stop i H ∧ D.nx σ H) ∨ (J.go i H ∧ ∃ N : L2.St → Hp → Prop, (∀ σ' H', N σ' H' → ∃ m', m' < m ∧ W (i + 1) m' σ' H') ∧ ∀ x H', J.yld i H x H' → g x σ H' fun σ2 H2 => tb { D with nx := N, ct := N, bk := D.nx } σ2 H2) := by
  refine for_it w (fun i σ' H' => ∃ s F', Gm M F H F' H' ∧ I s F' H' σ' ∧ Post ((foldM step s (l.drop i)).bd rest) ok ex) ⟨s0, F, Gm.refl e, h0, k⟩ (fun i σ' H' _ ⟨s, F', g', _, _⟩ => hG F' H' g') ?_ ?_
  · rintro i v σ' H' H'' hi ⟨s, F', g', i', k'⟩ y
    have hl : i < l.length := by omega
    have e1 : l.drop i = l[i] :: l.drop (i + 1) := List.drop_eq_getElem_cons hl
    rw [e1] at k'
    have k2 := post_bd (post_assoc k')
    exact hb i s l[i] v σ' F' H' H'' g' i' (List.getElem?_eq_getElem hl) y _ (k2.mono (fun s' q σ2 F2 H2 g2 i2 => ⟨s', F2, g2, i2, q⟩) fun _ z => z)
  · rintro σ' H' ⟨s, F', g', i', k'⟩
    rw [← hn, List.drop_length] at k'
    exact kk s σ' F' H' g' i' ⟨k'.h⟩
/-- the same with ways out: brk, ret -/
theorem for_mirL {R : Type} {stepL : S → α → Mm (Fl R S)} {rest : S → Mm β} {ret : R → Mm β} (w : Walk J n G Y) (I : S → Hp → Hp → L2.St → Prop) (k : Post ((foldL stepL s0 l).bd fun o => o.el rest ret) ok ex) (e : Ex F H) (h0 : I s0 F H σ) (hn : l.length = n) (hG : ∀ F' H', Gm M F H F' H' → G H')
    (hb : ∀ i s x v σ' F' H' H'' , Gm M F H F' H' → I s F' H' σ' → l[i]? = some x → Y i H' v H'' → ∀ nx : L2.St → Hp → Prop,
      Post (stepL s x) (fun o => match o with
        | .go s' => ∀ σ2 F2 H2, Gm M F H F2 H2 → I s' F2 H2 σ2 → nx σ2 H2
        | .brk s' => ∀ σ2 F2 H2, Gm M F H F2 H2 → I s' F2 H2 σ2 → D.nx σ2 H2
        | .ret r => Post (ret r) ok ex) ex → g v σ' H'' fun σ2 H2 => tb { D with nx := nx, ct := nx, bk := D.nx } σ2 H2)
    (kk : ∀ s σ' F' H', Gm M F H F' H' → I s F' H' σ' → Post (rest s) ok ex → D.nx σ' H') :
    ∃ W : Nat → Nat → L2.St → Hp → Prop, (∃ m, W 0 m σ H) ∧ ∀ i m σ H, W i m σ H →
      (J.stop i H ∧ D.nx σ H) ∨ (J.go i H ∧ ∃ N : L2.St → Hp → Prop, (∀ σ' H', N σ' H' → ∃ m', m' < m ∧ W (i + 1) m' σ' H') ∧ ∀ x H', J.yld i H x H' → g x σ H' fun σ2 H2 => tb { D with nx := N, ct := N, bk := D.nx } σ2 H2) := by
  refine for_it w (fun i σ' H' => ∃ s F', Gm M F H F' H' ∧ I s F' H' σ' ∧ Post ((foldL stepL s (l.drop i)).bd fun o => o.el rest ret) ok ex) ⟨s0, F, Gm.refl e, h0, k⟩ (fun i σ' H' _ ⟨s, F', g', _, _⟩ => hG F' H' g') ?_ ?_
  · rintro i v σ' H' H'' hi ⟨s, F', g', i', k'⟩ y
    have hl : i < l.length := by omega
    have e1 : l.drop i = l[i] :: l.drop (i + 1) := List.drop_eq_getElem_cons hl
    rw [e1] at k'
    have k2 := post_bd (post_assoc k')
    refine hb i s l[i] v σ' F' H' H'' g' i' (List.getElem?_eq_getElem hl) y _ (k2.mono (fun o q => ?_) fun _ z => z)
    cases o with
    | go s' => exact fun σ2 F2 H2 g2 i2 => ⟨s', F2, g2, i2, ⟨q.h⟩⟩
    | brk s' => exact fun σ2 F2 H2 g2 i2 => kk s' σ2 F2 H2 g2 i2 ⟨q.h⟩
    | ret r => exact ⟨q.h⟩
  · rintro σ' H' ⟨s, F', g', i', k'⟩
    rw [← hn, List.drop_length] at k'
    exact kk s σ' F' H' g' i' ⟨k'.h⟩
/-- a while -/
theorem while_mir {c : TT} {cM : S → Mm Bool} {bM : S → Mm S} {N : Nat} (I : S → Hp → Hp → L2.St → Prop) (k : Post ((foldW cM bM N s0).bd rest) ok ex) (e : Ex F H) (h0 : I s0 F H σ)
    (hc : ∀ s σ' F' H', Gm M F H F' H' → I s F' H' σ' → ∀ Q : Bool → Hp → Prop, Post (cM s) (fun b => ∀ F2 H2, Gm M F H F2 H2 → I s F2 H2 σ' → Q b H2) ex → c σ' H' Q)
    (hb : ∀ s σ' F' H', Gm M F H F' H' → I s F' H' σ' → ∀ nx : L2.St → Hp → Prop, Post (bM s) (fun s' => ∀ σ2 F2 H2, Gm M F H F2 H2 → I s' F2 H2 σ2 → nx σ2 H2) ex → tb { D with nx := nx, ct := nx, bk := D.nx } σ' H')
    (kk : ∀ s σ' F' H', Gm M F H F' H' → I s F' H' σ' → Post (rest s) ok ex → D.nx σ' H') : tWhile c tb D σ H := by
  refine ⟨fun m σ' H' => ∃ s F', Gm M F H F' H' ∧ I s F' H' σ' ∧ Post ((foldW cM bM m s).bd rest) ok ex, ⟨N, s0, F, Gm.refl e, h0, k⟩, ?_⟩
  rintro m σ' H' ⟨s, F', g', i', k'⟩
  cases m with
  | zero => exact k'.h.elim
  | succ m =>
    refine hc s σ' F' H' g' i' _ ((post_bd (post_assoc k')).mono (fun b q F2 H2 g2 i2 => ?_) fun _ z => z)
    cases b with
    | false => exact kk s σ' F2 H2 g2 i2 ⟨q.h⟩
    | true =>
      refine ⟨fun σ2 H2 => ∃ s F', Gm M F H F' H2 ∧ I s F' H2 σ2 ∧ Post ((foldW cM bM m s).bd rest) ok ex, fun σ2 H2 ⟨s', F3, z⟩ => ⟨m, Nat.lt_succ_self _, s', F3, z⟩, ?_⟩
      exact hb s σ' F2 H2 g2 i2 _ ((post_bd (post_assoc (Post.mk q.h))).mono (fun s' q' σ2 F3 H3 g3 i3 => ⟨s', F3, g3, i3, q'⟩) fun _ z => z)
end

/-! ### comprehensions -/
def noEx {α : Type} (m : Mm α) : Mm α := match m with
  | .ex _ => .bad
  | .ok a => .ok a
  | .bad => .bad
theorem post_noEx {α : Type} {m : Mm α} {p : α → Prop} {q q' : Er → Prop} (h : Post (noEx m) p q) : Post m p q' := by
  cases m with
  | ok a => exact ⟨h.h⟩
  | ex e => exact h.h.elim
  | bad => exact h.h.elim
/-- the elements in turn; a state goes through; none: left out -/
def compM {α γ S : Type} (f : S → α → Mm (Option γ × S)) : S → List α → Mm (List γ × S)
  | s, [] => .ok ([], s)
  | s, x :: xs => (f s x).bd fun o => (compM f o.2 xs).bd fun r => .ok (o.1.toList ++ r.1, r.2)
section
variable {K : PySem.W.Frag} {M : List Addr} {F H : Hp} {σ : L2.St} {g : TG} {tt : TT} {te : TE} {vs : List Nat} {α β γ S : Type} {l : List α} {f : S → α → Mm (Option γ × S)} {rest : List γ × S → Mm β} {ok : β → Prop} {ex : Er → Prop} {s0 : S} {J : It} {n : Nat} {G : Hp → Prop} {Y : Nat → Hp → V → Hp → Prop} {Q : VK}
theorem comp_post {acc : List γ} {s : S} {l : List α} {rest : List γ × S → Mm β} : ∀ {ok : β → Prop} {ex : Er → Prop} {f : S → α → Mm (Option γ × S)} {x : α},
    Post (((compM f s (x :: l)).bd fun r => rest (acc ++ r.1, r.2))) ok ex → Post (f s x) (fun o => Post ((compM f o.2 l).bd fun r => rest ((acc ++ o.1.toList) ++ r.1, r.2)) ok ex) ex := by
  intro ok ex f x h
  have h1 := post_bd (post_assoc h)
  refine h1.mono (fun o q => ?_) fun _ z => z
  have h2 := post_assoc q
  simpa only [bd_ok, List.append_assoc] using h2
/-- what a comprehension's state asks of its word: a younger object may change, may be fixed -/
structure Stab (I : S → Hp → Hp → Prop) (H : Hp) : Prop where
  put : ∀ s F' H' D xs, I s F' H' → H D = none → I s F' (upd H' D (.lst xs))
  fix : ∀ s F' H' D xs, I s F' H' → H D = none → F' D = none → I s (upd F' D (.lst xs)) H'
/-- a comprehension: enc: how an element is told -/
theorem lc_mir (w : Walk J n G Y) (en : γ → PyData) (I : S → Hp → Hp → Prop) (k : Post ((compM f s0 l).bd rest) ok ex) (e : Ex F H) (h0 : I s0 F H) (st : Stab I H) (hn : l.length = n) (hz : l.length ≤ 50000) (hG : ∀ F' H', Gm M F H F' H' → G H')
    (hM : ∀ D, H D = none → D ∉ M)
    (hb : ∀ i s x v F' H' H'', Gm M F H F' H' → I s F' H' → l[i]? = some x → Y i H' v H'' → ∀ Q : Option V → Hp → Prop,
      Post (f s x) (fun o => ∀ F2 H2 v, Gm M F' H' F2 H2 → I o.2 F2 H2 → (match o.1 with
        | some y => ∃ u, v = some u ∧ Dq K F2 u (en y)
        | none => v = none) → Q v H2) (fun _ => False) →
      g v (wipe σ vs) H'' fun σ2 H2 => wipe σ2 vs = wipe σ vs ∧ tt σ2 H2 fun b H3 => if b = true then te σ2 H3 fun y H4 => Q (some y) H4 else Q none H3)
    (hx : ∀ e, ¬ ex e)
    (kk : ∀ (r : List γ × S) v F' H', Gm M F H F' H' → I r.2 F' H' → Dq K F' v (.list (r.1.map en)) → Post (rest r) ok ex → Q v H') :
    ∀ D, H D = none → ∃ W : Nat → Nat → Hp → Prop, (∃ m, W 0 m (upd H D (.lst []))) ∧ ∀ i m H, W i m H →
      (J.stop i H ∧ Q (.ref D) H) ∨ (J.go i H ∧ ∃ Nx : Hp → Prop, (∀ H', Nx H' → ∃ m', m' < m ∧ W (i + 1) m' H') ∧ ∀ x H', J.yld i H x H' → g x (wipe σ vs) H' fun σ2 H2 => wipe σ2 vs = wipe σ vs ∧ tt σ2 H2 fun b H3 =>
        if b = true then te σ2 H3 fun y H4 => ∃ acc, H4 D = some (.lst acc) ∧ acc.length < sizeLine ∧ Nx (upd H4 D (.lst (acc ++ [y]))) else Nx H3) := by
  intro D hD
  have k0 : Post ((compM f s0 (l.drop 0)).bd fun r => rest ([] ++ r.1, r.2)) ok ex := by simpa using k
  refine lc_it w (fun i H' => ∃ (s : S) (acc : List γ) (xs : List V) (F' : Hp), Gm M F H F' H' ∧ I s F' H' ∧ H' D = some (.lst xs) ∧ F' D = none ∧ DqAll K F' xs (acc.map en) ∧ xs.length ≤ i ∧ Post ((compM f s (l.drop i)).bd fun r => rest (acc ++ r.1, r.2)) ok ex)
    ⟨s0, [], [], F, Gm.newM e hD, st.put s0 F H D _ h0 hD, upd_same, ?_, .nil, Nat.le_refl _, k0⟩ (fun i H' _ ⟨s, acc, xs, F', g', _⟩ => hG F' H' g') ?_ ?_
  · cases q : F D with
    | none => rfl
    | some u => rw [e D u q] at hD; cases hD
  · rintro i v H' H'' hi ⟨s, acc, xs, F', g', i', hL, fL, ha, hlen, k'⟩ y
    have hl : i < l.length := by omega
    have e1 : l.drop i = l[i] :: l.drop (i + 1) := List.drop_eq_getElem_cons hl
    rw [e1] at k'
    have k2 := comp_post k'
    have hDM : D ∉ M := hM D hD
    have z := hb i s l[i] v F' H' H'' g' i' (List.getElem?_eq_getElem hl) y (fun o H4 => match o with
      | some y => ∃ acc', H4 D = some (.lst acc') ∧ acc'.length < sizeLine ∧ ∃ (s : S) (acc : List γ) (xs : List V) (F' : Hp), Gm M F H F' (upd H4 D (.lst (acc' ++ [y]))) ∧ I s F' (upd H4 D (.lst (acc' ++ [y]))) ∧ (upd H4 D (.lst (acc' ++ [y]))) D = some (.lst xs) ∧ F' D = none ∧ DqAll K F' xs (acc.map en) ∧ xs.length ≤ i + 1 ∧ Post ((compM f s (l.drop (i + 1))).bd fun r => rest (acc ++ r.1, r.2)) ok ex
      | none => ∃ (s : S) (acc : List γ) (xs : List V) (F' : Hp), Gm M F H F' H4 ∧ I s F' H4 ∧ H4 D = some (.lst xs) ∧ F' D = none ∧ DqAll K F' xs (acc.map en) ∧ xs.length ≤ i + 1 ∧ Post ((compM f s (l.drop (i + 1))).bd fun r => rest (acc ++ r.1, r.2)) ok ex)
      (k2.mono (fun o q F2 H2 v2 g2 i2 hv => ?_) fun e z => (hx e z).elim)
    · exact z
    · obtain ⟨h2L, f2L⟩ := g2.own hDM hL fL
      obtain ⟨o1, o2⟩ := o
      cases o1 with
      | some y =>
        obtain ⟨u, rfl, hu⟩ := hv
        refine ⟨xs, h2L, sz_lt (by omega), o2, acc ++ [y], xs ++ [u], F2, ?_, st.put _ _ _ _ _ i2 hD, upd_same, f2L, ?_, ?_, ?_⟩
        · exact (g'.trans g2).putYoung h2L f2L hD
        · rw [List.map_append]; exact (ha.up g2.f).app (.cons hu .nil)
        · rw [List.length_append, List.length_singleton]; omega
        · simpa using q
      | none =>
        subst hv
        refine ⟨o2, acc, xs, F2, g'.trans g2, i2, h2L, f2L, ha.up g2.f, by omega, ?_⟩
        simpa using q
  · rintro H' ⟨s, acc, xs, F', g', i', hL, fL, ha, hlen, k'⟩
    rw [← hn, List.drop_length] at k'
    have up : Ex F' (upd F' D (.lst xs)) := Ex.new fL
    exact kk (acc, s) _ (upd F' D (.lst xs)) H' (g'.fix hL fL hD) (st.fix _ _ _ _ _ i' hD fL) (.lst upd_same (ha.up up)) (by simpa [compM] using k')
theorem stab_row {K : PySem.W.Frag} {sc ra : Addr} {scr : List Int} {F H : Hp} {st : Rw} (w : RowAt K sc ra scr F H st) : Stab (fun s F H => RowAt K sc ra scr F H s) H := by
  have ne : ∀ D, H D = none → ra ≠ D := fun D hD q => by
    have z := w.1
    rw [q, hD] at z
    cases z
  refine ⟨fun s F' H' D xs i hD => ⟨?_, i.2.1, i.2.2⟩, fun s F' H' D xs i hD hf => ⟨i.1, ?_, ex_l (Ex.new hf) i.2.2⟩⟩
  · rw [upd_ne (ne D hD)]; exact i.1
  · rw [upd_ne (ne D hD)]; exact i.2.1
theorem stab_t {H : Hp} : Stab (fun (_ : Unit) _ _ => True) H := ⟨fun _ _ _ _ _ _ _ => trivial, fun _ _ _ _ _ _ _ _ => trivial⟩
theorem row_notM {K : PySem.W.Frag} {sc ra : Addr} {scr : List Int} {F H : Hp} {st : Rw} (w : RowAt K sc ra scr F H st) : ∀ D, H D = none → D ∉ [ra] := fun D hD q => by
  have z := w.1
  have e : D = ra := by simpa using q
  rw [← e, hD] at z
  cases z
end
end Wk

set_option Elab.async false
set_option linter.all false
set_option maxRecDepth 100000
set_option maxHeartbeats 4000000
namespace Wk
open PySem L2 Evl
/-! ### what follows, under a name -/
def QK (Q : VK) : VK := fun v H => Q v H
def tQ (te : TE) : TE := fun σ H Q => te σ H (QK Q)
section
variable {X : Cx} {x : Expr} {te : TE} {st : Stmt} {g : TG}
theorem pe_q (h : PE X x te) : PE X x (tQ te) := ⟨fun pins s σ H Q I q => h.run pins s σ H (QK Q) I q⟩
theorem ps_q (h : PS X st (tAsg te g)) : PS X st (tAsg (tQ te) g) := ⟨fun pins s σ H D I q => h.run pins s σ H D I q⟩
end
/-! ### joins -/
section
variable {M : List Addr} {F H : Hp} {σ : L2.St} {D : Ends} {α β : Type} {c a b : Bool} {A B : Prop} {X Y : Mm β} {rest : β → Mm α} {ok : α → Prop} {ex : Er → Prop} {Q : VK} {ta tb : TE} {tu tw : TS}
theorem cs {X Y : Mm α} (k : Post (cond c X Y) ok ex) (h1 : c = true → Post X ok ex → A) (h2 : c = false → Post Y ok ex → B) : if c = true then A else B := by
  cases c with
  | true => rw [if_pos rfl]; exact h1 rfl ⟨k.h⟩
  | false => rw [if_neg Bool.false_ne_true]; exact h2 rfl ⟨k.h⟩
theorem or_j {Q : Bool → Hp → Prop} {u : TT} (hu : a = false → ∀ Q' : Bool → Hp → Prop, Q' b H → u σ H Q') (k : Q (a || b) H) : if a = true then Q true H else u σ H Q := by
  cases a with
  | true => rw [if_pos rfl]; exact k
  | false => rw [if_neg Bool.false_ne_true]; exact hu rfl Q k
theorem and_j {Q : Bool → Hp → Prop} {u : TT} (hu : a = true → ∀ Q' : Bool → Hp → Prop, Q' b H → u σ H Q') (k : Q (a && b) H) : if a = true then u σ H Q else Q false H := by
  cases a with
  | true => rw [if_pos rfl]; exact hu rfl Q k
  | false => rw [if_neg Bool.false_ne_true]; exact k
theorem orV_j {u : TE} (hu : a = false → ∀ Q' : VK, Q' (.bl b) H → u σ H Q') (k : Q (.bl (a || b)) H) : if a = true then Q (.bl true) H else u σ H Q := by
  cases a with
  | true => rw [if_pos rfl]; exact k
  | false => rw [if_neg Bool.false_ne_true]; exact hu rfl Q k
theorem andV_j {u : TE} (hu : a = true → ∀ Q' : VK, Q' (.bl b) H → u σ H Q') (k : Q (.bl (a && b)) H) : if a = true then u σ H Q else Q (.bl false) H := by
  cases a with
  | true => rw [if_pos rfl]; exact hu rfl Q k
  | false => rw [if_neg Bool.false_ne_true]; exact k
/-- the second operand wants outcomes of its own -/
theorem or_jM {Q : Bool → Hp → Prop} {u : TT} {Y : Mm Bool} {rest : Bool → Mm α} (e : Ex F H) (k : Post ((cond a (.ok true) Y).bd rest) ok ex) (hu : a = false → ∀ Q' : Bool → Hp → Prop, Post Y (fun b => ∀ F' H', Gm M F H F' H' → Q' b H') ex → u σ H Q')
    (kk : ∀ b F' H', Gm M F H F' H' → Post (rest b) ok ex → Q b H') : if a = true then Q true H else u σ H Q := by
  cases a with
  | true => rw [if_pos rfl]; exact kk true F H (Gm.refl e) ⟨k.h⟩
  | false => rw [if_neg Bool.false_ne_true]; exact hu rfl Q ((post_bd k).mono (fun b q F' H' g => kk b F' H' g q) fun _ z => z)
theorem and_jM {Q : Bool → Hp → Prop} {u : TT} {Y : Mm Bool} {rest : Bool → Mm α} (e : Ex F H) (k : Post ((cond a Y (.ok false)).bd rest) ok ex) (hu : a = true → ∀ Q' : Bool → Hp → Prop, Post Y (fun b => ∀ F' H', Gm M F H F' H' → Q' b H') ex → u σ H Q')
    (kk : ∀ b F' H', Gm M F H F' H' → Post (rest b) ok ex → Q b H') : if a = true then u σ H Q else Q false H := by
  cases a with
  | false => rw [if_neg Bool.false_ne_true]; exact kk false F H (Gm.refl e) ⟨k.h⟩
  | true => rw [if_pos rfl]; exact hu rfl Q ((post_bd k).mono (fun b q F' H' g => kk b F' H' g q) fun _ z => z)
/-- a value by a condition -/
theorem if_jM (S : β → Hp → Hp → V → Prop) (k : Post ((cond c X Y).bd rest) ok ex)
    (ha : c = true → ∀ Q' : VK, Post X (fun b => Ret M F H (S b) Q') ex → ta σ H Q') (hb : c = false → ∀ Q' : VK, Post Y (fun b => Ret M F H (S b) Q') ex → tb σ H Q')
    (kk : ∀ b v F' H', Gm M F H F' H' → S b F' H' v → Post (rest b) ok ex → Q v H') : if c = true then ta σ H Q else tb σ H Q := by
  cases c with
  | true => rw [if_pos rfl]; exact ha rfl Q ((post_bd k).mono (fun b q v F' H' g s => kk b v F' H' g s q) fun _ z => z)
  | false => rw [if_neg Bool.false_ne_true]; exact hb rfl Q ((post_bd k).mono (fun b q v F' H' g s => kk b v F' H' g s q) fun _ z => z)
/-- an if whose ways go on -/
theorem ifs_jM (I : β → Hp → Hp → L2.St → Prop) (k : Post ((cond c X Y).bd rest) ok ex)
    (ha : c = true → ∀ nx : L2.St → Hp → Prop, Post X (fun b => ∀ σ' F' H', Gm M F H F' H' → I b F' H' σ' → nx σ' H') ex → tu { D with nx := nx } σ H)
    (hb : c = false → ∀ nx : L2.St → Hp → Prop, Post Y (fun b => ∀ σ' F' H', Gm M F H F' H' → I b F' H' σ' → nx σ' H') ex → tw { D with nx := nx } σ H)
    (kk : ∀ b σ' F' H', Gm M F H F' H' → I b F' H' σ' → Post (rest b) ok ex → D.nx σ' H') : if c = true then tu D σ H else tw D σ H := by
  cases c with
  | true => rw [if_pos rfl]; exact ha rfl D.nx ((post_bd k).mono (fun b q σ' F' H' g s => kk b σ' F' H' g s q) fun _ z => z)
  | false => rw [if_neg Bool.false_ne_true]; exact hb rfl D.nx ((post_bd k).mono (fun b q σ' F' H' g s => kk b σ' F' H' g s q) fun _ z => z)
end
/-! ### items of data -/
section
variable {K : PySem.W.Frag} {F : Hp} {α : Type} {f : α → PyData} {l : List α} {vs : List V} {a : α} {i : Int}
theorem atI_at {α : Type} {xs : List α} {i : Int} {a : α} (h : atI xs i = some a) : ∃ j, ixN xs.length i = some j ∧ xs[j]? = some a := by
  unfold atI at h
  cases e : ixN xs.length i with
  | none => rw [e] at h; cases h
  | some j => rw [e] at h; exact ⟨j, rfl, h⟩
theorem dq_at (ha : DqAll K F vs (l.map f)) (h : atI l i = some a) : ∃ v, atI vs i = some v ∧ Dq K F v (f a) := by
  obtain ⟨j, hj, hg⟩ := atI_at h
  have hl : vs.length = l.length := by rw [ha.len, List.length_map]
  obtain ⟨v, hv, hd⟩ := ha.get (i := j) (d := f a) (by rw [List.getElem?_map, hg]; rfl)
  refine ⟨v, ?_, hd⟩
  unfold atI
  rw [hl, hj]
  exact hv
theorem atI_ints {l : List Int} (h : atI l i = some a') : atI (l.map V.int) i = some (V.int a') := by
  obtain ⟨j, hj, hg⟩ := atI_at h
  unfold atI
  rw [List.length_map, hj]
  show (l.map V.int)[j]? = _
  rw [List.getElem?_map, hg]
  rfl
end
/-! ### heaps, more -/
section
variable {M : List Addr} {F H F1 H1 F0 H0 : Hp}
/-- behind a loop that may change the younger object at p -/
theorem Gm.young {p : Addr} (g : Gm M F0 H0 F H) (h0 : H0 p = none) (g2 : Gm (p :: M) F H F1 H1) : Gm M F0 H0 F1 H1 :=
  ⟨g.f.trans g2.f, g2.s, fun a o hM h => g2.h a o (fun q => by
      rcases List.mem_cons.mp q with q | q
      · rw [q, h0] at h; cases h
      · exact hM q) (g.h a o hM h), fun a o h hn => by
    obtain ⟨o', h'⟩ := g.m a o h
    exact g2.n a o' h' (g.n a o h hn), fun a o h => by
    obtain ⟨o', h'⟩ := g.m a o h
    exact g2.m a o' h'⟩
theorem Gm.putIn (g : Gm M F0 H0 F H) {p : Addr} {o u : HO} (hp : p ∈ M) (h : H p = some u) (hf : F p = none) : Gm M F0 H0 F (upd H p o) := by
  refine ⟨g.f, fun a u ha => ?_, fun a u hM ha => ?_, g.n, fun a u ha => ?_⟩
  · have q : a ≠ p := fun q => by rw [q, hf] at ha; cases ha
    rw [upd_ne q]; exact g.s a u ha
  · have q : a ≠ p := fun q => hM (by rw [q]; exact hp)
    rw [upd_ne q]; exact g.h a u hM ha
  · by_cases q : a = p
    · subst q; exact ⟨o, upd_same⟩
    · obtain ⟨o', h'⟩ := g.m a u ha
      exact ⟨o', by rw [upd_ne q]; exact h'⟩
end
/-! ### built-ins by name -/
structure Bi (mg : Str → Option Value) : Prop where
  len : mg "len" = none
  int : mg "int" = none
  bool : mg "bool" = none
  str : mg "str" = none
  abs : mg "abs" = none
  sum : mg "sum" = none
  min : mg "min" = none
  max : mg "max" = none
  list : mg "list" = none
  tuple : mg "tuple" = none
  set : mg "set" = none
  dict : mg "dict" = none
  sorted : mg "sorted" = none
  range : mg "range" = none
  enumerate : mg "enumerate" = none
  zip : mg "zip" = none
  reversed : mg "reversed" = none
  isinstance : mg "isinstance" = none
end Wk

set_option Elab.async false
set_option linter.all false
set_option maxRecDepth 100000
set_option maxHeartbeats 4000000
namespace Wk
open PySem L2 Evl
theorem Gm.weak {M M' : List Addr} {F H F' H' : Hp} (g : Gm M F H F' H') (h : ∀ a, a ∈ M → a ∈ M') : Gm M' F H F' H' := ⟨g.f, g.s, fun a o hM e => g.h a o (fun q => hM (h a q)) e, g.n, g.m⟩
/-! ### ranges -/
def rangeL (lo : Int) (n : Nat) : List Int := (List.range n).map fun (i : Nat) => lo + (i : Int)
def rangeM (j : Int) : Mm (List Int) := if -(2 ^ 62) ≤ j ∧ j < 2 ^ 62 then .ok (rangeL 0 j.toNat) else .bad
def rangeM2 (i j : Int) : Mm (List Int) := if -(2 ^ 62) ≤ i ∧ i < 2 ^ 62 ∧ -(2 ^ 62) ≤ j ∧ j < 2 ^ 62 then .ok (rangeL i (j - i).toNat) else .bad
section
variable {β : Type} {r : β → Prop} {q : Er → Prop} {i j : Int} {f : List Int → Mm β}
theorem post_range (h : Post ((rangeM j).bd f) r q) : (-(2 ^ 62) ≤ j ∧ j < 2 ^ 62) ∧ Post (f (rangeL 0 j.toNat)) r q := by
  unfold rangeM at h
  split at h
  · exact ⟨‹_›, ⟨h.h⟩⟩
  · exact h.h.elim
theorem post_range2 (h : Post ((rangeM2 i j).bd f) r q) : (-(2 ^ 62) ≤ i ∧ i < 2 ^ 62 ∧ -(2 ^ 62) ≤ j ∧ j < 2 ^ 62) ∧ Post (f (rangeL i (j - i).toNat)) r q := by
  unfold rangeM2 at h
  split at h
  · exact ⟨‹_›, ⟨h.h⟩⟩
  · exact h.h.elim
end
/-! ### fors over data, one form -/
/-- what a for or a comprehension walks over, as a list of data; R: what stands of an item -/
structure Wlk (M : List Addr) (F H : Hp) (J : It) {α : Type} (l : List α) (R : Hp → V → α → Prop) : Prop where
  ex : ∃ (n : Nat) (G : Hp → Prop) (Y : Nat → Hp → V → Hp → Prop), Walk J n G Y ∧ l.length = n ∧ (∀ F' H', Gm M F H F' H' → G H') ∧
    ∀ i x v F' H' H'', Gm M F H F' H' → l[i]? = some x → Y i H' v H'' → ∃ F'', Gm [] F' H' F'' H'' ∧ R F'' v x
section
variable {K : PySem.W.Frag} {M : List Addr} {F H : Hp} {σ : L2.St} {D : Ends} {g : TG} {tb : TS} {α β S : Type} {xs ys : List V} {l : List α} {step : S → α → Mm S} {rest : S → Mm β} {ok : β → Prop} {ex : Er → Prop} {s0 : S} {J : It} {R : Hp → V → α → Prop} {en : α → PyData} {a b : Addr}
theorem wlk_list (e : Ex F H) (h : F a = some (.lst xs)) (da : DqAll K F xs (l.map en)) : Wlk M F H (Itl K a) l (fun F v x => Dq K F v (en x)) := by
  refine ⟨_, _, _, walk_list (K := K) (a := a) (xs := xs), by rw [da.len, List.length_map], fun F' H' g' => sq_of (g'.s _ _ (g'.f _ _ h)), fun i x v F' H' H'' g' hx y => ?_⟩
  obtain ⟨rfl, hv⟩ := y
  obtain ⟨d, hd, hq⟩ := (da.up g'.f).getV hv
  rw [List.getElem?_map, hx] at hd
  cases hd
  exact ⟨F', Gm.refl g'.s, hq⟩
theorem wlk_tup (e : Ex F H) (h : SqT K F a xs) (da : DqAll K F xs (l.map en)) : Wlk M F H (Itt K a) l (fun F v x => Dq K F v (en x)) := by
  refine ⟨_, _, _, walk_tup (K := K) (a := a) (xs := xs), by rw [da.len, List.length_map], fun F' H' g' => ex_t g'.s (ex_t g'.f h), fun i x v F' H' H'' g' hx y => ?_⟩
  obtain ⟨rfl, hv⟩ := y
  obtain ⟨d, hd, hq⟩ := (da.up g'.f).getV hv
  rw [List.getElem?_map, hx] at hd
  cases hd
  exact ⟨F', Gm.refl g'.s, hq⟩
theorem rangeL_at {lo : Int} {n i : Nat} {x : Int} (h : (rangeL lo n)[i]? = some x) : x = lo + i := by
  unfold rangeL at h
  rw [List.getElem?_map] at h
  cases e : (List.range n)[i]? with
  | none => rw [e] at h; cases h
  | some j =>
    rw [e] at h
    obtain ⟨h1, h2⟩ := List.getElem?_eq_some_iff.mp e
    rw [List.getElem_range] at h2
    subst h2
    exact (Option.some.inj h).symm
theorem wlk_range {lo : Int} {n : Nat} : Wlk M F H (Itr lo n) (rangeL lo n) (fun _ v x => v = V.int x) := by
  refine ⟨_, _, _, walk_range (lo := lo) (n := n), by simp [rangeL], fun _ _ _ => trivial, fun i x v F' H' H'' g' hx y => ?_⟩
  obtain ⟨rfl, hv⟩ := y
  rw [rangeL_at hx]
  exact ⟨F', Gm.refl g'.s, hv⟩
theorem wlk_rev (e : Ex F H) (h : F a = some (.lst xs)) (da : DqAll K F xs (l.map en)) : Wlk M F H (Itv K a xs.length) l.reverse (fun F v x => Dq K F v (en x)) := by
  have hl : xs.length = l.length := by rw [da.len, List.length_map]
  refine ⟨_, _, _, walk_rev (K := K) (a := a) (xs := xs), by rw [List.length_reverse, hl], fun F' H' g' => sq_of (g'.s _ _ (g'.f _ _ h)), fun i x v F' H' H'' g' hx y => ?_⟩
  obtain ⟨rfl, hv⟩ := y
  obtain ⟨d, hd, hq⟩ := (da.up g'.f).getV hv
  have hi : i < l.reverse.length := (List.getElem?_eq_some_iff.mp hx).1
  rw [List.length_reverse] at hi
  rw [List.getElem?_reverse hi] at hx
  rw [List.getElem?_map, hl, hx] at hd
  cases hd
  exact ⟨F', Gm.refl g'.s, hq⟩
/-- enumerate: the items (i, x) -/
def enumL {α : Type} (l : List α) : List (Int × α) := (rangeL 0 l.length).zip l
theorem wlk_enum (e : Ex F H) (h : F a = some (.lst xs)) (da : DqAll K F xs (l.map en)) : Wlk M F H (Ite K a) (enumL l) (fun F v x => Dq K F v (e2 PyData.int en x)) := by
  have hl : xs.length = l.length := by rw [da.len, List.length_map]
  refine ⟨_, _, _, walk_enum (K := K) (a := a) (xs := xs), by simp [enumL, rangeL, hl], fun F' H' g' => sq_of (g'.s _ _ (g'.f _ _ h)), fun i x v F' H' H'' g' hx y => ?_⟩
  obtain ⟨T, u, w, rfl, hT, rfl, h1, h2⟩ := y
  obtain ⟨d, hd, hq⟩ := (da.up g'.f).getV h2
  obtain ⟨x1, x2⟩ := x
  unfold enumL at hx
  rw [List.getElem?_zip_eq_some] at hx
  obtain ⟨hx1, hx2⟩ := hx
  have e1 := rangeL_at hx1
  simp only at e1 hx2
  rw [List.getElem?_map, hx2] at hd
  cases hd
  cases h1
  have g2 : Gm [] F' H' (upd F' T (.tup [V.int (i : Nat), w])) (upd H' T (.tup [V.int (i : Nat), w])) := Gm.new g'.s hT
  refine ⟨_, g2, .tup (st_of upd_same) (.cons ?_ (.cons (hq.up g2.f) .nil))⟩
  rw [e1, Int.zero_add]
  exact .int _
theorem wlk_zip {α' : Type} {l' : List α'} {en' : α' → PyData} (e : Ex F H) (h : F a = some (.lst xs)) (da : DqAll K F xs (l.map en)) (h' : F b = some (.lst ys)) (da' : DqAll K F ys (l'.map en')) : Wlk M F H (Itz K a b) (l.zip l') (fun F v x => Dq K F v (e2 en en' x)) := by
  have hl : xs.length = l.length := by rw [da.len, List.length_map]
  have hl' : ys.length = l'.length := by rw [da'.len, List.length_map]
  refine ⟨_, _, _, walk_zip (K := K) (a := a) (b := b) (xs := xs) (ys := ys) rfl, by simp [hl, hl'], fun F' H' g' => ⟨sq_of (g'.s _ _ (g'.f _ _ h)), sq_of (g'.s _ _ (g'.f _ _ h'))⟩, fun i x v F' H' H'' g' hx y => ?_⟩
  obtain ⟨T, u, w, rfl, hT, rfl, h1, h2⟩ := y
  obtain ⟨d, hd, hq⟩ := (da.up g'.f).getV h1
  obtain ⟨d', hd', hq'⟩ := (da'.up g'.f).getV h2
  obtain ⟨x1, x2⟩ := x
  rw [List.getElem?_zip_eq_some] at hx
  obtain ⟨hx1, hx2⟩ := hx
  simp only at hx1 hx2
  rw [List.getElem?_map, hx1] at hd
  rw [List.getElem?_map, hx2] at hd'
  cases hd
  cases hd'
  have g2 : Gm [] F' H' (upd F' T (.tup [u, w])) (upd H' T (.tup [u, w])) := Gm.new g'.s hT
  exact ⟨_, g2, .tup (st_of upd_same) (.cons (hq.up g2.f) (.cons (hq'.up g2.f) .nil))⟩
/-- a for with no way out but its end -/
theorem for_m (w : Wlk M F H J l R) (I : S → Hp → Hp → L2.St → Prop) (k : Post ((foldM step s0 l).bd rest) ok ex) (e : Ex F H) (h0 : I s0 F H σ)
    (hb : ∀ s x v σ' F1 H1 F2 H2, Gm M F H F1 H1 → I s F1 H1 σ' → Gm [] F1 H1 F2 H2 → R F2 v x → ∀ nx : L2.St → Hp → Prop,
      Post (step s x) (fun s' => ∀ σ2 F3 H3, Gm M F H F3 H3 → I s' F3 H3 σ2 → nx σ2 H3) ex → g v σ' H2 fun σ2 H3 => tb { D with nx := nx, ct := nx, bk := D.nx } σ2 H3)
    (kk : ∀ s σ' F' H', Gm M F H F' H' → I s F' H' σ' → Post (rest s) ok ex → D.nx σ' H') :
    ∃ W : Nat → Nat → L2.St → Hp → Prop, (∃ m, W 0 m σ H) ∧ ∀ i m σ H, W i m σ H →
      (J.stop i H ∧ D.nx σ H) ∨ (J.go i H ∧ ∃ N : L2.St → Hp → Prop, (∀ σ' H', N σ' H' → ∃ m', m' < m ∧ W (i + 1) m' σ' H') ∧ ∀ x H', J.yld i H x H' → g x σ H' fun σ2 H2 => tb { D with nx := N, ct := N, bk := D.nx } σ2 H2) := by
  obtain ⟨n, G, Y, w, hn, hG, hY⟩ := w.ex
  refine for_mir w I k e h0 hn hG (fun i s x v σ' F' H' H'' g' i' hx y nx k' => ?_) kk
  obtain ⟨F'', g2, r⟩ := hY i x v F' H' H'' g' hx y
  exact hb s x v σ' F' H' F'' H'' g' i' g2 r nx k'
theorem for_mL {R' : Type} {stepL : S → α → Mm (Fl R' S)} {ret : R' → Mm β} (w : Wlk M F H J l R) (I : S → Hp → Hp → L2.St → Prop) (k : Post ((foldL stepL s0 l).bd fun o => o.el rest ret) ok ex) (e : Ex F H) (h0 : I s0 F H σ)
    (hb : ∀ s x v σ' F1 H1 F2 H2, Gm M F H F1 H1 → I s F1 H1 σ' → Gm [] F1 H1 F2 H2 → R F2 v x → ∀ nx : L2.St → Hp → Prop,
      Post (stepL s x) (fun o => match o with
        | .go s' => ∀ σ2 F3 H3, Gm M F H F3 H3 → I s' F3 H3 σ2 → nx σ2 H3
        | .brk s' => ∀ σ2 F3 H3, Gm M F H F3 H3 → I s' F3 H3 σ2 → D.nx σ2 H3
        | .ret r => Post (ret r) ok ex) ex → g v σ' H2 fun σ2 H3 => tb { D with nx := nx, ct := nx, bk := D.nx } σ2 H3)
    (kk : ∀ s σ' F' H', Gm M F H F' H' → I s F' H' σ' → Post (rest s) ok ex → D.nx σ' H') :
    ∃ W : Nat → Nat → L2.St → Hp → Prop, (∃ m, W 0 m σ H) ∧ ∀ i m σ H, W i m σ H →
      (J.stop i H ∧ D.nx σ H) ∨ (J.go i H ∧ ∃ N : L2.St → Hp → Prop, (∀ σ' H', N σ' H' → ∃ m', m' < m ∧ W (i + 1) m' σ' H') ∧ ∀ x H', J.yld i H x H' → g x σ H' fun σ2 H2 => tb { D with nx := N, ct := N, bk := D.nx } σ2 H2) := by
  obtain ⟨n, G, Y, w, hn, hG, hY⟩ := w.ex
  refine for_mirL w I k e h0 hn hG (fun i s x v σ' F' H' H'' g' i' hx y nx k' => ?_) kk
  obtain ⟨F'', g2, r⟩ := hY i x v F' H' H'' g' hx y
  exact hb s x v σ' F' H' F'' H'' g' i' g2 r nx k'
end
/-! ### comprehensions, three forms -/
theorem tYes_of {σ : L2.St} {H : Hp} {Q : Bool → Hp → Prop} (h : Q true H) : tYes σ H Q := h
def GMon (g : TG) : Prop := ∀ (v : V) (σ1 : L2.St) (H1 : Hp) (Q Q' : L2.St → Hp → Prop), (∀ s h, Q s h → Q' s h) → g v σ1 H1 Q → g v σ1 H1 Q'
def GsMon (g : TGs) : Prop := ∀ (v : List V) (σ1 : L2.St) (H1 : Hp) (Q Q' : L2.St → Hp → Prop), (∀ s h, Q s h → Q' s h) → g v σ1 H1 Q → g v σ1 H1 Q'
theorem gm_name {i : Nat} : GMon (gName i) := fun _ _ _ _ _ h q => h _ _ q
theorem gms_nil : GsMon gNil := fun _ _ _ _ _ h q => ⟨q.1, h _ _ q.2⟩
theorem gms_cons {t : TG} {u : TGs} (a : GMon t) (b : GsMon u) : GsMon (gCons t u) := fun _ _ _ _ _ h q => by
  obtain ⟨v, r, e, z⟩ := q
  exact ⟨v, r, e, a _ _ _ _ _ (fun s h' z' => b _ _ _ _ _ h z') z⟩
theorem gm_tup {K : PySem.W.Frag} {n : Nat} {t : TGs} (a : GsMon t) : GMon (gTup K n t) := fun _ _ _ _ _ h q => by
  obtain ⟨p, xs, e1, e2, e3, z⟩ := q
  exact ⟨p, xs, e1, e2, e3, a _ _ _ _ _ h z⟩

def mapMm {α γ : Type} (f : α → Mm γ) : List α → Mm (List γ)
  | [] => .ok []
  | x :: xs => (f x).bd fun y => (mapMm f xs).bd fun ys => .ok (y :: ys)
def filMm {α γ : Type} (f : α → Mm (Option γ)) : List α → Mm (List γ)
  | [] => .ok []
  | x :: xs => (f x).bd fun y => (filMm f xs).bd fun ys => .ok (y.toList ++ ys)
def mapSt {α γ S : Type} (f : S → α → Mm (γ × S)) : S → List α → Mm (List γ × S)
  | s, [] => .ok ([], s)
  | s, x :: xs => (f s x).bd fun y => (mapSt f y.2 xs).bd fun ys => .ok (y.1 :: ys.1, ys.2)
theorem bd_assoc {α β γ : Type} (m : Mm α) (f : α → Mm β) (g : β → Mm γ) : (m.bd f).bd g = m.bd fun a => (f a).bd g := by cases m <;> rfl
theorem bd_id {α : Type} (m : Mm α) : m.bd Mm.ok = m := by cases m <;> rfl
theorem filMm_comp {α γ : Type} (f : α → Mm (Option γ)) : ∀ l : List α, filMm f l = (compM (fun (_ : Unit) x => (f x).bd fun o => .ok (o, ())) () l).bd fun r => .ok r.1
  | [] => rfl
  | x :: xs => by
    simp only [filMm, compM, filMm_comp f xs, bd_assoc, bd_ok]
theorem mapMm_comp {α γ : Type} (f : α → Mm γ) : ∀ l : List α, mapMm f l = (compM (fun (_ : Unit) x => (f x).bd fun o => .ok (some o, ())) () l).bd fun r => .ok r.1
  | [] => rfl
  | x :: xs => by
    simp only [mapMm, compM, mapMm_comp f xs, bd_assoc, bd_ok, Option.toList, List.cons_append, List.nil_append]
theorem mapSt_comp {α γ S : Type} (f : S → α → Mm (γ × S)) : ∀ (s : S) (l : List α), mapSt f s l = compM (fun s x => (f s x).bd fun o => .ok (some o.1, o.2)) s l
  | _, [] => rfl
  | s, x :: xs => by
    simp only [mapSt, compM, bd_assoc, bd_ok, Option.toList, List.cons_append, List.nil_append]
    congr 1
    funext o
    rw [mapSt_comp f o.2 xs]
section
variable {K : PySem.W.Frag} {M : List Addr} {F H : Hp} {σ : L2.St} {g : TG} {tt : TT} {te : TE} {vs : List Nat} {α β γ S : Type} {l : List α} {ok : β → Prop} {ex : Er → Prop} {s0 : S} {J : It} {R : Hp → V → α → Prop} {Q : VK}
theorem lc_map {f : α → Mm γ} {rest : List γ → Mm β} (w : Wlk M F H J l R) (en : γ → PyData) (k : Post ((mapMm f l).bd rest) ok ex) (e : Ex F H) (hz : l.length ≤ 50000) (hM : ∀ D, H D = none → D ∉ M)
    (hb : ∀ x v F1 H1 F2 H2, Gm M F H F1 H1 → Gm [] F1 H1 F2 H2 → R F2 v x → ∀ Q : VK, Post (f x) (fun y => Ret M F1 H1 (fun F3 _ u => Dq K F3 u (en y)) Q) (fun _ => False) →
      g v (wipe σ vs) H2 fun σ2 H3 => wipe σ2 vs = wipe σ vs ∧ te σ2 H3 Q)
    (hx : ∀ e, ¬ ex e) (kk : ∀ (r : List γ) v F' H', Gm M F H F' H' → Dq K F' v (eL en r) → Post (rest r) ok ex → Q v H') (mono : GMon g) :
    ∀ D, H D = none → ∃ W : Nat → Nat → Hp → Prop, (∃ m, W 0 m (upd H D (.lst []))) ∧ ∀ i m H, W i m H →
      (J.stop i H ∧ Q (.ref D) H) ∨ (J.go i H ∧ ∃ Nx : Hp → Prop, (∀ H', Nx H' → ∃ m', m' < m ∧ W (i + 1) m' H') ∧ ∀ x H', J.yld i H x H' → g x (wipe σ vs) H' fun σ2 H2 => wipe σ2 vs = wipe σ vs ∧ tYes σ2 H2 fun b H3 =>
        if b = true then te σ2 H3 fun y H4 => ∃ acc, H4 D = some (.lst acc) ∧ acc.length < sizeLine ∧ Nx (upd H4 D (.lst (acc ++ [y]))) else Nx H3) := by
  obtain ⟨n, G, Y, w, hn, hG, hY⟩ := w.ex
  rw [mapMm_comp, bd_assoc] at k
  refine lc_mir w en (fun _ _ _ => True) k e trivial stab_t hn hz hG hM (fun i s x v F' H' H'' g' _ hx y Q' k' => ?_) hx (fun r v F' H' g' _ d k' => kk r.1 v F' H' g' d k')
  obtain ⟨F'', g2, r⟩ := hY i x v F' H' H'' g' hx y
  refine mono _ _ _ _ _ (fun σ2 H3 z => ⟨z.1, ?_⟩) (hb x v F' H' F'' H'' g' g2 r (fun u H4 => Q' (some u) H4) ((post_bd k').mono (fun y q u F3 H3 g3 d => q.h F3 H3 _ g3 trivial ⟨u, rfl, d⟩) fun _ z => z))
  exact tYes_of (iteT z.2)
theorem lc_st {f : Rw → α → Mm (γ × Rw)} {s0 : Rw} {rest : List γ × Rw → Mm β} {sc ra : Addr} {scr : List Int} (w : Wlk [ra] F H J l R) (en : γ → PyData) (k : Post ((mapSt f s0 l).bd rest) ok ex) (e : Ex F H) (hz : l.length ≤ 50000) (h0 : RowAt K sc ra scr F H s0)
    (hb : ∀ s x v F1 H1 F2 H2, Gm [ra] F H F1 H1 → RowAt K sc ra scr F1 H1 s → Gm [] F1 H1 F2 H2 → R F2 v x → ∀ Q : VK, Post (f s x) (fun y => Ret [ra] F1 H1 (fun F3 H3 u => Dq K F3 u (en y.1) ∧ RowAt K sc ra scr F3 H3 y.2) Q) (fun _ => False) →
      g v (wipe σ vs) H2 fun σ2 H3 => wipe σ2 vs = wipe σ vs ∧ te σ2 H3 Q)
    (hx : ∀ e, ¬ ex e) (kk : ∀ (r : List γ × Rw) v F' H', Gm [ra] F H F' H' → Dq K F' v (eL en r.1) ∧ RowAt K sc ra scr F' H' r.2 → Post (rest r) ok ex → Q v H') (mono : GMon g) :
    ∀ D, H D = none → ∃ W : Nat → Nat → Hp → Prop, (∃ m, W 0 m (upd H D (.lst []))) ∧ ∀ i m H, W i m H →
      (J.stop i H ∧ Q (.ref D) H) ∨ (J.go i H ∧ ∃ Nx : Hp → Prop, (∀ H', Nx H' → ∃ m', m' < m ∧ W (i + 1) m' H') ∧ ∀ x H', J.yld i H x H' → g x (wipe σ vs) H' fun σ2 H2 => wipe σ2 vs = wipe σ vs ∧ tYes σ2 H2 fun b H3 =>
        if b = true then te σ2 H3 fun y H4 => ∃ acc, H4 D = some (.lst acc) ∧ acc.length < sizeLine ∧ Nx (upd H4 D (.lst (acc ++ [y]))) else Nx H3) := by
  obtain ⟨n, G, Y, w, hn, hG, hY⟩ := w.ex
  rw [mapSt_comp] at k
  refine lc_mir w en (fun s F H => RowAt K sc ra scr F H s) k e h0 (stab_row h0) hn hz hG (row_notM h0) (fun i s x v F' H' H'' g' i' hx y Q' k' => ?_) hx (fun r v F' H' g' i' d k' => kk r v F' H' g' ⟨d, i'⟩ k')
  obtain ⟨F'', g2, r⟩ := hY i x v F' H' H'' g' hx y
  refine mono _ _ _ _ _ (fun σ2 H3 z => ⟨z.1, ?_⟩) (hb s x v F' H' F'' H'' g' i' g2 r (fun u H4 => Q' (some u) H4) ((post_bd k').mono (fun y q u F3 H3 g3 d => q.h F3 H3 _ g3 d.2 ⟨u, rfl, d.1⟩) fun _ z => z))
  exact tYes_of (iteT z.2)
end
end Wk

set_option Elab.async false
set_option linter.all false
set_option maxRecDepth 100000
set_option maxHeartbeats 4000000
namespace Wk
open PySem L2 Evl
theorem units_of {k : Nat} {A : Around} (r : Room k A) : A.units + 64 < cLine := r.units
theorem units_of2 {k : Nat} {A : Around} (r : Room k A) : A.units + 65 < cLine := by have := r.un; omega
def absI (i : Int) : Int := if i < 0 then -i else i
def maxI (i j : Int) : Int := if j > i then j else i
def minI (i j : Int) : Int := if j < i then j else i
theorem decV_int {i j : Int} : decide (V.int i = V.int j) = decide (i = j) := Bool.eq_iff_iff.mpr (by simp)
theorem decV_bl {i j : Bool} : decide (V.bl i = V.bl j) = decide (i = j) := Bool.eq_iff_iff.mpr (by simp)
theorem decV_str {i j : Str} : decide (V.str i = V.str j) = decide (i = j) := Bool.eq_iff_iff.mpr (by simp)
section
variable {K : PySem.W.Frag} {M : List Addr} {F F' H H' : Hp} {Q : VK} {α : Type} {en : α → PyData} {l l' : List α} {xs ys : List V} {a b p : Addr} {v : V} {ds : List PyData}
theorem none_O {o : Option α} (h : Dq K F v (eO en o)) (hn : ∀ a, en a ≠ .none := by intro a; exact fun h => nomatch h) : decide (v = .non) = o.isNone := by
  cases o with
  | none => cases h; rfl
  | some a =>
    refine decide_eq_false fun q => ?_
    subst q
    have h2 : Dq K F V.non (en a) := h
    have := hn a
    cases e : en a with
    | none => exact this e
    | _ => rw [e] at h2; cases h2
theorem chain_j {a b : Bool} {Q : VK} {σ : L2.St} {u : TE} {g : V → Hp → VK → Prop} (hu : a = true → ∀ Q' : VK, Q' (.bl b) H → u σ H fun w H' => g w H' Q') (k : Q (.bl (a && b)) H) :
    if a = true then u σ H (fun w H' => g w H' Q) else Q (.bl false) H := by
  cases a with
  | true => rw [if_pos rfl]; exact hu rfl Q k
  | false => rw [if_neg Bool.false_ne_true]; exact k
theorem len_all (h : DqAll K F xs (l.map en)) : (xs.length : Int) = (l.length : Int) := by rw [h.len, List.length_map]
theorem all_ints {l : List Int} (h : DqAll K F xs (l.map PyData.int)) : xs = l.map V.int := by
  induction l generalizing xs with
  | nil => cases h; rfl
  | cons i l ih => cases h with | cons h1 h2 => cases h1; rw [ih h2]; rfl
theorem ints_all : ∀ l : List Int, DqAll K F (l.map V.int) (l.map PyData.int)
  | [] => .nil
  | i :: l => .cons (.int i) (ints_all l)
theorem cat_len {l l' : List α} (h : DqAll K F xs (l.map en)) (h' : DqAll K F ys (l'.map en)) (hl : l.length + l'.length ≤ 100000) : xs.length + ys.length ≤ sizeLine := sz_of (by
  have := h.len
  have := h'.len
  rw [List.length_map] at *
  omega)
theorem new_lstC {l l' : List α} (e : Ex F H) (h : DqAll K F xs (l.map en)) (h' : DqAll K F ys (l'.map en)) (k : Ret M F H (fun F' _ v => Dq K F' v (eL en (l ++ l'))) Q) : ∀ p, H p = none → Q (.ref p) (upd H p (.lst (xs ++ ys))) := fun p hp => by
  have g : Gm M F H (upd F p (.lst (xs ++ ys))) (upd H p (.lst (xs ++ ys))) := Gm.new e hp
  refine k _ _ _ g (.lst upd_same ?_)
  rw [List.map_append]
  exact (h.app h').up g.f
/-- tuple + tuple -/
def rCatM (K : PySem.W.Frag) : R2 := rCatA K
theorem op_catM {X : Cx} : OpR X (binaryOp .Add) (rCatM X.K) := op_catA
theorem cat_tup {l l' : List α} (e : Ex F H) (s : SqT K F a xs) (h : DqAll K F xs (l.map en)) (s' : SqT K F b ys) (h' : DqAll K F ys (l'.map en)) (hl : l.length + l'.length ≤ 100000) (k : Ret M F H (fun F' _ v => Dq K F' v (eV en (l ++ l'))) Q) : rCatM K (.ref a) (.ref b) H Q := by
  refine ⟨a, b, xs, ys, rfl, rfl, ex_t e s, ex_t e s', cat_len h h' hl, fun q => ?_, fun _ q => ?_, fun _ _ p hp => ?_⟩
  · have hl0 : l = [] := by
      have := h.len
      rw [q, List.length_map] at this
      exact List.length_eq_zero_iff.mp this.symm
    exact k _ _ _ (Gm.refl e) (by rw [hl0]; exact .tup s' h')
  · have hl0 : l' = [] := by
      have := h'.len
      rw [q, List.length_map] at this
      exact List.length_eq_zero_iff.mp this.symm
    exact k _ _ _ (Gm.refl e) (by rw [hl0, List.append_nil]; exact .tup s h)
  · have g : Gm M F H (upd F p (.tup (xs ++ ys))) (upd H p (.tup (xs ++ ys))) := Gm.new e hp
    refine k _ _ _ g (.tup (st_of upd_same) ?_)
    rw [List.map_append]
    exact (h.app h').up g.f
/-- slices -/
def cutL {α : Type} (l : List α) (lo hi : Option Int) : List α := (l.drop (HT.sIx l.length 0 lo)).take (HT.sIx l.length l.length hi - HT.sIx l.length 0 lo)
theorem cut_all {lo hi : Option Int} (h : DqAll K F xs (l.map en)) : DqAll K F (cutV xs lo hi) ((cutL l lo hi).map en) := by
  have hl : xs.length = l.length := by rw [h.len, List.length_map]
  unfold cutV cutL
  rw [hl, List.map_take, List.map_drop]
  exact (h.drop _).take _
theorem cut_lst {lo hi : Option Int} (e : Ex F H) (s : F a = some (.lst xs)) (h : DqAll K F xs (l.map en)) (k : Ret M F H (fun F' _ v => Dq K F' v (eL en (cutL l lo hi))) Q) : rSlL K (.ref a) lo hi H Q :=
  ⟨a, xs, rfl, sq_of (e _ _ s), fun p hp => by
    have g : Gm M F H (upd F p (.lst (cutV xs lo hi))) (upd H p (.lst (cutV xs lo hi))) := Gm.new e hp
    exact k _ _ _ g (.lst upd_same ((cut_all h).up g.f))⟩
theorem sl_tupM {X : Cx} : SlR X (rSlA X.K) := sl_tupA
theorem cut_whole {α : Type} {l : List α} {lo hi : Option Int} (h : HT.sIx l.length 0 lo = 0 ∧ HT.sIx l.length l.length hi = l.length) : cutL l lo hi = l := by
  unfold cutL
  rw [h.1, h.2, List.drop_zero, Nat.sub_zero, List.take_length]
theorem cut_tup {lo hi : Option Int} (e : Ex F H) (s : SqT K F a xs) (h : DqAll K F xs (l.map en)) (k : Ret M F H (fun F' _ v => Dq K F' v (eV en (cutL l lo hi))) Q) : rSlA K (.ref a) lo hi H Q := by
  have hl : xs.length = l.length := by rw [h.len, List.length_map]
  refine ⟨a, xs, rfl, ex_t e s, fun q => ?_, fun _ p hp => ?_⟩
  · rw [hl] at q
    refine k _ _ _ (Gm.refl e) ?_
    rw [cut_whole q]
    exact .tup s h
  · have g : Gm M F H (upd F p (.tup (cutV xs lo hi))) (upd H p (.tup (cutV xs lo hi))) := Gm.new e hp
    exact k _ _ _ g (.tup (st_of upd_same) ((cut_all h).up g.f))
/-- list(x), tuple(x) -/
theorem to_LL (e : Ex F H) (s : F a = some (.lst xs)) (h : DqAll K F xs (l.map en)) (k : Ret M F H (fun F' _ v => Dq K F' v (eL en l)) Q) : ∃ p ys, [V.ref a] = [.ref p] ∧ (SqL K H p ys ∨ SqT K H p ys) ∧ ∀ l, H l = none → Q (.ref l) (upd H l (.lst ys)) :=
  ⟨a, xs, rfl, .inl (sq_of (e _ _ s)), fun p hp => by
    have g : Gm M F H (upd F p (.lst xs)) (upd H p (.lst xs)) := Gm.new e hp
    exact k _ _ _ g (.lst upd_same (h.up g.f))⟩
theorem to_LV (e : Ex F H) (s : SqT K F a xs) (h : DqAll K F xs (l.map en)) (k : Ret M F H (fun F' _ v => Dq K F' v (eL en l)) Q) : ∃ p ys, [V.ref a] = [.ref p] ∧ (SqL K H p ys ∨ SqT K H p ys) ∧ ∀ l, H l = none → Q (.ref l) (upd H l (.lst ys)) :=
  ⟨a, xs, rfl, .inr (ex_t e s), fun p hp => by
    have g : Gm M F H (upd F p (.lst xs)) (upd H p (.lst xs)) := Gm.new e hp
    exact k _ _ _ g (.lst upd_same (h.up g.f))⟩
theorem to_VL (e : Ex F H) (s : F a = some (.lst xs)) (h : DqAll K F xs (l.map en)) (k : Ret M F H (fun F' _ v => Dq K F' v (eV en l)) Q) :
    ∃ p ys, [V.ref a] = [.ref p] ∧ ((SqL K H p ys ∧ ∀ l, H l = none → Q (.ref l) (upd H l (.tup ys))) ∨ (SqT K H p ys ∧ Q (.ref p) H)) :=
  ⟨a, xs, rfl, .inl ⟨sq_of (e _ _ s), fun p hp => by
    have g : Gm M F H (upd F p (.tup xs)) (upd H p (.tup xs)) := Gm.new e hp
    exact k _ _ _ g (.tup (st_of upd_same) (h.up g.f))⟩⟩
theorem to_VV (e : Ex F H) (s : SqT K F a xs) (h : DqAll K F xs (l.map en)) (k : Ret M F H (fun F' _ v => Dq K F' v (eV en l)) Q) :
    ∃ p ys, [V.ref a] = [.ref p] ∧ ((SqL K H p ys ∧ ∀ l, H l = none → Q (.ref l) (upd H l (.tup ys))) ∨ (SqT K H p ys ∧ Q (.ref p) H)) :=
  ⟨a, xs, rfl, .inr ⟨ex_t e s, k _ _ _ (Gm.refl e) (.tup s h)⟩⟩
/-- of an own list -/
theorem to_VO (e : Ex F H) (o : H a = some (.lst xs)) (h : DqAll K F xs (l.map en)) (k : Ret M F H (fun F' _ v => Dq K F' v (eV en l)) Q) :
    ∃ p ys, [V.ref a] = [.ref p] ∧ ((SqL K H p ys ∧ ∀ l, H l = none → Q (.ref l) (upd H l (.tup ys))) ∨ (SqT K H p ys ∧ Q (.ref p) H)) :=
  ⟨a, xs, rfl, .inl ⟨sq_of o, fun p hp => by
    have g : Gm M F H (upd F p (.tup xs)) (upd H p (.tup xs)) := Gm.new e hp
    exact k _ _ _ g (.tup (st_of upd_same) (h.up g.f))⟩⟩
/-- a new own list -/
theorem new_own (e : Ex F H) (h : DqAll K F xs ds) (hl : xs.length ≤ 100000) (k : ∀ p H', Gm [] F H F H' → H p = none → (H' p = some (.lst xs) ∧ F p = none) → Q (.ref p) H') : xs.length ≤ sizeLine ∧ ∀ p, H p = none → Q (.ref p) (upd H p (.lst xs)) :=
  ⟨sz_of hl, fun p hp => k p _ (Gm.newM e hp) hp ⟨upd_same, by
    cases q : F p with
    | none => rfl
    | some u => rw [e p u q] at hp; cases hp⟩⟩
theorem own_sz (h : DqAll K F xs (l.map en)) (hl : l.length < 100000) : xs.length < sizeLine := sz_lt (by rw [h.len, List.length_map]; exact hl)
theorem RowAt.put {sc ra : Addr} {scr : List Int} {st : Rw} {o : HO} (w : RowAt K sc ra scr F H st) (h : ra ≠ p) : RowAt K sc ra scr F (upd H p o) st := ⟨by rw [upd_ne h]; exact w.1, w.2.1, w.2.2⟩
theorem RowAt.fix {sc ra : Addr} {scr : List Int} {st : Rw} {o : HO} (w : RowAt K sc ra scr F H st) (h : ra ≠ p) (u : Ex F (upd F p o)) : RowAt K sc ra scr (upd F p o) H st := ⟨w.1, by rw [upd_ne h]; exact w.2.1, ex_l u w.2.2⟩
end
section
variable {X : Cx}
theorem call_lenM : CallR X (.builtin "len") (fun xs H Q => ∃ p ys n, xs = [.ref p] ∧ (SqL X.K H p ys ∨ SqT X.K H p ys) ∧ (ys.length : Int) = n ∧ Q (.int n) H) := by
  intro pins s σ H vs us Q I r h
  obtain ⟨p, ys, n, rfl, hq, rfl, q⟩ := h
  exact call_len_seq pins s σ H _ us Q I r ⟨p, ys, rfl, hq, q⟩
theorem call_intM : CallR X (.type "int") (fun xs H Q => ∃ i, xs = [.int i] ∧ Q (.int i) H) := by
  intro pins s σ H vs us Q I r h
  exact call_int1 pins s σ H vs us Q I r (.inl h)
section
variable {α : Type} [DecidableEq α] {f : α → PyData} {n : Nat}
def hasM {α : Type} [DecidableEq α] (l : List α) (a : α) : Bool := l.contains a
def rInM (K : PySem.W.Frag) (f : α → PyData) : R2 := fun x y H Q => ∃ (a : α) (l : List α), Dp K H x (f a) ∧ Dp K H y (eL f l) ∧ Q (.bl (hasM l a)) H
def rNotInM (K : PySem.W.Frag) (f : α → PyData) : R2 := fun x y H Q => ∃ (a : α) (l : List α), Dp K H x (f a) ∧ Dp K H y (eL f l) ∧ Q (.bl (!hasM l a)) H
theorem any_eqv (s : Sh f n) (a : α) (l : List α) : (l.map f).any (fun z => PyData.eqv z (f a)) = l.contains a := by
  induction l with
  | nil => rfl
  | cons b l ih =>
    rw [List.map_cons, List.any_cons, ih, List.contains_cons, s.eq]
    congr 1
    exact Bool.eq_iff_iff.mpr (by simp only [decide_eq_true_eq, beq_iff_eq]; exact ⟨Eq.symm, Eq.symm⟩)
theorem op_inM (s : Sh f n) (hu : X.A.units + 65 < cLine) (hn : n + 1 ≤ 64 := by decide) : OpR X (compareOp .In) (rInM X.K f) := by
  intro pins st σ H x y v u Q I rx ry h
  obtain ⟨a, l, ha, hl, q⟩ := h
  refine op_inD hu pins st σ H x y v u Q I rx ry ⟨f a, l.map f, ha, hl, s.shaped (by omega) a, (sh_eL s).shaped hn l, ?_⟩
  rw [any_eqv s]
  exact q
theorem op_notInM (s : Sh f n) (hu : X.A.units + 65 < cLine) (hn : n + 1 ≤ 64 := by decide) : OpR X (compareOp .NotIn) (rNotInM X.K f) := by
  intro pins st σ H x y v u Q I rx ry h
  obtain ⟨a, l, ha, hl, q⟩ := h
  refine op_notInD hu pins st σ H x y v u Q I rx ry ⟨f a, l.map f, ha, hl, s.shaped (by omega) a, (sh_eL s).shaped hn l, ?_⟩
  rw [any_eqv s]
  exact q
end
end
end Wk

set_option Elab.async false
set_option linter.all false
set_option maxRecDepth 100000
set_option maxHeartbeats 4000000
namespace Wk
open PySem L2 Evl PySem.Spec PyProof.Rows
/-! ### enumerate of a tuple -/
theorem meets_enT (a : Addr) (its : Array Value) :
    Meets (Builtin.«enumerate.__new__» ⟨[.type "enumerate", .ref a], []⟩) (fun _ R z => z.heap.IsTuple a its ∧
      R (.ok (.ret (.ref (z.heap.push { cls := .type "tuple_iterator", data := .fields #[.ref a, .int 0 0] }).objs.size)))
        { z with heap := (z.heap.push { cls := .type "tuple_iterator", data := .fields #[.ref a, .int 0 0] }).push { cls := .type "enumerate", data := .fields #[.none, .bool false, .ref z.heap.objs.size, rawInt 0, .none, .none] } }) :=
  .of_wp fun prog w A R z h => by
    obtain ⟨hp, ge, dr, tk, os⟩ := z
    obtain ⟨ht, h⟩ := h
    have sub := sub_enumerate
    have ht' : Heap.IsTuple (Shared.heap ⟨hp, ge, dr, tk, os⟩) a its := ht
    obtain ⟨⟨c, dd, dt, sl⟩, hl, hc, n, hd⟩ := ht
    replace hc : c = .type "tuple" := hc
    replace hd : dt = .seq its n := hd
    subst hc hd
    wp_walk using AutoSeq1.wpAny_loadPart' hl
    refine wpAny_stack_any fun st => wpAny_pure ?_
    split
    · rename_i c _ _ _ _ _
      cases (c == Value.type "enumerate")
      all_goals
        wp_walk using AutoSeq1.wpAny_loadPart' hl, wpAny_pyIter_tuple ht'
        exact ⟨_, rfl, h⟩
    · wp_walk using AutoSeq1.wpAny_loadPart' hl, wpAny_pyIter_tuple ht'
      exact ⟨_, rfl, h⟩
section
variable {prog : Program} {w : World} {A : Around} {E : Value → Shared → Prop} {z : Shared}
theorem call_enT {a : Addr} {its : Array Value} {Q : Value → Shared → Prop} (ht : z.heap.IsTuple a its)
    (h : ∀ h', IsEnum h' (z.heap.objs.size + 1) z.heap.objs.size 0 .none → h'.IsTupleIter z.heap.objs.size a 0 → h'.objs.size = z.heap.objs.size + 2 →
      (∀ c o, z.heap.get? c = some o → h'.get? c = some o) → Q (.ref (z.heap.objs.size + 1)) { z with heap := h' }) :
    wpAny (model prog w) A (call (.type "enumerate") [.ref a]) Q E z := by
  refine callType_new F.called_enumerate (by decide) (F.typeCall_enumerate_1 _) (F.newCall_enumerate_1 _) (fun ob => F.args_object_init_2 ob _) F.entry_enumerate_new (meets_enT a its) ⟨ht, ?_⟩
  have sz : (z.heap.push { cls := .type "tuple_iterator", data := .fields #[.ref a, .int 0 0] }).objs.size = z.heap.objs.size + 1 := Heap.size_push ..
  show _ ∧ _
  rw [sz]
  have en : IsEnum ((z.heap.push { cls := .type "tuple_iterator", data := .fields #[.ref a, .int 0 0] }).push
      { cls := .type "enumerate", data := .fields #[.none, .bool false, .ref z.heap.objs.size, rawInt 0, .none, .none] }) (z.heap.objs.size + 1) z.heap.objs.size 0 .none := by
    have q := Heap.get?_push_size (z.heap.push { cls := .type "tuple_iterator", data := .fields #[.ref a, .int 0 0] })
      (o := { cls := .type "enumerate", data := .fields #[.none, .bool false, .ref z.heap.objs.size, rawInt 0, .none, .none] }) rfl
    rw [sz] at q
    exact q
  exact ⟨⟨_, en, rfl⟩, h _ en ⟨_, Heap.get?_push_of_some _ (Heap.get?_push_size _ rfl), rfl, rfl⟩ (by rw [Heap.size_push, sz]) fun c o x => Heap.get?_push_of_some _ (Heap.get?_push_of_some _ x)⟩
end
theorem end_enT {prog : Program} {w : World} {A : Around} {E : Value → Shared → Prop} {z : Shared} {e it a : Addr} {i : Nat} {its : Array Value} {old : Value} {Q : Option Value → Shared → Prop} (hh : A.handled = none)
    (he : IsEnum z.heap e it i old) (hit : z.heap.IsTupleIter it a i) (ht : z.heap.IsTuple a its) (hx : its[i]? = none)
    (hQ : ∀ h', Heap.ExtBut it z.heap h' → Q none { z with heap := h' }) : wpAny (model prog w) A (pyNext (.ref e)) Q E z := by
  have ty : z.TypeIs (.ref e) "enumerate" := ⟨_, he, rfl⟩
  unfold pyNext
  refine wpAny_bind (wpAny_attempt (wpAny_callSpecial?_slot (name := Str.ofString "__next__") ty F.slot_enumerate_next (wpAny_call_entry F.slot_enumerate_next ty F.entry_enumerate_next ?_ (F.args_enumerate_next_1 _))))
  show wpAny _ _ (field (.ref e) 2 >>= _) _ _ _
  refine wpAny_bind (wpAny_field he rfl (x := .ref it) rfl ?_)
  refine wpAny_bind (wpAny_nextOf_tuple_end hh hit ht hx fun h' x he' hx' => ?_)
  obtain ⟨o, ho, hc⟩ := hx'
  exact wpAny_bind (wpAny_isInstance (T := "StopIteration") (b := true) ⟨o, ho, hc⟩ isSubtype_stop (wpAny_pure (hQ _ he')))
/-- the tuple at a, each item in a new pair -/
def IteT (K : PySem.W.Frag) (a : Addr) : It :=
  ⟨fun i H => ∃ (xs : List V) (x : V), SqT K H a xs ∧ xs[i]? = some x, fun i H v H' => ∃ T x, v = .ref T ∧ H T = none ∧ H' = upd H T (.tup [.int (i : Nat), x]) ∧ ∀ xs, SqT K H a xs → xs[i]? = some x, fun i H => ∃ xs : List V, SqT K H a xs ∧ xs.length ≤ i⟩
theorem turn_enT {P : Program} {w : World} {K : PySem.W.Frag} {es : List Expr} {kk : Nat} {tp : Pos} (a e it : Addr) (hai : a ≠ it) :
    Turn P w K (.Tuple es kk tp) (IteT K a) [e, it] e (fun i h => (∃ old, IsEnum h e it ((i : Nat) : Int) old) ∧ h.IsTupleIter it a i ∧ e ≠ it) where
  mem := by simp
  obj := fun i h st b hb => by
    obtain ⟨⟨old, he⟩, ⟨o, ho, hc, hd⟩, _⟩ := st
    rcases (show b = e ∨ b = it by simpa using hb) with q | q
    · rw [q]
      exact ⟨_, he, fun v q => nomatch q⟩
    · rw [q]
      exact ⟨o, ho, fun v q => by rw [hd] at q; cases q⟩
  keep := fun i h h' st k => by
    obtain ⟨⟨old, he⟩, hi, hne⟩ := st
    exact ⟨⟨old, k e (by simp) _ he⟩, hi.at fun o q => k it (by simp) o q, hne⟩
  item := by
    intro X hP hw hK hc i pins s σ H E I hf st hg
    subst hP hw hK
    obtain ⟨⟨old, he⟩, hit, hne⟩ := st
    obtain ⟨xs, x, hq, hx⟩ := hg
    obtain ⟨its, rv, p, hz⟩ := I.tuple hq
    obtain ⟨u, hu, ru⟩ := rv.get hx
    have le : e < s.heap.objs.size := Heap.lt_size he
    have li : it < s.heap.objs.size := by
      obtain ⟨_, q, _⟩ := hit
      exact Heap.lt_size q
    have pT : s.heap.IsTuple a its.toArray := p
    have D := (Draws.tuple (prog := X.prog) (w := X.w) (A := X.A.in1) (show X.A.in1.handled = none from I.ok.hd hc) it a hai its.toArray)
    have hi : i < its.toArray.size := by
      have := (List.getElem?_eq_some_iff.mp hu).1
      simpa using this
    have hnm : e ∉ [it, a] := fun hm => by
      rcases (show e = it ∨ e = a by simpa using hm) with q | q
      · exact hne q
      · obtain ⟨o1, q1, c1, _⟩ := pT
        rw [← q, he] at q1
        cases q1
        exact nomatch (show Value.type "enumerate" = Value.type "tuple" from c1) 
    refine wpAny_pyNext_enum_itemD D he ⟨hit, pT⟩ hi hne hnm fun y h' tk hy ho ht' hT hsz hk => ?_
    · have ey : u = y := by
        have hu' : its.toArray[i]? = some u := by simpa using hu
        rw [hy] at hu'
        exact (Option.some.inj hu').symm
      subst ey
      obtain ⟨hit', _⟩ := ht'
      refine ⟨_, rfl, wpAny_letOwnedTupleGo_enum (s := { s with heap := h', toks := tk + 1 }) ho fun h'' he' sb => ?_⟩
      have hT2 : h''.get? s.heap.objs.size = some { cls := .type "tuple", data := .seq #[.int i tk, u] } := (sb.2 _ (Nat.ne_of_gt le)).trans hT
      have new : ObjOk X.prog X.w (upd H s.heap.objs.size (.tup [.int (i : Nat), x])) h'' s.heap.objs.size (.tup [.int (i : Nat), x]) :=
        ⟨by show 2 ≤ sizeLine; decide, [.int i tk, u], .cons ⟨_, rfl⟩ (.cons ru .nil), ⟨_, hT2, rfl, _, rfl⟩⟩
      have J : Inv X pins σ (upd H s.heap.objs.size (.tup [.int (i : Nat), x])) { s with heap := h'', toks := tk + 1 } :=
        I.turnedNew (ch := [e, it]) (fun b ob hb q => (sb.2 b (fun q2 => hb (by simp [q2]))).trans (hk b ob (fun q2 => hb (by simp [q2])) (fun q2 => hb (by simp [q2])) q)) hf (Nat.le_refl _) new
      refine ⟨.ref s.heap.objs.size, _, J, rfl, ⟨_, x, rfl, I.hok.fresh (Nat.le_refl _), rfl, fun ys hy => by rw [I.tuple_inj hy hq]; exact hx⟩, ⟨⟨u, ?_⟩, hit'.at fun o q => (sb.2 it (Ne.symm hne)).trans q, hne⟩, fun b hb => ?_⟩
      · have e1 : ((i + 1 : Nat) : Int) = (i : Int) + 1 := by omega
        rw [e1]
        exact he'
      · have lb : b < s.heap.objs.size := by
          rcases (show b = e ∨ b = it by simpa using hb) with q | q
          · rw [q]; exact le
          · rw [q]; exact li
        rw [upd_ne (Nat.ne_of_lt lb)]
        exact (hf b hb).1
  done := by
    intro X hP hw hK hc i pins s σ H E I hf st hg
    subst hP hw hK
    obtain ⟨⟨old, he⟩, hit, hne⟩ := st
    obtain ⟨xs, hq, hx⟩ := hg
    obtain ⟨its, rv, p, hz⟩ := I.tuple hq
    obtain ⟨f0, f1, f2, f3, f4, f5⟩ := hf it (by simp)
    have hl := rv.length
    have pT : s.heap.IsTuple a its.toArray := p
    refine end_enT (I.ok.hd hc) he hit pT (by simp; omega) fun h' eb => ⟨rfl, I.turned (t' := s.toks) (fun b o hb q => eb b o hb q) f0 f1 f3 f4 f5⟩
  self := fun A i s Q E st h => by
    obtain ⟨⟨_, he⟩, _⟩ := st
    exact wpAny_pyIter_enum he h
def iEnT (K : PySem.W.Frag) (ta : TA) : TI := fun σ H R => ta σ H fun vs H1 => ∃ a xs, vs = [.ref a] ∧ SqT K H1 a xs ∧ R (IteT K a) H1
theorem pi_enumT {X : Cx} {e : Expr} {ta : TA} {p pos tp : Pos} {es : List Expr} {kk : Nat} (hg : Gl X "enumerate") (hm : X.mg "enumerate" = none) (ha : PA X [e] ta) (hs : starEach [e] X.env = [(false, eval e X.env)] := by rfl) :
    PI X (.Tuple es kk tp) (.Call (.Name "enumerate" p) [e] [] pos) (iEnT X.K ta) := by
  refine ⟨fun pins s σ H R I h => ?_⟩
  refine Call_ (ld_blt I hg hm boot_enumerate (PyProof.Rows.callWith_type1 (thn (ha.run pos pins s σ H _ I h) fun us s1 hh => ?_) hs rfl))
  obtain ⟨vs, H1, I1, r1, a, xs, ex, hq, q⟩ := hh
  subst ex
  cases r1 with
  | cons r rr =>
    cases rr
    cases r
    obtain ⟨its, rv, p', hz⟩ := I1.tuple hq
    have pT : s1.heap.IsTuple a its.toArray := p'
    have la : a < s1.heap.objs.size := by
      obtain ⟨o, q, _⟩ := pT
      exact Heap.lt_size q
    refine call_enT pT fun h' he hit hsz hk => wpAny_pyIter_enum he ?_
    have I2 : Inv X pins σ H1 { s1 with heap := h' } := I1.kept (t' := s1.toks) hk
    refine ⟨s1.heap.objs.size + 1, [s1.heap.objs.size + 1, s1.heap.objs.size], _, _, H1, rfl, I2, turn_enT a (s1.heap.objs.size + 1) s1.heap.objs.size (Nat.ne_of_lt la), ⟨⟨.none, he⟩, hit, Nat.succ_ne_self _⟩, fun b hb => ?_, q⟩
    have hle : s1.heap.objs.size ≤ b := by
      rcases (show b = s1.heap.objs.size + 1 ∨ b = s1.heap.objs.size by simpa using hb) with z | z
      · rw [z]; exact Nat.le_succ _
      · rw [z]; exact Nat.le_refl _
    exact I1.fpOk hle (I1.hok.fresh hle)
section
variable {K : PySem.W.Frag} {M : List Addr} {F H : Hp} {α : Type} {xs : List V} {l : List α} {en : α → PyData} {a : Addr}
theorem wlk_enumT (e : Ex F H) (h : SqT K F a xs) (da : DqAll K F xs (l.map en)) : Wlk M F H (IteT K a) (enumL l) (fun F v x => Dq K F v (e2 PyData.int en x)) := by
  have hl : xs.length = l.length := by rw [da.len, List.length_map]
  refine ⟨xs.length, fun H => SqT K H a xs, YPair (fun i => some (.int (i : Nat))) (fun i => xs[i]?), ⟨fun i _ hi q => ⟨xs, xs[i], q, by simp [hi]⟩, fun _ q => ⟨xs, q, Nat.le_refl _⟩, fun i H v H' _ q y => ?_⟩, by simp [enumL, rangeL, hl], fun F' H' g' => ex_t g'.s (ex_t g'.f h), fun i x v F' H' H'' g' hx y => ?_⟩
  · obtain ⟨T, x, h1, h2, h3, h4⟩ := y
    exact ⟨T, .int (i : Nat), x, h1, h2, h3, rfl, h4 xs q⟩
  · obtain ⟨T, u, w, rfl, hT, rfl, h1, h2⟩ := y
    obtain ⟨d, hd, hq⟩ := (da.up g'.f).getV h2
    obtain ⟨x1, x2⟩ := x
    unfold enumL at hx
    rw [List.getElem?_zip_eq_some] at hx
    obtain ⟨hx1, hx2⟩ := hx
    have e1 := rangeL_at hx1
    simp only at e1 hx2
    rw [List.getElem?_map, hx2] at hd
    cases hd
    cases h1
    have g2 : Gm [] F' H' (upd F' T (.tup [V.int (i : Nat), w])) (upd H' T (.tup [V.int (i : Nat), w])) := Gm.new g'.s hT
    refine ⟨_, g2, .tup (st_of upd_same) (.cons ?_ (.cons (hq.up g2.f) .nil))⟩
    rw [e1, Int.zero_add]
    exact .int _
end
end Wk

set_option Elab.async false
set_option linter.all false
set_option maxRecDepth 100000
set_option maxHeartbeats 4000000
namespace Wk
open PySem L2 Evl PySem.Spec PyProof.Rows
/-! ### set(a list of ints), sorted -/
abbrev emS (w : World) : Obj := { cls := .type "set", dict := none, data := .set #[] 0 (.fresh 0 0 (!w.params.followText "set-order")) }
section
variable {P : Program} {w : World} {A : Around} {E : Value → Shared → Prop} {z : Shared}
theorem call_set_li {u : Addr} {its : Array Value} (ks : List Int) {Q : Value → Shared → Prop} (hh : A.handled = none) (hl : z.heap.IsList u its) (hit : IntsAre its.toList ks) (hb : ks.length + 1 < scanBound)
    (h : ∀ (h' : Heap) (tk c : Nat), SetR w h' z.heap.objs.size (fun j => decide (j ∈ ks)) c → c ≤ ks.length → (∀ b o, z.heap.get? b = some o → h'.get? b = some o) → Q (.ref z.heap.objs.size) { z with heap := h', toks := tk }) :
    wpAny (model P w) A (call (.type "set") [.ref u]) Q E z := by
  have sz : its.size = ks.length := by
    have q := IntsAre.length hit
    rwa [Array.length_toList] at q
  obtain ⟨c, tl, hmro⟩ := F.called_set.mro
  have made := F.called_set.made
  have sub := F.called_set.sub
  refine wpAny_call (codeAny_of_tree ?_); (show wpAny _ _ (callAny (.type "set") _) _ _ _)
  refine wpAny_pure ⟨Code.quiet_builtin _ (by decide +kernel), codeAny_builtin F.entry_type_call ?_⟩; rw [Around.under_plain (weight_type_call_type "set" [.ref u] []) rfl]
  have n1 := F.called_set.notType
  have n2 := F.called_set.canCreate
  have n3 := F.typeCall_set_1 (.ref u)
  repeat (any_goals (first | assumption | wp_step))
  refine codeAny_mono (code_set_led1 (.ref u) (E := E) (Q₁ := fun ob z1 => ob = .ref z.heap.objs.size ∧ z1 = { z with heap := z.heap.push (emS w) }) ⟨rfl, rfl⟩) fun r z1 hr => ?_
  cases r with
  | error e => exact hr
  | ok fl =>
    cases fl with
    | ret ob =>
      obtain ⟨rfl, rfl⟩ := hr
      have atS : (z.heap.push (emS w)).get? z.heap.objs.size = some (emS w) := Heap.get?_push_size _ rfl
      have tyS : Shared.TypeIs { z with heap := z.heap.push (emS w) } (.ref z.heap.objs.size) "set" := ⟨_, atS, rfl⟩
      have i1 := F.called_set.init.lookup
      have i2 := F.called_set.init.bind (.ref z.heap.objs.size)
      repeat (any_goals (first | assumption | wp_step))
      refine codeAny_mono (codeAny_call_builtin (R := wants (fun r z2 => r = .none ∧ ∃ h' tk c, z2 = { z with heap := h', toks := tk } ∧ SetR w h' z.heap.objs.size (fun j => decide (j ∈ ks)) c ∧ c ≤ ks.length ∧
          (∀ b o, z.heap.get? b = some o → h'.get? b = some o)) E) F.called_set.init.plain F.entry_set_init (check_set_init_1 tyS ?_)) fun r2 z2 hr2 => ?_
      · obtain ⟨ol, hol, hcl, nl, hdl⟩ := hl
        obtain ⟨oc, od, dt, sl⟩ := ol
        simp only at hcl hdl
        subst hcl
        subst hdl
        have atU : (z.heap.push (emS w)).get? u = some { cls := .type "list", dict := od, data := .seq its nl, slots := sl } := Heap.get?_push_of_some _ hol
        have no1 := F.sub_list_set
        have no2 := F.sub_list_frozenset
        have no3 : (Value.type "list" == Value.type "dict") = false := by decide
        have isl : (z.heap.push (emS w)).IsList u its := ⟨_, atU, rfl, nl, rfl⟩
        unfold Builtin.«set.__init__» noKeywords Builtin.Frozenset.updateFrom
        generalize hPI : pyIter = pI
        wp_walk
        subst hPI
        refine wpAny_pyIter_list isl ?_
        refine wpAny_bind (wpAny_runValue ?_)
        have lu : u < z.heap.objs.size := Heap.lt_size hol
        have h3 : A.in1.in1.in1.handled = none := by simp [hh]
        have ux : u ≠ (z.heap.push (emS w)).objs.size := by rw [Heap.size_push]; exact Nat.ne_of_lt (Nat.lt_succ_of_lt lu)
        have nf : z.heap.objs.size ∉ [(z.heap.push (emS w)).objs.size, u] := by
          rw [Heap.size_push]
          simp only [List.mem_cons, List.mem_singleton, List.not_mem_nil, or_false, not_or]
          exact ⟨Nat.ne_of_lt (Nat.lt_succ_self _), Nat.ne_of_gt lu⟩
        have val : ∀ (i : Nat) (v : Value), its[i]? = some v → ∃ k t, ks[i]? = some k ∧ v = .int k t := fun i v hv => by
          have hi : i < ks.length := by rw [← sz]; exact (Array.getElem?_eq_some_iff.mp hv).1
          obtain ⟨t, e⟩ := PyProof.Rows.IntsAre.int_at hit i v (by rw [Array.getElem?_toList]; exact hv)
          refine ⟨ks[i], t, List.getElem?_eq_getElem hi, ?_⟩
          rw [e, List.getD_eq_getElem?_getD, List.getElem?_eq_getElem hi]
          all_goals rfl
        refine set_update_ints ((Walks.list h3 _ u ux its).toS) z.heap.objs.size nf ks sz hb val (its.size - 0) 0 _ (by omega) (Nat.zero_le _) ⟨⟨_, Heap.get?_push_size _ rfl, rfl, rfl⟩, (isl.push _)⟩ ?a0 ?a1
        case a0 =>
          have q : ((z.heap.push (emS w)).push { cls := .type "list_iterator", data := .fields #[.ref u, .int 0 0] }).get? z.heap.objs.size = some (emS w) := Heap.get?_push_of_some _ atS
          exact ⟨0, Nat.le_refl 0, setR_new_at q⟩
        case a1 =>
          intro z3 c' hm hc' hS'
          obtain ⟨h', g2, d', tk', os'⟩ := z3
          have eg : g2 = z.gens := hm.gens
          have ed : d' = z.drawn := hm.drawn
          have eo : os' = z.os := hm.os
          subst eg; subst ed; subst eo
          (show wpAny _ _ _ _ _ _); refine wpAny_pure ?_
          show wpAny _ _ (ret Value.none) _ _ _
          rw [sz] at hc'
          refine wpAny_pure ⟨rfl, h', tk', c', rfl, hS', hc', fun b o e => ?_⟩
          have b0 : b < z.heap.objs.size := Heap.lt_size e
          have b2 : b ≠ (z.heap.push (emS w)).objs.size := by rw [Heap.size_push]; exact Nat.ne_of_lt (Nat.lt_succ_of_lt b0)
          exact hm.heap b o (by simp only [List.mem_cons, List.mem_singleton, List.not_mem_nil, or_false, not_or]; exact ⟨Nat.ne_of_lt b0, b2⟩) (Heap.get?_push_of_some _ (Heap.get?_push_of_some _ e))
      · cases r2 with
        | error e => exact hr2
        | ok f2 => cases f2 with
          | ret r =>
            obtain ⟨rfl, h', tk, c', rfl, hS', hc', hk'⟩ := hr2
            repeat (any_goals (first | assumption | wp_step))
            exact h h' tk c' hS' hc' hk'
          | _ => exact False.elim hr2
    | _ => exact False.elim hr
end
end Wk

set_option Elab.async false
set_option linter.all false
set_option maxRecDepth 100000
set_option maxHeartbeats 4000000
namespace Wk
open PySem L2 Evl PySem.Spec PyProof.Rows
section
variable {X : Cx}
/-- set(a list of ints) -/
def rSetM (w : World) (K : PySem.W.Frag) : List V → Hp → VK → Prop := fun vs H Q => ∃ (a : Addr) (ns : List Int), vs = [.ref a] ∧ SqL K H a (ns.map V.int) ∧ ns.length < 64 ∧
  ∀ p c, H p = none → c ≤ ns.length → Q (.ref p) (upd H p (SetO w p (fun j => decide (j ∈ ns)) c))
theorem cr_setM (hcalm : X.calm = true) : CallR X (.type "set") (rSetM X.w X.K) := by
  intro pins s σ H vs us Q I r h
  obtain ⟨a, ns, rfl, hq, h64, q⟩ := h
  cases r with
  | cons r rr =>
    cases rr
    cases r
    obtain ⟨its, rv, pl, hz⟩ := I.list hq
    refine call_set_li ns (I.ok.hd hcalm) pl.isList (by simpa using rv.ints) (by unfold scanBound; omega) fun h' tk c hS hc hk => ?_
    have J : Inv X pins σ (upd H s.heap.objs.size (SetO X.w s.heap.objs.size (fun j => decide (j ∈ ns)) c)) { s with heap := h', toks := tk } := I.laid hk (Nat.le_refl _) (setO_new hS)
    exact ⟨.ref s.heap.objs.size, _, J, rfl, q _ c (I.hok.fresh (Nat.le_refl _)) hc⟩
end
/-! ### a sorted set -/
def insU (x : Int) : List Int → List Int
  | [] => [x]
  | y :: l => if x < y then x :: y :: l else if x = y then y :: l else y :: insU x l
def sortedSet (l : List Int) : List Int := l.foldr insU []
theorem mem_insU (x k : Int) : ∀ l, k ∈ insU x l ↔ k = x ∨ k ∈ l
  | [] => by simp [insU]
  | y :: l => by
    unfold insU
    split
    · simp
    · split
      · rename_i h
        subst h
        simp
      · simp only [List.mem_cons, mem_insU x k l]
        constructor
        · rintro (h | h | h)
          · exact .inr (.inl h)
          · exact .inl h
          · exact .inr (.inr h)
        · rintro (h | h | h)
          · exact .inr (.inl h)
          · exact .inl h
          · exact .inr (.inr h)
theorem asc_insU (x : Int) : ∀ l : List Int, l.Pairwise (· < ·) → (insU x l).Pairwise (· < ·)
  | [], _ => by simp [insU]
  | y :: l, h => by
    obtain ⟨h1, h2⟩ := List.pairwise_cons.mp h
    unfold insU
    split
    · rename_i q
      refine List.pairwise_cons.mpr ⟨fun a ha => ?_, h⟩
      rcases List.mem_cons.mp ha with e | e
      · rw [e]; exact q
      · exact Int.lt_trans q (h1 a e)
    · split
      · exact h
      · refine List.pairwise_cons.mpr ⟨fun a ha => ?_, asc_insU x l h2⟩
        rcases (mem_insU x a l).mp ha with e | e
        · rw [e]; omega
        · exact h1 a e
theorem mem_sortedSet (k : Int) : ∀ l : List Int, k ∈ sortedSet l ↔ k ∈ l
  | [] => by simp [sortedSet]
  | x :: l => by
    show k ∈ insU x (sortedSet l) ↔ _
    rw [mem_insU, mem_sortedSet k l, List.mem_cons]
theorem asc_sortedSet : ∀ l : List Int, (sortedSet l).Pairwise (· < ·)
  | [] => List.Pairwise.nil
  | x :: l => asc_insU x _ (asc_sortedSet l)
/-- two ascending lists of the same members are one -/
theorem asc_unique : ∀ l r : List Int, l.Pairwise (· < ·) → r.Pairwise (· < ·) → (∀ k, k ∈ l ↔ k ∈ r) → l = r
  | [], [], _, _, _ => rfl
  | [], y :: r, _, _, h => absurd ((h y).mpr (List.mem_cons_self ..)) (by simp)
  | x :: l, [], _, _, h => absurd ((h x).mp (List.mem_cons_self ..)) (by simp)
  | x :: l, y :: r, hl, hr, h => by
    obtain ⟨l1, l2⟩ := List.pairwise_cons.mp hl
    obtain ⟨r1, r2⟩ := List.pairwise_cons.mp hr
    have e : x = y := by
      have hx : x = y ∨ x ∈ r := List.mem_cons.mp ((h x).mp (List.mem_cons_self ..))
      have hy : y = x ∨ y ∈ l := List.mem_cons.mp ((h y).mpr (List.mem_cons_self ..))
      rcases hx with q | q
      · exact q
      · rcases hy with q' | q'
        · exact q'.symm
        · have := r1 x q
          have := l1 y q'
          omega
    subst e
    rw [asc_unique l r l2 r2 fun k => ?_]
    constructor
    · intro hk
      rcases List.mem_cons.mp ((h k).mp (List.mem_cons_of_mem _ hk)) with q | q
      · have := l1 k hk
        omega
      · exact q
    · intro hk
      rcases List.mem_cons.mp ((h k).mpr (List.mem_cons_of_mem _ hk)) with q | q
      · have := r1 k hk
        omega
      · exact q
section
variable {K : PySem.W.Frag} {M : List Addr} {F H : Hp} {Q : VK} {w : World} {a : Addr} {l : List Int}
theorem sorted_set (e : Ex F H) (s : F a = some (.lst (l.map V.int))) (hl : l.length < 64) (k : Ret M F H (fun F' _ v => Dq K F' v (eL PyData.int (sortedSet l))) Q) :
    ∃ (a' : Addr) (ns : List Int), [V.ref a] = [.ref a'] ∧ SqL K H a' (ns.map V.int) ∧ ns.length < 64 ∧ ∀ p c, H p = none → c ≤ ns.length → rSortedSet w [.ref p] (upd H p (SetO w p (fun j => decide (j ∈ ns)) c)) Q := by
  refine ⟨a, l, rfl, sq_of (e _ _ s), hl, fun p c hp hc => ⟨p, _, c, rfl, upd_same, by omega, fun ns q asc mem _ hq => ?_⟩⟩
  have g1 : Gm M F H (upd F p (SetO w p (fun j => decide (j ∈ l)) c)) (upd H p (SetO w p (fun j => decide (j ∈ l)) c)) := Gm.new e hp
  have g2 : Gm M (upd F p (SetO w p (fun j => decide (j ∈ l)) c)) (upd H p (SetO w p (fun j => decide (j ∈ l)) c)) _ _ := Gm.new (o := .lst (ns.map V.int)) g1.s hq
  have en : ns = sortedSet l := asc_unique ns _ asc (asc_sortedSet l) fun j => by
    rw [mem, mem_sortedSet]
    simp
  refine k _ _ _ (g1.trans g2) ?_
  rw [← en]
  exact .lst upd_same (ints_all ns)
end
end Wk

set_option Elab.async false
set_option linter.all false
set_option maxRecDepth 100000
set_option maxHeartbeats 1000000
namespace Wk
open PySem L2 Evl
theorem Gm.youngs {F0 H0 : Hp} {M : List Addr} {F H F1 H1 : Hp} (ps : List Addr) (g : Gm M F0 H0 F H) (h0 : ∀ p ∈ ps, H0 p = none) (g2 : Gm (ps ++ M) F H F1 H1) : Gm M F0 H0 F1 H1 :=
  ⟨g.f.trans g2.f, g2.s, fun a o hM h => g2.h a o (fun q => by
      rcases List.mem_append.mp q with q | q
      · rw [h0 a q] at h; cases h
      · exact hM q) (g.h a o hM h), fun a o h hn => by
    obtain ⟨o', h'⟩ := g.m a o h
    exact g2.n a o' h' (g.n a o h hn), fun a o h => by
    obtain ⟨o', h'⟩ := g.m a o h
    exact g2.m a o' h'⟩
/-! ### a draw -/
def seedN (s c : Int) : Int := (s * 48271 + c + 11) % 2147483647
def takenA (scr : List Int) (st : Rw) (many : Int) : Mm (Int × Rw) :=
  if 0 < many ∧ many < 1073741824 ∧ 0 ≤ st.seed ∧ st.seed < 2147483647 ∧ 0 ≤ st.pos ∧ st.pos < 1000000 then
    if st.left > 0 then .ok (st.left % many, ⟨st.pos, st.seed, st.left / many⟩)
    else match scr[st.pos.toNat]? with
      | none => .ok ((seedN st.seed 0 / 7) % many, ⟨st.pos + 1, seedN st.seed 0, st.left⟩)
      | some c => .ok (c % many, ⟨st.pos + 1, seedN st.seed c, if c ≥ 10 ^ 18 then c / many else 0⟩)
  else .bad
def takenB (scr : List Int) (st : Rw) (many : Int) : Mm (Int × Rw) :=
  if 0 < many ∧ many < 1073741824 ∧ 0 ≤ st.seed ∧ st.seed < 2147483647 ∧ 0 ≤ st.pos ∧ st.pos < 1000000 then
    if st.left > 0 then .ok (st.left % many, ⟨st.pos, st.seed, st.left / many⟩)
    else match scr[st.pos.toNat]? with
      | none => .ok ((seedN st.seed 0 / 7) % many, ⟨st.pos + 1, seedN st.seed 0, st.left⟩)
      | some c => .ok (c % many, ⟨st.pos + 1, seedN st.seed c, if c ≥ 10 ^ 18 then c / many else st.left⟩)
  else .bad
def spTaken (tk : List Int → Rw → Int → Mm (Int × Rw)) (K : PySem.W.Frag) : Sp := fun vs H Q _ => ∃ (F : Hp) (sc ra : Addr) (scr : List Int) (st : Rw) (many : Int), vs = [.ref ra, .int many] ∧ Ex F H ∧ RowAt K sc ra scr F H st ∧
  Post (tk scr st many) (fun r => Ret [ra] F H (fun F' H' v => v = .int r.1 ∧ RowAt K sc ra scr F' H' r.2) Q) (fun _ => False)
theorem iteP {c : Bool} {A B : Prop} (h : c = true) (a : A) : if c = true then A else B := by rw [if_pos h]; exact a
theorem iteN {c : Bool} {A B : Prop} (h : c = false) (b : B) : if c = true then A else B := by rw [h, if_neg Bool.false_ne_true]; exact b
theorem cmul_small {i j : Int} (h : i.natAbs < 2 ^ 62) (h' : j.natAbs < 2 ^ 62) : CMulW i j := wide_mul h h' (by decide) (by decide) (by decide)
theorem fmod_pos {i j : Int} (h : 0 < j) : i.fmod j = i % j := Int.fmod_eq_emod_of_nonneg _ (Int.le_of_lt h)
theorem fdiv_pos {i j : Int} (h : 0 < j) : i.fdiv j = i / j := Int.fdiv_eq_ediv_of_nonneg _ (Int.le_of_lt h)
/-- pick one of a list -/
def pickM {α : Type} (tk : List Int → Rw → Int → Mm (Int × Rw)) (scr : List Int) (st : Rw) (l : List α) : Mm (α × Rw) := (tk scr st (l.length : Int)).bd fun b => (getM l b.1).bd fun a => .ok (a, b.2)
def spPick (tk : List Int → Rw → Int → Mm (Int × Rw)) (K : PySem.W.Frag) : Sp := fun vs H Q _ => ∃ (F : Hp) (sc ra : Addr) (scr : List Int) (st : Rw) (α : Type) (en : α → PyData) (v : V) (l : List α), vs = [.ref ra, v] ∧ Ex F H ∧ RowAt K sc ra scr F H st ∧ Dq K F v (eL en l) ∧
  Post (pickM tk scr st l) (fun r => Ret [ra] F H (fun F' H' v => Dq K F' v (en r.1) ∧ RowAt K sc ra scr F' H' r.2) Q) (fun _ => False)
end Wk

set_option Elab.async false
set_option linter.all false
set_option maxRecDepth 100000
set_option maxHeartbeats 1000000
namespace Wk
open PySem L2 Evl
theorem notM_nil {H : Hp} : ∀ D, H D = none → D ∉ ([] : List Addr) := fun _ _ => by simp
theorem notM_cons {H : Hp} {p : Addr} {o : HO} {M : List Addr} (h : H p = some o) (k : ∀ D, H D = none → D ∉ M) : ∀ D, H D = none → D ∉ p :: M := fun D hD q => by
  rcases List.mem_cons.mp q with q | q
  · rw [q, h] at hD; cases hD
  · exact k D hD q
/-! ### own lists whose place is open -/
section
variable {M ps : List Addr} {F0 H0 F H F1 H1 : Hp} {p : Addr} {o u : HO}
theorem Gm.putOr (g : Gm M F0 H0 F H) (y : p ∈ M ∨ H0 p = none) (h : H p = some u) (hf : F p = none) : Gm M F0 H0 F (upd H p o) := by
  rcases y with y | y
  · exact g.putIn y h hf
  · exact g.putYoung h hf y
theorem Gm.outs (ps : List Addr) (hy : ∀ p ∈ ps, p ∈ M ∨ H0 p = none) (g : Gm M F0 H0 F H) (g2 : Gm (ps ++ M) F H F1 H1) : Gm M F0 H0 F1 H1 :=
  ⟨g.f.trans g2.f, g2.s, fun a o hM h => g2.h a o (fun q => by
      rcases List.mem_append.mp q with q | q
      · rcases hy a q with z | z
        · exact hM z
        · rw [z] at h; cases h
      · exact hM q) (g.h a o hM h), fun a o h hn => by
    obtain ⟨o', h'⟩ := g.m a o h
    exact g2.n a o' h' (g.n a o h hn), fun a o h => by
    obtain ⟨o', h'⟩ := g.m a o h
    exact g2.m a o' h'⟩
theorem out_y (hy : ∀ p ∈ ps, p ∈ M ∨ H0 p = none) (g : Gm M F0 H0 F H) (y : p ∈ ps ++ M ∨ H p = none) : p ∈ M ∨ H0 p = none := by
  rcases y with y | y
  · rcases List.mem_append.mp y with q | q
    · exact hy p q
    · exact .inl q
  · exact .inr (g.fresh y)
theorem y_ra {ra : Addr} (y : p ∈ [ra] ∨ H0 p = none) (n : ra ≠ p) : H0 p = none := by
  rcases y with y | y
  · exact absurd (List.mem_singleton.mp y).symm n
  · exact y
theorem y_no (y : p ∈ ([] : List Addr) ∨ H0 p = none) : H0 p = none := by
  rcases y with y | y
  · cases y
  · exact y
end
section
variable {K : PySem.W.Frag} {F H : Hp} {Q : VK} {xs ys : List V} {α : Type} {en : α → PyData} {l l' : List α} {a b : Addr}
theorem own_of (e : Ex F H) (k : ∀ p H', Gm [] F H F H' → H p = none → (H' p = some (.lst xs) ∧ F p = none) → Q (.ref p) H') : ∀ p, H p = none → Q (.ref p) (upd H p (.lst xs)) := fun p hp => k p _ (Gm.newM e hp) hp ⟨upd_same, by
    cases q : F p with
    | none => rfl
    | some u => rw [e p u q] at hp; cases hp⟩
/-- list(x) that may change -/
theorem to_own (e : Ex F H) (s : SqL K H a xs ∨ SqT K H a xs) (k : ∀ p H', Gm [] F H F H' → H p = none → (H' p = some (.lst xs) ∧ F p = none) → Q (.ref p) H') : ∃ p ys, [V.ref a] = [.ref p] ∧ (SqL K H p ys ∨ SqT K H p ys) ∧ ∀ l, H l = none → Q (.ref l) (upd H l (.lst ys)) :=
  ⟨a, xs, rfl, s, own_of e k⟩
end
/-! ### isinstance of an int -/
section
variable {X : Cx}
theorem call_isiI : CallR X (.builtin "isinstance") (fun xs H Q => ∃ (i : Int) (n : String) (b : Bool), xs = [.int i, .ty n] ∧ ((n = "int" ∧ b = true) ∨ (n = "bool" ∧ b = false)) ∧ Q (.bl b) H) := by
  intro pins s σ H vs us Q I r h
  obtain ⟨i, n, b, rfl, hn, q⟩ := h
  rcases hn with ⟨rfl, rfl⟩ | ⟨rfl, rfl⟩
  · exact call_isi pins s σ H _ us Q I r ⟨_, _, _, _, true, rfl, .ty _, .base (.int i), kit_ty (by decide +kernel), q⟩
  · exact call_isi pins s σ H _ us Q I r ⟨_, _, _, _, false, rfl, .ty _, .base (.int i), kit_ty (by decide +kernel), q⟩
end
/-! ### tuples of unlike items, empty or not -/
section
variable {K : PySem.W.Frag} {M : List Addr} {F H : Hp} {Q : VK} {α β : Type} {en : α → PyData} {en' : β → PyData} {l : List α} {l' : List β} {xs ys : List V} {a b : Addr}
theorem cat_tupD (e : Ex F H) (s : SqT K F a xs) (h : DqAll K F xs (l.map en)) (s' : SqT K F b ys) (h' : DqAll K F ys (l'.map en')) (hl : l.length + l'.length ≤ 100000) (k : Ret M F H (fun F' _ v => Dq K F' v (.tuple (l.map en ++ l'.map en'))) Q) : rCatM K (.ref a) (.ref b) H Q := by
  have n1 : xs.length = l.length := by rw [h.len, List.length_map]
  have n2 : ys.length = l'.length := by rw [h'.len, List.length_map]
  refine ⟨a, b, xs, ys, rfl, rfl, ex_t e s, ex_t e s', sz_of (by omega), fun q => ?_, fun _ q => ?_, fun _ _ p hp => ?_⟩
  · subst q
    have hl0 : l = [] := List.length_eq_zero_iff.mp n1.symm
    exact k _ _ _ (Gm.refl e) (by rw [hl0]; exact .tup s' h')
  · subst q
    have hl0 : l' = [] := List.length_eq_zero_iff.mp n2.symm
    exact k _ _ _ (Gm.refl e) (by rw [hl0, List.map_nil, List.append_nil]; exact .tup s h)
  · have g : Gm M F H (upd F p (.tup (xs ++ ys))) (upd H p (.tup (xs ++ ys))) := Gm.new e hp
    exact k _ _ _ g (.tup (st_of upd_same) ((h.app h').up g.f))
end
section
variable {X : Cx} {α β : Type} [DecidableEq α] [DecidableEq β] {f : α → PyData} {g : β → PyData} {n m : Nat}
theorem lay_app : ∀ (l r : List PyData), PyData.canLayAll0 l = true → PyData.canLayAll0 r = true → PyData.canLayAll0 (l ++ r) = true
  | [], r, _, h => h
  | x :: l, r, h, h' => by
    simp only [PyData.canLayAll0, Bool.and_eq_true] at h
    simp only [List.cons_append, PyData.canLayAll0, Bool.and_eq_true]
    exact ⟨h.1, lay_app l r h.2 h'⟩
theorem dep_app : ∀ (l r : List PyData) (k : Nat), PyData.depthAll l ≤ k → PyData.depthAll r ≤ k → PyData.depthAll (l ++ r) ≤ k
  | [], r, _, _, h => h
  | x :: l, r, k, h, h' => by
    simp only [PyData.depthAll] at h
    simp only [List.cons_append, PyData.depthAll]
    have := dep_app l r k (by omega) h'
    omega
theorem shaped_cat (s : Sh f n) (s' : Sh g m) (l : List α) (r : List β) (h : max n m + 1 ≤ 64 := by decide) : SeqAt.shaped (.tuple (l.map f ++ r.map g)) = true := by
  unfold SeqAt.shaped
  have d := dep_app (l.map f) (r.map g) (max n m) (Nat.le_trans (dep_map s l) (Nat.le_max_left ..)) (Nat.le_trans (dep_map s' r) (Nat.le_max_right ..))
  simp only [PyData.canLay0, lay_app _ _ (lay_map s l) (lay_map s' r), PyData.depth, Bool.true_and]
  exact decide_eq_true (by omega)
/-- t != (), t == () -/
def rNilM (K : PySem.W.Frag) (neg : Bool) : R2 := fun x y H Q => ∃ (ds : List PyData) (b : Bool), Dp K H x (.tuple ds) ∧ Dp K H y (.tuple []) ∧ SeqAt.shaped (.tuple ds) = true ∧ ds.isEmpty = b ∧ Q (.bl (if neg = true then !b else b)) H
theorem eqv_nil (ds : List PyData) : PyData.eqv (.tuple ds) (.tuple []) = ds.isEmpty := by
  cases ds <;> rfl
theorem op_neNil (hu : X.A.units + 64 < cLine) : OpR X (compareOp .NotEq) (rNilM X.K true) := by
  intro pins st σ H x y v u Q I rx ry h
  obtain ⟨ds, b, hd, he, sd, rfl, q⟩ := h
  exact op_neD hu pins st σ H x y v u Q I rx ry ⟨.tuple ds, .tuple [], hd, he, sd, by decide, by rw [eqv_nil]; exact q⟩
theorem op_eqNil (hu : X.A.units + 64 < cLine) : OpR X (compareOp .Eq) (rNilM X.K false) := by
  intro pins st σ H x y v u Q I rx ry h
  obtain ⟨ds, b, hd, he, sd, rfl, q⟩ := h
  exact op_eqD hu pins st σ H x y v u Q I rx ry ⟨.tuple ds, .tuple [], hd, he, sd, by decide, by rw [eqv_nil]; exact q⟩
theorem isEmpty_cat (l : List α) (r : List β) : (l.map f ++ r.map g).isEmpty = (l.isEmpty && r.isEmpty) := by
  cases l <;> cases r <;> rfl
end
/-! ### weightings -/
abbrev Ms := List (Int × Int)
abbrev Ss := List (Int × Int × Int)
abbrev Wt := Ms × Ss
abbrev eM : Ms → PyData := eV (e2 PyData.int PyData.int)
abbrev eS : Ss → PyData := eV (e3 PyData.int PyData.int PyData.int)
def wf (m s : V) : List (Str × V) := putF "_stretches" s (putF "_masses" m [])
theorem wf_eq (m s : V) : wf m s = ([("_masses", m), ("_stretches", s)] : List (Str × V)) := by
  have n : ¬ (("_masses" : Str) = "_stretches") := by decide +kernel
  show (if ("_masses" : Str) = "_stretches" then [(("_masses" : Str), s)] else (("_masses" : Str), m) :: putF "_stretches" s []) = ([("_masses", m), ("_stretches", s)] : List (Str × V))
  rw [if_neg n]
  rfl
theorem wf_m (m s : V) : (wf m s).lookup ("_masses" : Str) = some m := by
  unfold wf
  rw [lookup_putF, if_neg (by decide +kernel), lookup_putF, if_pos rfl]
theorem wf_s (m s : V) : (wf m s).lookup ("_stretches" : Str) = some s := by
  unfold wf
  rw [lookup_putF, if_pos rfl]
/-- v is a weighting that stands fixed -/
structure IsW (K : PySem.W.Frag) (C : Addr) (F : Hp) (v : V) (w : Wt) : Prop where
  ex : ∃ a dx m s, v = .ref a ∧ F a = some (.ins C dx (wf m s)) ∧ Dq K F m (eM w.1) ∧ Dq K F s (eS w.2)
theorem IsW.up {K : PySem.W.Frag} {C : Addr} {F F' : Hp} {v : V} {w : Wt} (h : IsW K C F v w) (e : Ex F F') : IsW K C F' v w := by
  obtain ⟨a, dx, m, s, rfl, h1, h2, h3⟩ := h.ex
  exact ⟨a, dx, m, s, rfl, e _ _ h1, h2.up e, h3.up e⟩
/-- a property of a class, by its name and its field -/
structure KnP (P : Program) (w : World) (K : PySem.W.Frag) (mg : Str → Option Value) (base : Heap) (C : Addr) (f fld : Str) : Prop where
  ex : ∃ p g fd, PropOf K C f p g ∧ FnOk P w K mg base CX0 1 g fd ["self"] (getSp C fld) ∧ Binds K fd ["self"] []
  cl : Cls K C
section
variable {X : Cx} {C : Addr} {f fld : Str} {e : Expr} {ta : TE} {pos : Pos}
theorem pe_propK (G : KnP X.prog X.w X.K X.mg X.base C f fld) (hr : Room 2 X.A) (he : PE X e ta) (hab : attributeBase e f X.env (eval e X.env) = eval e X.env := by rfl) : PE X (.Attribute e f pos) (tProp C (getSp C fld) [] E0 ta) := by
  obtain ⟨p, g, fd, hp, F, hb⟩ := G.ex
  exact pe_prop he G.cl hp F hr hb .nil pass0 hab
end
/-- a class that is called: by the name x its __init__ with the promise sp -/
structure KnC (P : Program) (w : World) (K : PySem.W.Frag) (mg : Str → Option Value) (base : Heap) (CX : CXT) (x : Str) (C : Addr) (k : Nat) (ps : List Str) (sp : Sp) : Prop where
  ex : ∃ f fd, Mk K C f ∧ FnOk P w K mg base CX k f fd ps sp ∧ Binds K fd ps []
  mg : mg x = some (.ref C)
section
variable {X : Cx} {C : Addr} {x : Str} {k : Nat} {ps : List Str} {sp : Sp} {e : Expr} {es : List Expr} {t : TA} {p pos : Pos} {CX : CXT} {E : XK}
theorem pe_knC (G : KnC X.prog X.w X.K X.mg X.base CX x C k ps sp) (hr : Room (k + 1) X.A) (hx : Passes CX X E) (ha : PA X (e :: es) t) (hg : Gl X x := by rfl) (hdb : (x == ("__debug__" : Str)) = false := by decide)
    (he : starEach (e :: es) X.env = (false, eval e X.env) :: starEach es X.env := by rfl) (hpl : (backTo pos (starEach es X.env)).any (·.1) = false := by rfl) : PE X (.Call (.Name x p) (e :: es) [] pos) (tMake C sp [] E t) := by
  obtain ⟨f, fd, M, F, hb⟩ := G.ex
  exact pe_make M F hr hg G.mg hb .nil hx ha hdb he hpl
end
/-- Weighting.__init__: chk tells whether the parts may be so -/
def spW0 (chk : Ms → Ss → Mm Wt) (K : PySem.W.Frag) (C : Addr) : Sp := fun vs H Q _ => ∃ (F : Hp) (x dx : Addr) (vm vs' : V) (m : Ms) (s : Ss), vs = [.ref x, vm, vs'] ∧ Ex F H ∧ H x = some (.ins C dx []) ∧ F x = none ∧
  Dq K F vm (eM m) ∧ Dq K F vs' (eS s) ∧ Post (chk m s) (fun w => ∀ F' H' a b, Gm [x] F H F' H' → H' x = some (.ins C dx (wf a b)) → F' x = none → Dq K F' a (eM w.1) → Dq K F' b (eS w.2) → Q .non H') (fun _ => False)
theorem make_W {chk : Ms → Ss → Mm Wt} {K : PySem.W.Frag} {C : Addr} {F H : Hp} {vm vs : V} {m : Ms} {s : Ss} {Q : VK} {E : XK} (e : Ex F H) (hm : Dq K F vm (eM m)) (hs : Dq K F vs (eS s))
    (k : Post (chk m s) (fun w => Ret [] F H (fun F' _ v => IsW K C F' v w) Q) (fun _ => False)) :
    ∀ x dx, H x = none → H dx = none → dx ≠ x → spW0 chk K C (.ref x :: ([vm, vs] ++ [])) (upd (upd H dx (.own x)) x (.ins C dx [])) (fun v H2 => v = .non ∧ Q (.ref x) H2) E := by
  intro x dx hx hdx hne
  have g1 : Gm [] F H (upd F dx (.own x)) (upd H dx (.own x)) := Gm.new e hdx
  have hx1 : (upd H dx (.own x)) x = none := by rw [upd_ne hne.symm]; exact hx
  have g2 : Gm [] (upd F dx (.own x)) (upd H dx (.own x)) (upd F dx (.own x)) (upd (upd H dx (.own x)) x (.ins C dx [])) := Gm.newM g1.s hx1
  have fx : (upd F dx (.own x)) x = none := by
    cases q : (upd F dx (.own x)) x with
    | none => rfl
    | some u => rw [g1.s _ _ q] at hx1; cases hx1
  refine ⟨upd F dx (.own x), x, dx, vm, vs, m, s, rfl, g2.s, upd_same, fx, hm.up g1.f, hs.up g1.f, k.mono (fun w k F' H' a b g h1 h2 ha hb => ⟨rfl, ?_⟩) fun _ z => z⟩
  have gg : Gm [] F H F' H' := by
    refine Gm.young (g1.trans g2) hx g
  have g3 := gg.fix h1 h2 hx
  have up : Ex F' (upd F' x (.ins C dx (wf a b))) := Ex.new h2
  exact k _ _ _ g3 ⟨x, dx, a, b, rfl, upd_same, ha.up up, hb.up up⟩
end Wk

set_option Elab.async false
set_option linter.all false
namespace Wk
open PySem L2 Evl
theorem new_row {K : PySem.W.Frag} {H : Hp} {sc : Addr} {scr : List Int} {Q : VK} (hs : SqL K H sc (scr.map V.int)) (k : ∀ ra H', Ex H H' → RowAt K sc ra scr H H' ⟨0, 0, 0⟩ → Q (.ref ra) H') : [V.ref sc, V.int 0, V.int 0, V.int 0].length ≤ sizeLine ∧ ∀ p, H p = none → Q (.ref p) (upd H p (.lst [V.ref sc, V.int 0, V.int 0, V.int 0])) :=
  ⟨sz_of (by show 4 ≤ 100000; decide), fun p hp => k p _ (Ex.new hp) ⟨upd_same, hp, hs⟩⟩
end Wk

set_option Elab.async false
set_option linter.all false
set_option maxRecDepth 100000
set_option maxHeartbeats 2000000
namespace Wk
open PySem PySem.W L2 He
/-! ### properties by their names -/
def propG (x f : Str) (K : Frag) : Addr := match recIn K (ma K (ga K x) f) "property" with
  | some (.ref g :: _) => g
  | _ => 0
def propB (x f : Str) (K : Frag) : Bool := eqO (findIn K (.ref (ga K x)) f) (some (some (.ref (ma K (ga K x) f)))) && (eqO (specialIn K (.ref (ma K (ga K x) f)) "__get__") (some (some (.builtin "property.__get__"))) &&
  (decide (takesIn K (.ref (ma K (ga K x) f)) = some true) && (match recIn K (ma K (ga K x) f) "property" with
    | some (.ref _ :: _) => true
    | _ => false)))
theorem propB_ok {K : Frag} {x f : Str} (h : propB x f K = true) : PropOf K (ga K x) f (ma K (ga K x) f) (propG x f K) := by
  obtain ⟨h1, h⟩ := ba h
  obtain ⟨h2, h⟩ := ba h
  obtain ⟨h3, h4⟩ := ba h
  refine ⟨eqO_ok h1, eqO_ok h2, of_decide_eq_true h3, ?_⟩
  unfold propG
  split at h4
  · rename_i g r e
    exact ⟨r, by rw [e]⟩
  · cases h4
/-- a def of a class -/
def initAt (x m : Str) (K : Frag) : Addr := ma K (ga K x) m
/-- a name that is a built-in function -/
def bltB (x : Str) (id : String) (K : Frag) : Bool := eqO (nsIn K mainGlobals x) (some (some (.builtin id)))
theorem bltB_ok {K : Frag} {h : Heap} {mg : Str → Option Value} (X : K.In h) (G : h.Ns mainGlobals mg) {x : Str} {id : String} (c : bltB x id K = true) : mg x = some (.builtin id) := mg_of X G (eqO_ok c)
/-! ### the Hook: facts, defs, what else a Bool tells -/
def obsX (fa : List Fa) (fn : List He5.DefA) (ex : Frag → Bool) (K : Frag) : He.AlD := ((fa.all fun f => f.ok K) && ((fn.all fun d => d.ok K) && ex K), fn.map fun d => He5.fnA K (d.at_ K))
def valX (fn : List He5.DefA) : He.AlD := (true, fn.map He5.DefA.val)
def SaysX (fa : List Fa) (fn : List He5.DefA) (ex : Frag → Bool) (K : Frag) : Prop := obsX fa fn ex K = valX fn
def obsXG (n : Nat) (fa : List Fa) (fn : List He5.DefA) (ex : Frag → Bool) (g : Addr → Option Obj) : He.AlD := obsX fa fn ex (frG g (He5.asA g n))
def hookX (n : Nat) (fa : List Fa) (fn : List He5.DefA) (ex : Frag → Bool) : PySem.W.Hook where
  α := He.AlD
  obs := fun s => obsXG n fa fn ex s.heap.get?
  val := fun _ => valX fn
  says := fun _ h => ∃ K : Frag, K.In h ∧ SaysX fa fn ex K
  of := fun _ _ e => ⟨_, frG_in, e⟩
  keeps := fun _ _ _ ⟨K, hK, c⟩ k => ⟨K, Frag.In.keeps hK k, c⟩
theorem obsXG_eq {n : Nat} {fa : List Fa} {fn : List He5.DefA} {ex : Frag → Bool} {g : Addr → Option Obj} {s : Shared} (h : ∀ a, g a = s.heap.get? a) : obsXG n fa fn ex g = (hookX n fa fn ex).obs s := by
  have e : g = s.heap.get? := funext h
  rw [e] <;> rfl
section
variable {fa : List Fa} {fn : List He5.DefA} {ex : Frag → Bool} {K : Frag}
theorem SaysX.bool (c : SaysX fa fn ex K) : (((fa.all fun f => f.ok K) && ((fn.all fun d => d.ok K) && ex K)) : Bool) = true := congrArg (fun z : He.AlD => z.1) c
theorem SaysX.fact (c : SaysX fa fn ex K) (i : Nat) {f : Fa} (h : fa[i]? = some f := by rfl) : f.ok K = true :=
  List.all_eq_true.mp (ba c.bool).1 f (List.mem_of_getElem? h)
theorem SaysX.ext (c : SaysX fa fn ex K) : ex K = true := (ba (ba c.bool).2).2
theorem SaysX.def_ (c : SaysX fa fn ex K) (i : Nat) {d : He5.DefA} (h : fn[i]? = some d := by rfl) : ∃ fd, L2.FunD K d.name d.qual d.params d.body d.scope (d.dvs K) (d.kws K) (d.at_ K) fd := by
  have c2 := (ba (ba c.bool).2).1
  have e : fn.map (fun d => He5.fnA K (d.at_ K)) = fn.map He5.DefA.val := congrArg (fun z : He.AlD => z.2) c
  have e2 : (fn.map fun d => He5.fnA K (d.at_ K))[i]? = (fn.map He5.DefA.val)[i]? := by rw [e]
  rw [List.getElem?_map, List.getElem?_map, h] at e2
  exact He5.DefA.funD (Option.some.inj e2) (List.all_eq_true.mp c2 d (List.mem_of_getElem? h))
end
/-- a global's def -/
def gAt (x : Str) (K : Frag) : Addr := ga K x
theorem knP_of {P : Program} {w : World} {K : Frag} {mg : Str → Option Value} {base : Heap} {x f fld qual : Str} {params : Arguments} {body : List Stmt} {scope : Scope} {fd : FuncData} {p1 p2 p3 : Pos} (hp : propB x f K = true) (cl : Cls K (ga K x)) (n : NoAttr K (ga K x) fld)
    (F : FunD K f qual params body scope [] [] (propG x f K) fd) (S : FnScope ["self"] ["self"] scope) (hb : body = [.Return (some (.Attribute (.Name "self" p1) fld p2)) p3])
    (bi : ∀ (kV doc pm : Value) (an : Option Addr) (cdv ct : Value) (us : List Value), us.length = 1 → bindArgs (PySem.W.fnOf f qual params body scope .none kV doc pm an cdv ct) ⟨us, []⟩ = pure ([("self" : Str)].zip us)) : KnP P w K mg base (ga K x) f fld := by
  have b := F.bindsN (ps := ["self"]) bi
  obtain ⟨oc, od, dV, kV, doc, pm, an, cdv, ct, osl, rfl, lk, hcd, _, _⟩ := F.ex
  exact ⟨⟨_, _, _, propB_ok hp, fn_getter lk hcd S rfl hb cl n, b⟩, cl⟩
end Wk

set_option Elab.async false
set_option linter.all false
set_option maxRecDepth 100000
namespace Wk
open PySem L2
/-! ### outcomes that are values -/
def Yes {α : Type} (m : Mm α) (p : α → Prop) : Prop := ∃ a, m = .ok a ∧ p a
section
variable {α β γ S : Type} {m : Mm α} {f : α → Mm β} {p : α → Prop} {q : β → Prop}
theorem Yes.ok {a : α} (h : p a) : Yes (.ok a) p := ⟨a, rfl, h⟩
theorem Yes.bd (h : Yes m p) (k : ∀ a, p a → Yes (f a) q) : Yes (m.bd f) q := by
  obtain ⟨a, rfl, h⟩ := h
  exact k a h
theorem Yes.eq {a : α} (h : m = .ok a) (k : Yes (f a) q) : Yes (m.bd f) q := by
  subst h
  exact k
theorem Yes.mono {p' : α → Prop} (h : Yes m p) (k : ∀ a, p a → p' a) : Yes m p' := by
  obtain ⟨a, e, h⟩ := h
  exact ⟨a, e, k a h⟩
theorem Yes.guard {c : Prop} [Decidable c] {f : Unit → Mm β} (h : c) (k : Yes (f ()) q) : Yes ((guardM c).bd f) q := by
  unfold guardM
  rw [if_pos h]
  exact k
theorem bd_eq {a : α} (h : m = .ok a) : m.bd f = f a := by subst h; rfl
theorem bd_guard {c : Prop} [Decidable c] {f : Unit → Mm β} (h : c) : (guardM c).bd f = f () := by unfold guardM; rw [if_pos h]; rfl
theorem mapMm_eq {f : α → Mm γ} {g : α → γ} : ∀ l : List α, (∀ x ∈ l, f x = .ok (g x)) → mapMm f l = .ok (l.map g)
  | [], _ => rfl
  | x :: l, h => by
    unfold mapMm
    rw [h x (List.mem_cons_self ..), mapMm_eq l fun y hy => h y (List.mem_cons_of_mem _ hy)]
    rfl
theorem foldM_eq {f : S → α → Mm S} {g : S → α → S} (I : S → List α → Prop) : ∀ (l : List α) (s : S), I s l → (∀ s x l, I s (x :: l) → f s x = .ok (g s x) ∧ I (g s x) l) → foldM f s l = .ok (l.foldl g s)
  | [], s, _, _ => rfl
  | x :: l, s, h, k => by
    obtain ⟨e, h2⟩ := k s x l h
    unfold foldM
    rw [e]
    exact foldM_eq I l _ h2 k
theorem yes_fold {f : S → α → Mm S} (I : S → List α → Prop) : ∀ (l : List α) (s : S), I s l → (∀ s x l, I s (x :: l) → Yes (f s x) fun s' => I s' l) → Yes (foldM f s l) fun s' => I s' []
  | [], s, h, _ => ⟨s, rfl, h⟩
  | x :: l, s, h, k => by
    obtain ⟨s', e, h2⟩ := k s x l h
    unfold foldM
    rw [e]
    exact yes_fold I l s' h2 k
inductive All2 {α γ : Type} (p : α → γ → Prop) : List α → List γ → Prop
  | nil : All2 p [] []
  | cons {x : α} {y : γ} {l : List α} {r : List γ} : p x y → All2 p l r → All2 p (x :: l) (y :: r)
theorem All2.len {p : α → γ → Prop} {l : List α} {r : List γ} (h : All2 p l r) : r.length = l.length := by
  induction h with
  | nil => rfl
  | cons _ _ ih => simp [ih]
theorem All2.right {p : α → γ → Prop} {q : γ → Prop} {l : List α} {r : List γ} (h : All2 p l r) (k : ∀ x y, p x y → q y) : ∀ y ∈ r, q y := by
  induction h with
  | nil => simp
  | cons a _ ih =>
    intro y hy
    rcases List.mem_cons.mp hy with rfl | hy
    · exact k _ _ a
    · exact ih y hy
theorem All2.fst {g : γ → α} {p : α → γ → Prop} {l : List α} {r : List γ} (h : All2 p l r) (k : ∀ x y, p x y → g y = x) : r.map g = l := by
  induction h with
  | nil => rfl
  | cons a _ ih => rw [List.map_cons, k _ _ a, ih]
theorem yes_mapSt {f : S → α → Mm (γ × S)} (I : S → Prop) (p : α → γ → Prop) : ∀ (l : List α) (s : S), I s → (∀ s x, x ∈ l → I s → Yes (f s x) fun y => p x y.1 ∧ I y.2) → Yes (mapSt f s l) fun r => All2 p l r.1 ∧ I r.2
  | [], s, h, _ => ⟨_, rfl, .nil, h⟩
  | x :: l, s, h, k => by
    obtain ⟨y, e, h1, h2⟩ := k s x (List.mem_cons_self ..) h
    obtain ⟨r, e2, h3, h4⟩ := yes_mapSt I p l y.2 h2 fun s z hz => k s z (List.mem_cons_of_mem _ hz)
    unfold mapSt
    rw [e]
    show Yes ((mapSt f y.2 l).bd _) _
    rw [e2]
    exact ⟨_, rfl, .cons h1 h3, h4⟩
end
theorem range_ok {j : Int} (h : -(2 ^ 62) ≤ j) (h2 : j < 2 ^ 62) : rangeM j = .ok (rangeL 0 j.toNat) := by unfold rangeM; rw [if_pos ⟨h, h2⟩]
theorem mul_ok {i j : Int} {a b : Nat} (ha : i.natAbs < 2 ^ a) (hb : j.natAbs < 2 ^ b) (h : a + b ≤ 900000) : mulM i j = .ok (i * j) := by
  unfold mulM
  refine if_pos (wide_mul (a := a + 1) (b := b + 1) ?_ ?_ (by omega) (by omega) (by omega))
  · rw [Nat.pow_succ]; omega
  · rw [Nat.pow_succ]; omega
theorem div_any {i j : Int} {b : Nat} (h : j ≠ 0) (hb : j.natAbs < 2 ^ b) (h2 : b < 9000) : divM i j = .ok (i.fdiv j) := by
  unfold divM
  have hb' : j.natAbs < 2 ^ (b + 1) := by rw [Nat.pow_succ]; omega
  exact if_pos ⟨h, Nat.lt_of_lt_of_le (PySem.Flt.log2_lt_of (by omega) hb') (by omega)⟩
theorem div_ok {i j : Int} {b : Nat} (h : 0 < j) (hb : j.natAbs < 2 ^ b) (h2 : b < 9000) : divM i j = .ok (i / j) := by
  rw [div_any (by omega) hb h2, Int.fdiv_eq_ediv_of_nonneg _ (Int.le_of_lt h)]
theorem mod_ok {i j : Int} (h : 0 < j) : modM i j = .ok (i % j) := by
  unfold modM
  rw [if_pos (by omega), Int.fmod_eq_emod_of_nonneg _ (Int.le_of_lt h)]
theorem mod_ne {i j : Int} (h : j ≠ 0) : modM i j = .ok (i.fmod j) := by
  unfold modM
  rw [if_pos h]
/-! ### fractions -/
def fr (q : Rat) : Int × Int := (q.num, (q.den : Int))
def Sq (n : Nat) (q : Rat) : Prop := q.num.natAbs < 2 ^ n ∧ q.den < 2 ^ n
theorem fr_nat (a : Int) {d : Nat} (h : d ≠ 0) : fr ((a : Rat) / (d : Rat)) = (a / ((Nat.gcd a.natAbs d : Nat) : Int), ((d / Nat.gcd a.natAbs d : Nat) : Int)) := by
  unfold fr
  rw [← Rat.mkRat_eq_div, Rat.num_mkRat, Rat.den_mkRat, if_neg h, if_neg h, Nat.gcd_comm]
theorem fr_int (a : Int) {b : Int} (h : 0 < b) : fr ((a : Rat) / (b : Rat)) = (a / ((Nat.gcd a.natAbs b.natAbs : Nat) : Int), b / ((Nat.gcd a.natAbs b.natAbs : Nat) : Int)) := by
  obtain ⟨d, rfl⟩ := Int.eq_ofNat_of_zero_le (Int.le_of_lt h)
  have hd : d ≠ 0 := by omega
  have := fr_nat a hd
  rw [Int.natAbs_natCast, ← Int.natCast_ediv]
  exact this
theorem gcd_pos_int {a b : Int} (h : 0 < b) : 0 < ((Nat.gcd a.natAbs b.natAbs : Nat) : Int) := by
  have : 0 < Nat.gcd a.natAbs b.natAbs := Nat.gcd_pos_of_pos_right _ (by omega)
  omega
theorem gcd_le_int {a b : Int} (h : 0 < b) : ((Nat.gcd a.natAbs b.natAbs : Nat) : Int).natAbs ≤ b.natAbs := by
  rw [Int.natAbs_natCast]
  exact Nat.gcd_le_right _ (by omega)
theorem den_posI (q : Rat) : 0 < (q.den : Int) := by
  have := q.den_nz
  omega
theorem fr_val (q : Rat) : ((fr q).1 : Rat) / ((fr q).2 : Rat) = q := by
  have h := Rat.mkRat_eq_div q.num q.den
  rw [Rat.mkRat_self] at h
  unfold fr
  rw [show (((q.den : Nat) : Int) : Rat) = ((q.den : Nat) : Rat) from rfl]
  exact h.symm
theorem sq_div {n : Nat} {a b : Int} (h : 0 < b) (ha : a.natAbs < 2 ^ n) (hb : b.natAbs < 2 ^ n) : Sq n ((a : Rat) / (b : Rat)) := by
  have e := fr_int a h
  unfold fr at e
  simp only [Prod.mk.injEq] at e
  obtain ⟨e1, e2⟩ := e
  unfold Sq
  have g0 := gcd_pos_int (a := a) h
  constructor
  · rw [e1]
    exact Nat.lt_of_le_of_lt (Int.natAbs_ediv_le_natAbs _ _) ha
  · have : ((a : Rat) / (b : Rat)).den = (((a : Rat) / (b : Rat)).den : Int).natAbs := by omega
    rw [this, e2]
    exact Nat.lt_of_le_of_lt (Int.natAbs_ediv_le_natAbs _ _) hb
theorem two_le (n : Nat) : 1 ≤ 2 ^ n := Nat.one_le_two_pow
theorem add_lt {x y : Int} {a b n : Nat} (ha : x.natAbs < 2 ^ a) (hb : y.natAbs < 2 ^ b) (h : a < n) (h' : b < n) : (x + y).natAbs < 2 ^ n := by
  have e1 : 2 ^ a ≤ 2 ^ (n - 1) := Nat.pow_le_pow_right (by decide) (by omega)
  have e2 : 2 ^ b ≤ 2 ^ (n - 1) := Nat.pow_le_pow_right (by decide) (by omega)
  have e3 : 2 ^ n = 2 * 2 ^ (n - 1) := by
    rw [← Nat.pow_succ']
    congr 1
    omega
  omega
theorem sub_lt {x y : Int} {a b n : Nat} (ha : x.natAbs < 2 ^ a) (hb : y.natAbs < 2 ^ b) (h : a < n) (h' : b < n) : (x - y).natAbs < 2 ^ n := by
  have := add_lt (x := x) (y := -y) ha (by omega) h h'
  rwa [Int.sub_eq_add_neg]
theorem mul_lt {x y : Int} {a b n : Nat} (ha : x.natAbs < 2 ^ a) (hb : y.natAbs < 2 ^ b) (h : a + b ≤ n) : (x * y).natAbs < 2 ^ n :=
  Nat.lt_of_lt_of_le (wide_lt ha hb) (Nat.pow_le_pow_right (by decide) h)
theorem up_lt {x : Int} {a n : Nat} (ha : x.natAbs < 2 ^ a) (h : a ≤ n) : x.natAbs < 2 ^ n := Nat.lt_of_lt_of_le ha (Nat.pow_le_pow_right (by decide) h)
theorem Sq.up {q : Rat} {a n : Nat} (h : Sq a q) (l : a ≤ n) : Sq n q := ⟨up_lt h.1 l, Nat.lt_of_lt_of_le h.2 (Nat.pow_le_pow_right (by decide) l)⟩
theorem Sq.d {q : Rat} {a : Nat} (h : Sq a q) : ((q.den : Nat) : Int).natAbs < 2 ^ a := by rw [Int.natAbs_natCast]; exact h.2
theorem rat_add (p q : Rat) : p + q = ((p.num * (q.den : Int) + q.num * (p.den : Int) : Int) : Rat) / (((p.den : Int) * (q.den : Int) : Int) : Rat) := by
  have a := fr_val p
  have b := fr_val q
  unfold fr at a b
  have x : ((p.den : Int) : Rat) ≠ 0 := by
    have := den_posI p
    intro z
    have := Rat.intCast_inj.mp (show ((p.den : Int) : Rat) = ((0 : Int) : Rat) from z)
    omega
  have y : ((q.den : Int) : Rat) ≠ 0 := by
    have := den_posI q
    intro z
    have := Rat.intCast_inj.mp (show ((q.den : Int) : Rat) = ((0 : Int) : Rat) from z)
    omega
  push_cast
  push_cast at a b x y
  grind
theorem rat_mul (p q : Rat) : p * q = ((p.num * q.num : Int) : Rat) / (((p.den : Int) * (q.den : Int) : Int) : Rat) := by
  have a := fr_val p
  have b := fr_val q
  unfold fr at a b
  push_cast
  push_cast at a b
  grind
theorem rat_div (p q : Rat) : p / q = ((p.num * (q.den : Int) : Int) : Rat) / (((p.den : Int) * q.num : Int) : Rat) := by
  have a := fr_val p
  have b := fr_val q
  unfold fr at a b
  push_cast
  push_cast at a b
  grind
theorem sq_add {p q : Rat} {a b n : Nat} (ha : Sq a p) (hb : Sq b q) (h : a + b < n) : Sq n (p + q) := by
  rw [rat_add]
  refine sq_div (Int.mul_pos (den_posI p) (den_posI q)) ?_ (mul_lt ha.d hb.d (by omega))
  exact add_lt (mul_lt ha.1 hb.d (Nat.le_refl _)) (mul_lt hb.1 ha.d (Nat.le_refl _)) (by omega) (by omega)
theorem sq_mul {p q : Rat} {a b n : Nat} (ha : Sq a p) (hb : Sq b q) (h : a + b ≤ n) : Sq n (p * q) := by
  rw [rat_mul]
  exact sq_div (Int.mul_pos (den_posI p) (den_posI q)) (mul_lt ha.1 hb.1 h) (mul_lt ha.d hb.d h)
theorem num_pos' {q : Rat} (h : 0 < q) : 0 < q.num := by
  have := Rat.num_nonneg (q := q)
  have h1 : 0 ≤ q.num := this.mpr (Rat.le_of_lt h)
  have h2 : q.num ≠ 0 := fun z => by
    have : q = 0 := Rat.num_eq_zero.mp z
    rw [this] at h
    exact absurd h (by decide)
  omega
theorem sq_quo {p q : Rat} {a b n : Nat} (ha : Sq a p) (hb : Sq b q) (hq : 0 < q) (h : a + b ≤ n) : Sq n (p / q) := by
  rw [rat_div]
  exact sq_div (Int.mul_pos (den_posI p) (num_pos' hq)) (mul_lt ha.1 hb.d h) (mul_lt ha.d hb.1 h)
theorem fr_inj {p q : Rat} (h : fr p = fr q) : p = q := by
  have a := fr_val p
  rw [h, fr_val] at a
  exact a.symm
end Wk

set_option Elab.async false
set_option linter.all false
set_option maxRecDepth 100000
namespace Wk
open PySem L2 Evl
section
variable {K : PySem.W.Frag} {M : List Addr} {F F' H H' : Hp} {Q : VK} {α : Type} {en : α → PyData} {l l' : List α} {xs ys : List V} {a b p : Addr} {v : V} {ds : List PyData}
/-! ### None or a value -/
theorem sh_eO [DecidableEq α] {f : α → PyData} {n : Nat} (s : Sh f n) (h1 : ∀ a, PyData.eqv .none (f a) = false := by intro a; rfl) (h2 : ∀ a, PyData.eqv (f a) .none = false := by intro a; rfl) : Sh (eO f) (n + 1) :=
  ⟨fun o => by cases o with
    | none => rfl
    | some a => exact s.lay a, fun o => by cases o with
    | none => simp [eO, PyData.depth]
    | some a => exact Nat.le_succ_of_le (s.dep a), fun o o' => by
      cases o with
      | none => cases o' with
        | none => simp [eO, PyData.eqv]
        | some b => rw [show eO f none = .none from rfl, show eO f (some b) = f b from rfl, h1]; simp
      | some a => cases o' with
        | none => rw [show eO f none = .none from rfl, show eO f (some a) = f a from rfl, h2]; simp
        | some b => rw [show eO f (some a) = f a from rfl, show eO f (some b) = f b from rfl, s.eq]; simp⟩
theorem isN_go {o : Option α} {Q : VK} (h : Dq K F v (eO en o)) (q : Q (.bl o.isNone) H) (hn : ∀ a, en a ≠ .none := by intro a; exact fun h => nomatch h) : (fun (x : V) (H1 : Hp) => Q (.bl (decide (x = V.non))) H1) v H := by
  show Q (.bl (decide (v = V.non))) H
  rw [none_O h hn]
  exact q
def getO {α : Type} (o : Option α) : Mm α := match o with
  | some a => .ok a
  | none => .bad
theorem post_getO {β : Type} {f : α → Mm β} {r : β → Prop} {q : Er → Prop} {o : Option α} (h : Post ((getO o).bd f) r q) : ∃ a, o = some a ∧ Post (f a) r q := by
  cases o with
  | none => exact h.h.elim
  | some a => exact ⟨a, rfl, ⟨h.h⟩⟩
theorem dq_some {o : Option α} {x : α} (d : Dq K F v (eO en o)) (h : o = some x) : Dq K F v (en x) := by
  subst h
  exact d
/-! ### a list display with a list in it -/
theorem new_star {pre : List V} {pm : List α} (e : Ex F H) (a : DqAll K F pre (pm.map en)) (b : DqAll K F xs (l.map en)) (hl : pm.length + l.length ≤ 100000) (k : Ret M F H (fun F' _ v => Dq K F' v (eL en (pm ++ l))) Q) :
    (pre ++ (xs ++ [])).length ≤ sizeLine ∧ ∀ p, H p = none → Q (.ref p) (upd H p (.lst (pre ++ (xs ++ [])))) := by
  rw [List.append_nil]
  refine new_lst e (ds := (pm ++ l).map en) ?_ ?_ k
  · rw [List.map_append]
    exact a.app b
  · rw [List.length_append, a.len, b.len, List.length_map, List.length_map]
    exact hl
/-- a tuple of any values -/
theorem new_tupR (e : Ex F H) (hl : xs.length ≤ 100000) (k : ∀ p F' H', Gm M F H F' H' → SqT K F' p xs → Q (.ref p) H') : xs.length ≤ sizeLine ∧ ∀ p, H p = none → Q (.ref p) (upd H p (.tup xs)) :=
  ⟨sz_of hl, fun p hp => k p _ _ (Gm.new e hp) (st_of upd_same)⟩
/-! ### an item is set -/
def setM {α : Type} (l : List α) (i : Int) (v : α) : Mm (List α) := match ixN l.length i with
  | some j => .ok (l.set j v)
  | none => .bad
theorem post_set {β : Type} {f : List α → Mm β} {r : β → Prop} {q : Er → Prop} {i : Int} {x : α} (h : Post ((setM l i x).bd f) r q) : ∃ m j, ixN l.length i = some j ∧ l.set j x = m ∧ Post (f m) r q := by
  unfold setM at h
  cases e : ixN l.length i with
  | none =>
    rw [e] at h
    exact h.h.elim
  | some j =>
    rw [e] at h
    exact ⟨_, j, rfl, rfl, ⟨h.h⟩⟩
theorem all_ix {i : Int} {j : Nat} (a : DqAll K F xs (l.map en)) (h : ixN l.length i = some j) : ixN xs.length i = some j := by
  rw [a.len, List.length_map]
  exact h
theorem dqAll_set {v : V} {d : PyData} : ∀ {xs : List V} {ds : List PyData} (j : Nat), DqAll K F xs ds → Dq K F v d → DqAll K F (xs.set j v) (ds.set j d)
  | _, _, j, .nil, _ => .nil
  | _, _, 0, .cons _ b, h => .cons h b
  | _, _, j + 1, .cons a b, h => .cons a (dqAll_set j b h)
theorem all_set {j : Nat} {x : α} {m : List α} (a : DqAll K F xs (l.map en)) (h : Dq K F v (en x)) (e : l.set j x = m) : DqAll K F (xs.set j v) (m.map en) := by
  subst e
  rw [List.map_set]
  exact dqAll_set j a h
end
section
variable {K : PySem.W.Frag} {M : List Addr} {F H : Hp} {σ : L2.St} {g : TG} {tt : TT} {te : TE} {vs : List Nat} {α β γ : Type} {l : List α} {ok : β → Prop} {ex : Er → Prop} {J : It} {R : Hp → V → α → Prop} {Q : VK}
theorem lc_fil {f : α → Mm (Option γ)} {rest : List γ → Mm β} (w : Wlk M F H J l R) (en : γ → PyData) (k : Post ((filMm f l).bd rest) ok ex) (e : Ex F H) (hz : l.length ≤ 50000) (hM : ∀ D, H D = none → D ∉ M)
    (hb : ∀ x v F1 H1 F2 H2, Gm M F H F1 H1 → Gm [] F1 H1 F2 H2 → R F2 v x → ∀ Q' : Option V → Hp → Prop, Post (f x) (fun o => ∀ F3 H3 v, Gm M F1 H1 F3 H3 → (match o with
        | some y => ∃ u, v = some u ∧ Dq K F3 u (en y)
        | none => v = none) → Q' v H3) (fun _ => False) →
      g v (wipe σ vs) H2 fun σ2 H3 => wipe σ2 vs = wipe σ vs ∧ tt σ2 H3 fun b H4 => if b = true then te σ2 H4 fun y H5 => Q' (some y) H5 else Q' none H4)
    (hx : ∀ e, ¬ ex e) (kk : ∀ (r : List γ) v F' H', Gm M F H F' H' → Dq K F' v (eL en r) → Post (rest r) ok ex → Q v H') (mono : GMon g) :
    ∀ D, H D = none → ∃ W : Nat → Nat → Hp → Prop, (∃ m, W 0 m (upd H D (.lst []))) ∧ ∀ i m H, W i m H →
      (J.stop i H ∧ Q (.ref D) H) ∨ (J.go i H ∧ ∃ Nx : Hp → Prop, (∀ H', Nx H' → ∃ m', m' < m ∧ W (i + 1) m' H') ∧ ∀ x H', J.yld i H x H' → g x (wipe σ vs) H' fun σ2 H2 => wipe σ2 vs = wipe σ vs ∧ tt σ2 H2 fun b H3 =>
        if b = true then te σ2 H3 fun y H4 => ∃ acc, H4 D = some (.lst acc) ∧ acc.length < sizeLine ∧ Nx (upd H4 D (.lst (acc ++ [y]))) else Nx H3) := by
  obtain ⟨n, G, Y, w, hn, hG, hY⟩ := w.ex
  rw [filMm_comp, bd_assoc] at k
  refine lc_mir w en (fun _ _ _ => True) k e trivial stab_t hn hz hG hM (fun i s x v F' H' H'' g' _ hx y Q' k' => ?_) hx (fun r v F' H' g' _ d k' => kk r.1 v F' H' g' d k')
  obtain ⟨F'', g2, r⟩ := hY i x v F' H' H'' g' hx y
  exact hb x v F' H' F'' H'' g' g2 r Q' ((post_bd k').mono (fun o q F3 H3 v g3 d => q.h F3 H3 v g3 trivial (by cases o <;> exact d)) fun _ z => z)
end
end Wk

set_option Elab.async false
set_option linter.all false
set_option maxRecDepth 100000
set_option maxHeartbeats 2000000
namespace Wk
open PySem L2 Evl
theorem cdv_small {i j : Int} (h : j ≠ 0 ∧ j.natAbs < 1073741824) : CDv i j := by
  have e : j.natAbs < 2 ^ 30 := by have : (2 : Nat) ^ 30 = 1073741824 := by decide
                                   omega
  exact ⟨h.1, Nat.lt_of_lt_of_le (PySem.Flt.log2_lt_of (by decide) e) (by decide)⟩
/-! ### and, or: the second operand draws -/
section
variable {M : List Addr} {F H : Hp} {σ : L2.St} {α S : Type} {a : Bool} {Y : Mm (Bool × S)} {rest : Bool × S → Mm α} {st : S} {ok : α → Prop} {ex : Er → Prop} {Q : Bool → Hp → Prop} {u : TT} {QV : VK} {uE : TE}
theorem and_jS (W : S → Hp → Hp → Prop) (e : Ex F H) (h0 : W st F H) (k : Post ((cond a Y (.ok (false, st))).bd rest) ok ex)
    (hu : a = true → ∀ Q' : Bool → Hp → Prop, Post Y (fun b => ∀ F' H', Gm M F H F' H' → W b.2 F' H' → Q' b.1 H') ex → u σ H Q')
    (kk : ∀ b F' H', Gm M F H F' H' → W b.2 F' H' → Post (rest b) ok ex → Q b.1 H') : if a = true then u σ H Q else Q false H := by
  cases a with
  | false => rw [if_neg Bool.false_ne_true]; exact kk (false, st) F H (Gm.refl e) h0 ⟨k.h⟩
  | true => rw [if_pos rfl]; exact hu rfl Q ((post_bd k).mono (fun b q F' H' g s => kk b F' H' g s q) fun _ z => z)
theorem or_jS (W : S → Hp → Hp → Prop) (e : Ex F H) (h0 : W st F H) (k : Post ((cond a (.ok (true, st)) Y).bd rest) ok ex)
    (hu : a = false → ∀ Q' : Bool → Hp → Prop, Post Y (fun b => ∀ F' H', Gm M F H F' H' → W b.2 F' H' → Q' b.1 H') ex → u σ H Q')
    (kk : ∀ b F' H', Gm M F H F' H' → W b.2 F' H' → Post (rest b) ok ex → Q b.1 H') : if a = true then Q true H else u σ H Q := by
  cases a with
  | true => rw [if_pos rfl]; exact kk (true, st) F H (Gm.refl e) h0 ⟨k.h⟩
  | false => rw [if_neg Bool.false_ne_true]; exact hu rfl Q ((post_bd k).mono (fun b q F' H' g s => kk b F' H' g s q) fun _ z => z)
/-- as values -/
theorem andV_jS (W : S → Hp → Hp → Prop) (e : Ex F H) (h0 : W st F H) (k : Post ((cond a Y (.ok (false, st))).bd rest) ok ex)
    (hu : a = true → ∀ Q' : VK, Post Y (fun b => ∀ F' H', Gm M F H F' H' → W b.2 F' H' → Q' (.bl b.1) H') ex → uE σ H Q')
    (kk : ∀ b F' H', Gm M F H F' H' → W b.2 F' H' → Post (rest b) ok ex → QV (.bl b.1) H') : if a = true then uE σ H QV else QV (.bl false) H := by
  cases a with
  | false => rw [if_neg Bool.false_ne_true]; exact kk (false, st) F H (Gm.refl e) h0 ⟨k.h⟩
  | true => rw [if_pos rfl]; exact hu rfl QV ((post_bd k).mono (fun b q F' H' g s => kk b F' H' g s q) fun _ z => z)
theorem orV_jS (W : S → Hp → Hp → Prop) (e : Ex F H) (h0 : W st F H) (k : Post ((cond a (.ok (true, st)) Y).bd rest) ok ex)
    (hu : a = false → ∀ Q' : VK, Post Y (fun b => ∀ F' H', Gm M F H F' H' → W b.2 F' H' → Q' (.bl b.1) H') ex → uE σ H Q')
    (kk : ∀ b F' H', Gm M F H F' H' → W b.2 F' H' → Post (rest b) ok ex → QV (.bl b.1) H') : if a = true then QV (.bl true) H else uE σ H QV := by
  cases a with
  | true => rw [if_pos rfl]; exact kk (true, st) F H (Gm.refl e) h0 ⟨k.h⟩
  | false => rw [if_neg Bool.false_ne_true]; exact hu rfl QV ((post_bd k).mono (fun b q F' H' g s => kk b F' H' g s q) fun _ z => z)
end
/-! ### own lists: as data, repeated, popped -/
section
variable {K : PySem.W.Frag} {M : List Addr} {F F' H H' : Hp} {Q : VK} {α : Type} {en : α → PyData} {l m : List α} {xs ys : List V} {a p : Addr} {v : V} {j : Int}
theorem own_dp (h : H p = some (.lst xs)) (a : DqAll K F xs (l.map en)) (e : Ex F H) : Dp K H (.ref p) (eL en l) := .lst (sq_of h) (dqAll_dp _ _ (a.up e))
def repM {α : Type} (l : List α) (k : Int) : Mm (List α) := if -(2 ^ 63) ≤ k ∧ k < 2 ^ 63 ∧ l.length * k.toNat ≤ 100000 then .ok (List.replicate k.toNat l).flatten else .bad
theorem post_rep {β : Type} {f : List α → Mm β} {r : β → Prop} {q : Er → Prop} (h : Post ((repM l j).bd f) r q) : ∃ m, (-(2 ^ 63) ≤ j ∧ j < 2 ^ 63 ∧ l.length * j.toNat ≤ 100000) ∧ (List.replicate j.toNat l).flatten = m ∧ Post (f m) r q := by
  unfold repM at h
  split at h
  · exact ⟨_, ‹_›, rfl, ⟨h.h⟩⟩
  · exact h.h.elim
theorem all_rep (d : DqAll K F xs (l.map en)) : ∀ n : Nat, DqAll K F (List.replicate n xs).flatten ((List.replicate n l).flatten.map en)
  | 0 => .nil
  | n + 1 => by
    rw [List.replicate_succ, List.replicate_succ, List.flatten_cons, List.flatten_cons, List.map_append]
    exact d.app (all_rep d n)
theorem rep_sz (d : DqAll K F xs (l.map en)) {n : Nat} (h : l.length * n ≤ 100000) : xs.length * n ≤ sizeLine := sz_of (by rw [d.len, List.length_map]; exact h)
theorem rep_lst (e : Ex F H) (s : H a = some (.lst xs)) (d : DqAll K F xs (l.map en)) (h : -(2 ^ 63) ≤ j ∧ j < 2 ^ 63 ∧ l.length * j.toNat ≤ 100000) (hm : (List.replicate j.toNat l).flatten = m) (k : Ret M F H (fun F' _ v => Dq K F' v (eL en m)) Q) : rRep (.ref a) (.int j) H Q := by
  subst hm
  refine ⟨a, j, xs, rfl, rfl, s, h.1, h.2.1, rep_sz d h.2.2, fun p hp => ?_⟩
  have g : Gm M F H (upd F p (.lst (List.replicate j.toNat xs).flatten)) (upd H p (.lst (List.replicate j.toNat xs).flatten)) := Gm.new e hp
  exact k _ _ _ g (.lst upd_same ((all_rep d _).up g.f))
theorem rep_own (e : Ex F H) (s : H a = some (.lst xs)) (d : DqAll K F xs (l.map en)) (h : -(2 ^ 63) ≤ j ∧ j < 2 ^ 63 ∧ l.length * j.toNat ≤ 100000) (k : ∀ p H', Gm [] F H F H' → H p = none → (H' p = some (.lst (List.replicate j.toNat xs).flatten) ∧ F p = none) → Q (.ref p) H') : rRep (.ref a) (.int j) H Q :=
  ⟨a, j, xs, rfl, rfl, s, h.1, h.2.1, rep_sz d h.2.2, own_of e k⟩
theorem all_repM (d : DqAll K F xs (l.map en)) (hm : (List.replicate j.toNat l).flatten = m) : DqAll K F (List.replicate j.toNat xs).flatten (m.map en) := by
  subst hm
  exact all_rep d _
def popN {α : Type} (l : List α) : Mm (List α) := match l with
  | [] => .bad
  | x :: r => .ok (x :: r).dropLast
theorem post_pop {β : Type} {f : List α → Mm β} {r : β → Prop} {q : Er → Prop} (h : Post ((popN l).bd f) r q) : l ≠ [] ∧ Post (f l.dropLast) r q := by
  cases l with
  | nil => exact h.h.elim
  | cons x l => exact ⟨by simp, ⟨h.h⟩⟩
theorem all_pop (d : DqAll K F xs (l.map en)) : DqAll K F xs.dropLast (l.dropLast.map en) := by
  have e1 : xs.dropLast = xs.take (xs.length - 1) := List.dropLast_eq_take
  have e2 : l.dropLast.map en = (l.map en).take (xs.length - 1) := by
    rw [List.dropLast_eq_take, List.map_take, d.len, List.length_map]
  rw [e1, e2]
  exact d.take _
theorem pop_at (d : DqAll K F xs (l.map en)) (h : l ≠ []) : ∃ y, xs[xs.length - 1]? = some y := by
  have n : xs.length = l.length := by rw [d.len, List.length_map]
  have : 0 < l.length := List.length_pos_iff.mpr h
  exact ⟨_, List.getElem?_eq_getElem (by omega)⟩
end
/-! ### range that goes down -/
def rangeDn (lo : Int) (n : Nat) : List Int := (List.range n).map fun (i : Nat) => lo - (i : Int)
def rangeM3 (i j : Int) : Mm (List Int) := if -(2 ^ 62) ≤ i ∧ i < 2 ^ 62 ∧ -(2 ^ 62) ≤ j ∧ j < 2 ^ 62 then .ok (rangeDn i (i - j).toNat) else .bad
section
variable {β : Type} {r : β → Prop} {q : Er → Prop} {i j : Int} {f : List Int → Mm β}
theorem post_range3 (h : Post ((rangeM3 i j).bd f) r q) : RgC i j (-1) (i - j).toNat ∧ Post (f (rangeDn i (i - j).toNat)) r q := by
  unfold rangeM3 at h
  split at h
  · rename_i c
    exact ⟨RgC.neg c.1 c.2.1 c.2.2.1 c.2.2.2, ⟨h.h⟩⟩
  · exact h.h.elim
theorem rangeDn_at {lo : Int} {n i : Nat} {x : Int} (h : (rangeDn lo n)[i]? = some x) : x = lo - i := by
  unfold rangeDn at h
  rw [List.getElem?_map] at h
  cases e : (List.range n)[i]? with
  | none => rw [e] at h; cases h
  | some j =>
    rw [e] at h
    obtain ⟨h1, h2⟩ := List.getElem?_eq_some_iff.mp e
    rw [List.getElem_range] at h2
    subst h2
    exact (Option.some.inj h).symm
theorem wlk_rangeDn {M : List Addr} {F H : Hp} {lo : Int} {n : Nat} : Wlk M F H (Itc lo (-1) n) (rangeDn lo n) (fun _ v x => v = V.int x) := by
  refine ⟨_, _, _, walk_rangeC (lo := lo) (c := -1) (n := n), by simp [rangeDn], fun _ _ _ => trivial, fun i x v F' H' H'' g' hx y => ?_⟩
  obtain ⟨rfl, hv⟩ := y
  rw [rangeDn_at hx]
  have e2 : lo + (i : Int) * (-1) = lo - (i : Int) := by omega
  rw [← e2]
  exact ⟨F', Gm.refl g'.s, hv⟩
end
/-! ### comprehensions whose list may change -/
section
variable {K : PySem.W.Frag} {M : List Addr} {F H : Hp} {σ : L2.St} {g : TG} {tt : TT} {te : TE} {vs : List Nat} {α β γ S : Type} {l : List α} {f : S → α → Mm (Option γ × S)} {rest : List γ × S → Mm β} {ok : β → Prop} {ex : Er → Prop} {s0 : S} {J : It} {n : Nat} {G : Hp → Prop} {Y : Nat → Hp → V → Hp → Prop} {Q : VK}
theorem lc_mirO (w : Walk J n G Y) (en : γ → PyData) (I : S → Hp → Hp → Prop) (k : Post ((compM f s0 l).bd rest) ok ex) (e : Ex F H) (h0 : I s0 F H) (st : Stab I H) (hn : l.length = n) (hz : l.length ≤ 50000) (hG : ∀ F' H', Gm M F H F' H' → G H')
    (hM : ∀ D, H D = none → D ∉ M)
    (hb : ∀ i s x v F' H' H'', Gm M F H F' H' → I s F' H' → l[i]? = some x → Y i H' v H'' → ∀ Q : Option V → Hp → Prop,
      Post (f s x) (fun o => ∀ F2 H2 v, Gm M F' H' F2 H2 → I o.2 F2 H2 → (match o.1 with
        | some y => ∃ u, v = some u ∧ Dq K F2 u (en y)
        | none => v = none) → Q v H2) (fun _ => False) →
      g v (wipe σ vs) H'' fun σ2 H2 => wipe σ2 vs = wipe σ vs ∧ tt σ2 H2 fun b H3 => if b = true then te σ2 H3 fun y H4 => Q (some y) H4 else Q none H3)
    (hx : ∀ e, ¬ ex e)
    (kk : ∀ (r : List γ × S) D xs F' H', Gm M F H F' H' → I r.2 F' H' → H D = none → (H' D = some (.lst xs) ∧ F' D = none) → DqAll K F' xs (r.1.map en) → Post (rest r) ok ex → Q (.ref D) H') :
    ∀ D, H D = none → ∃ W : Nat → Nat → Hp → Prop, (∃ m, W 0 m (upd H D (.lst []))) ∧ ∀ i m H, W i m H →
      (J.stop i H ∧ Q (.ref D) H) ∨ (J.go i H ∧ ∃ Nx : Hp → Prop, (∀ H', Nx H' → ∃ m', m' < m ∧ W (i + 1) m' H') ∧ ∀ x H', J.yld i H x H' → g x (wipe σ vs) H' fun σ2 H2 => wipe σ2 vs = wipe σ vs ∧ tt σ2 H2 fun b H3 =>
        if b = true then te σ2 H3 fun y H4 => ∃ acc, H4 D = some (.lst acc) ∧ acc.length < sizeLine ∧ Nx (upd H4 D (.lst (acc ++ [y]))) else Nx H3) := by
  intro D hD
  have k0 : Post ((compM f s0 (l.drop 0)).bd fun r => rest ([] ++ r.1, r.2)) ok ex := by simpa using k
  refine lc_it w (fun i H' => ∃ (s : S) (acc : List γ) (xs : List V) (F' : Hp), Gm M F H F' H' ∧ I s F' H' ∧ H' D = some (.lst xs) ∧ F' D = none ∧ DqAll K F' xs (acc.map en) ∧ xs.length ≤ i ∧ Post ((compM f s (l.drop i)).bd fun r => rest (acc ++ r.1, r.2)) ok ex)
    ⟨s0, [], [], F, Gm.newM e hD, st.put s0 F H D _ h0 hD, upd_same, ?_, .nil, Nat.le_refl _, k0⟩ (fun i H' _ ⟨s, acc, xs, F', g', _⟩ => hG F' H' g') ?_ ?_
  · cases q : F D with
    | none => rfl
    | some u => rw [e D u q] at hD; cases hD
  · rintro i v H' H'' hi ⟨s, acc, xs, F', g', i', hL, fL, ha, hlen, k'⟩ y
    have hl : i < l.length := by omega
    have e1 : l.drop i = l[i] :: l.drop (i + 1) := List.drop_eq_getElem_cons hl
    rw [e1] at k'
    have k2 := comp_post k'
    have hDM : D ∉ M := hM D hD
    have z := hb i s l[i] v F' H' H'' g' i' (List.getElem?_eq_getElem hl) y (fun o H4 => match o with
      | some y => ∃ acc', H4 D = some (.lst acc') ∧ acc'.length < sizeLine ∧ ∃ (s : S) (acc : List γ) (xs : List V) (F' : Hp), Gm M F H F' (upd H4 D (.lst (acc' ++ [y]))) ∧ I s F' (upd H4 D (.lst (acc' ++ [y]))) ∧ (upd H4 D (.lst (acc' ++ [y]))) D = some (.lst xs) ∧ F' D = none ∧ DqAll K F' xs (acc.map en) ∧ xs.length ≤ i + 1 ∧ Post ((compM f s (l.drop (i + 1))).bd fun r => rest (acc ++ r.1, r.2)) ok ex
      | none => ∃ (s : S) (acc : List γ) (xs : List V) (F' : Hp), Gm M F H F' H4 ∧ I s F' H4 ∧ H4 D = some (.lst xs) ∧ F' D = none ∧ DqAll K F' xs (acc.map en) ∧ xs.length ≤ i + 1 ∧ Post ((compM f s (l.drop (i + 1))).bd fun r => rest (acc ++ r.1, r.2)) ok ex)
      (k2.mono (fun o q F2 H2 v2 g2 i2 hv => ?_) fun e z => (hx e z).elim)
    · exact z
    · obtain ⟨h2L, f2L⟩ := g2.own hDM hL fL
      obtain ⟨o1, o2⟩ := o
      cases o1 with
      | some y =>
        obtain ⟨u, rfl, hu⟩ := hv
        refine ⟨xs, h2L, sz_lt (by omega), o2, acc ++ [y], xs ++ [u], F2, ?_, st.put _ _ _ _ _ i2 hD, upd_same, f2L, ?_, ?_, ?_⟩
        · exact (g'.trans g2).putYoung h2L f2L hD
        · rw [List.map_append]; exact (ha.up g2.f).app (.cons hu .nil)
        · rw [List.length_append, List.length_singleton]; omega
        · simpa using q
      | none =>
        subst hv
        refine ⟨o2, acc, xs, F2, g'.trans g2, i2, h2L, f2L, ha.up g2.f, by omega, ?_⟩
        simpa using q
  · rintro H' ⟨s, acc, xs, F', g', i', hL, fL, ha, hlen, k'⟩
    rw [← hn, List.drop_length] at k'
    exact kk (acc, s) D xs F' H' g' i' hD ⟨hL, fL⟩ ha (by simpa [compM] using k')
end
section
variable {K : PySem.W.Frag} {M : List Addr} {F H : Hp} {σ : L2.St} {g : TG} {tt : TT} {te : TE} {vs : List Nat} {α β γ S : Type} {l : List α} {ok : β → Prop} {ex : Er → Prop} {s0 : S} {J : It} {R : Hp → V → α → Prop} {Q : VK}
theorem lc_mapO {f : α → Mm γ} {rest : List γ → Mm β} (w : Wlk M F H J l R) (en : γ → PyData) (k : Post ((mapMm f l).bd rest) ok ex) (e : Ex F H) (hz : l.length ≤ 50000) (hM : ∀ D, H D = none → D ∉ M)
    (hb : ∀ x v F1 H1 F2 H2, Gm M F H F1 H1 → Gm [] F1 H1 F2 H2 → R F2 v x → ∀ Q : VK, Post (f x) (fun y => Ret M F1 H1 (fun F3 _ u => Dq K F3 u (en y)) Q) (fun _ => False) →
      g v (wipe σ vs) H2 fun σ2 H3 => wipe σ2 vs = wipe σ vs ∧ te σ2 H3 Q)
    (hx : ∀ e, ¬ ex e) (kk : ∀ (r : List γ) D xs F' H', Gm M F H F' H' → H D = none → (H' D = some (.lst xs) ∧ F' D = none) → DqAll K F' xs (r.map en) → Post (rest r) ok ex → Q (.ref D) H') (mono : GMon g) :
    ∀ D, H D = none → ∃ W : Nat → Nat → Hp → Prop, (∃ m, W 0 m (upd H D (.lst []))) ∧ ∀ i m H, W i m H →
      (J.stop i H ∧ Q (.ref D) H) ∨ (J.go i H ∧ ∃ Nx : Hp → Prop, (∀ H', Nx H' → ∃ m', m' < m ∧ W (i + 1) m' H') ∧ ∀ x H', J.yld i H x H' → g x (wipe σ vs) H' fun σ2 H2 => wipe σ2 vs = wipe σ vs ∧ tYes σ2 H2 fun b H3 =>
        if b = true then te σ2 H3 fun y H4 => ∃ acc, H4 D = some (.lst acc) ∧ acc.length < sizeLine ∧ Nx (upd H4 D (.lst (acc ++ [y]))) else Nx H3) := by
  obtain ⟨n, G, Y, w, hn, hG, hY⟩ := w.ex
  rw [mapMm_comp, bd_assoc] at k
  refine lc_mirO w en (fun _ _ _ => True) k e trivial stab_t hn hz hG hM (fun i s x v F' H' H'' g' _ hx y Q' k' => ?_) hx (fun r D xs F' H' g' _ hD o d k' => kk r.1 D xs F' H' g' hD o d k')
  obtain ⟨F'', g2, r⟩ := hY i x v F' H' H'' g' hx y
  refine mono _ _ _ _ _ (fun σ2 H3 z => ⟨z.1, ?_⟩) (hb x v F' H' F'' H'' g' g2 r (fun u H4 => Q' (some u) H4) ((post_bd k').mono (fun y q u F3 H3 g3 d => q.h F3 H3 _ g3 trivial ⟨u, rfl, d⟩) fun _ z => z))
  exact tYes_of (iteT z.2)
theorem lc_stO {f : Rw → α → Mm (γ × Rw)} {s0 : Rw} {rest : List γ × Rw → Mm β} {sc ra : Addr} {scr : List Int} (w : Wlk [ra] F H J l R) (en : γ → PyData) (k : Post ((mapSt f s0 l).bd rest) ok ex) (e : Ex F H) (hz : l.length ≤ 50000) (h0 : RowAt K sc ra scr F H s0)
    (hb : ∀ s x v F1 H1 F2 H2, Gm [ra] F H F1 H1 → RowAt K sc ra scr F1 H1 s → Gm [] F1 H1 F2 H2 → R F2 v x → ∀ Q : VK, Post (f s x) (fun y => Ret [ra] F1 H1 (fun F3 H3 u => Dq K F3 u (en y.1) ∧ RowAt K sc ra scr F3 H3 y.2) Q) (fun _ => False) →
      g v (wipe σ vs) H2 fun σ2 H3 => wipe σ2 vs = wipe σ vs ∧ te σ2 H3 Q)
    (hx : ∀ e, ¬ ex e) (kk : ∀ (r : List γ × Rw) D xs F' H', Gm [ra] F H F' H' → H D = none → (H' D = some (.lst xs) ∧ F' D = none) → DqAll K F' xs (r.1.map en) → RowAt K sc ra scr F' H' r.2 → Post (rest r) ok ex → Q (.ref D) H') (mono : GMon g) :
    ∀ D, H D = none → ∃ W : Nat → Nat → Hp → Prop, (∃ m, W 0 m (upd H D (.lst []))) ∧ ∀ i m H, W i m H →
      (J.stop i H ∧ Q (.ref D) H) ∨ (J.go i H ∧ ∃ Nx : Hp → Prop, (∀ H', Nx H' → ∃ m', m' < m ∧ W (i + 1) m' H') ∧ ∀ x H', J.yld i H x H' → g x (wipe σ vs) H' fun σ2 H2 => wipe σ2 vs = wipe σ vs ∧ tYes σ2 H2 fun b H3 =>
        if b = true then te σ2 H3 fun y H4 => ∃ acc, H4 D = some (.lst acc) ∧ acc.length < sizeLine ∧ Nx (upd H4 D (.lst (acc ++ [y]))) else Nx H3) := by
  obtain ⟨n, G, Y, w, hn, hG, hY⟩ := w.ex
  rw [mapSt_comp] at k
  refine lc_mirO w en (fun s F H => RowAt K sc ra scr F H s) k e h0 (stab_row h0) hn hz hG (row_notM h0) (fun i s x v F' H' H'' g' i' hx y Q' k' => ?_) hx (fun r D xs F' H' g' i' hD o d k' => kk r D xs F' H' g' hD o d i' k')
  obtain ⟨F'', g2, r⟩ := hY i x v F' H' H'' g' hx y
  refine mono _ _ _ _ _ (fun σ2 H3 z => ⟨z.1, ?_⟩) (hb s x v F' H' F'' H'' g' i' g2 r (fun u H4 => Q' (some u) H4) ((post_bd k').mono (fun y q u F3 H3 g3 d => q.h F3 H3 _ g3 d.2 ⟨u, rfl, d.1⟩) fun _ z => z))
  exact tYes_of (iteT z.2)
end
end Wk

set_option Elab.async false
set_option linter.all false
set_option maxRecDepth 100000
set_option maxHeartbeats 4000000
namespace Wk
open PySem L2 Evl PySem.Spec PyProof.Rows
/-! ### zip of a tuple and a list -/
/-- the tuple at a and the list at b, side by side -/
def ItzM (K : PySem.W.Frag) (a b : Addr) : It :=
  ⟨fun n H => ∃ (us vs : List V) (u v : V), (SqT K H a us ∧ us[n]? = some u) ∧ SqL K H b vs ∧ vs[n]? = some v,
   fun n H r H' => ∃ c u v, r = .ref c ∧ H c = none ∧ H' = upd H c (.tup [u, v]) ∧ (∀ l, SqT K H a l → l[n]? = some u) ∧ ∀ l, SqL K H b l → l[n]? = some v,
   fun n H => ∃ us vs : List V, (SqT K H a us ∧ SqL K H b vs) ∧ (n ≤ us.length ∧ n ≤ vs.length) ∧ (n = us.length ∨ n = vs.length)⟩
/-- where such a zip stands -/
structure StM (z TI TO i1 i2 a b : Addr) (n : Nat) (h : Heap) : Prop where
  hz : IsZip h z TI TO .none
  hi : IsTupOf2 h TI (.ref i1) (.ref i2)
  ho : ∃ p q, IsTupOf2 h TO p q
  h1 : h.IsTupleIter i1 a n
  h2 : h.IsListIter i2 b n
theorem five {α : Type} {c z TI TO i1 i2 : α} (h : c ∈ [z, TI, TO, i1, i2]) : c = z ∨ c = TI ∨ c = TO ∨ c = i1 ∨ c = i2 := by simpa using h
theorem turn_zipM {P : Program} {w : World} {K : PySem.W.Frag} {es : List Expr} {kk : Nat} {tp : Pos} {a b z TI TO i1 i2 : Addr} (S : ZipSep2 z TI TO i1 i2 [i1, a] [i2, b]) (na : a ≠ i1) (nb : b ≠ i2) :
    Turn P w K (.Tuple es kk tp) (ItzM K a b) [z, TI, TO, i1, i2] z (StM z TI TO i1 i2 a b) where
  mem := by simp
  obj := fun n h st c hc => by
    obtain ⟨hz, hi, ⟨p, q, ho⟩, ⟨o1, e1, _, d1⟩, ⟨o2, e2, _, d2⟩⟩ := st
    rcases five hc with rfl | rfl | rfl | rfl | rfl
    · exact ⟨_, hz, fun _ k => nomatch k⟩
    · exact ⟨_, hi, fun _ k => nomatch k⟩
    · exact ⟨_, ho, fun _ k => nomatch k⟩
    · exact ⟨o1, e1, fun _ k => by rw [d1] at k; cases k⟩
    · exact ⟨o2, e2, fun _ k => by rw [d2] at k; cases k⟩
  keep := fun n h h' st k => by
    obtain ⟨hz, hi, ⟨p, q, ho⟩, h1, h2⟩ := st
    exact ⟨k z (by simp) _ hz, k TI (by simp) _ hi, ⟨p, q, k TO (by simp) _ ho⟩, h1.at fun o e => k i1 (by simp) o e, h2.at fun o e => k i2 (by simp) o e⟩
  item := by
    intro X hP hw hK hc n pins s σ H E I hf st hg
    subst hP hw hK
    obtain ⟨hz, hi, ⟨p0, q0, ho⟩, h1, h2⟩ := st
    obtain ⟨us, vs, u, v, ⟨qa, ga⟩, qb, gb⟩ := hg
    obtain ⟨A1, ra, pa, _⟩ := I.tuple qa
    obtain ⟨A2, rb, pb, _⟩ := I.list qb
    obtain ⟨x, hx, rx⟩ := ra.get ga
    obtain ⟨y, hy, ry⟩ := rb.get gb
    have lz : z < s.heap.objs.size := Heap.lt_size hz
    have pT : s.heap.IsTuple a A1.toArray := pa
    have pL : s.heap.IsList b A2.toArray := pb.isList
    have hand : X.A.in1.handled = none := I.ok.hd hc
    have D1 := Draws.tuple (prog := X.prog) (w := X.w) (A := X.A.in1) hand i1 a na A1.toArray
    have D2 := Draws.list (prog := X.prog) (w := X.w) (A := X.A.in1) hand i2 b nb A2.toArray
    have n1 : n < A1.toArray.size := by
      have := (List.getElem?_eq_some_iff.mp hx).1
      simpa using this
    have n2 : n < A2.toArray.size := by
      have := (List.getElem?_eq_some_iff.mp hy).1
      simpa using this
    refine wpAny_pyNext_zipD2_item S D1 D2 hz hi ho ⟨h1, pT⟩ ⟨h2, pL⟩ n1 n2 fun x' y' h' tk ex ey z' o' s1' s2' hT hsz hk => ?_
    have e1 : x = x' := by
      have k : A1.toArray[n]? = some x := by simpa using hx
      exact Option.some.inj (k.symm.trans ex)
    have e2 : y = y' := by
      have k : A2.toArray[n]? = some y := by simpa using hy
      exact Option.some.inj (k.symm.trans ey)
    subst e1 e2
    refine ⟨_, rfl, wpAny_letOwnedTupleGo_zip (s := { s with heap := h', toks := tk }) z' fun h'' z'' sb => ?_⟩
    have cell : h''.get? s.heap.objs.size = some { cls := .type "tuple", data := .seq #[x, y] } := (sb.2 _ (Nat.ne_of_gt lz)).trans hT
    have new : ObjOk X.prog X.w (upd H s.heap.objs.size (.tup [u, v])) h'' s.heap.objs.size (.tup [u, v]) := by
      refine ⟨?_, [x, y], .cons rx (.cons ry .nil), _, cell, rfl, _, rfl⟩
      show 2 ≤ sizeLine
      decide
    have same : ∀ c o, c ∉ [z, TI, TO, i1, i2] → s.heap.get? c = some o → h''.get? c = some o := fun c o hn e => by
      simp only [List.mem_cons, List.not_mem_nil, or_false, not_or] at hn
      exact (sb.2 c hn.1).trans (hk c o hn.1 hn.2.2.1 hn.2.2.2.1 hn.2.2.2.2 e)
    have J := I.turnedNew (t' := tk) (ch := [z, TI, TO, i1, i2]) same hf (Nat.le_refl _) new
    obtain ⟨it1, _⟩ := s1'
    obtain ⟨it2, _⟩ := s2'
    have dz : i1 ≠ z := fun e => S.zi1 e.symm
    have dz2 : i2 ≠ z := fun e => S.zi2 e.symm
    refine ⟨.ref s.heap.objs.size, _, J, rfl, ⟨_, u, v, rfl, I.hok.fresh (Nat.le_refl _), rfl, fun l hl => ?_, fun l hl => ?_⟩, ⟨z'', ?_, ⟨x, y, ?_⟩, it1.at fun o q => (sb.2 _ dz).trans q, it2.at fun o q => (sb.2 _ dz2).trans q⟩, fun c hc' => ?_⟩
    · rw [I.tuple_inj hl qa]
      exact ga
    · rw [I.list_inj hl qb]
      exact gb
    · exact (sb.2 _ S.TIz).trans (hk _ _ S.TIz S.TITO S.TIi1 S.TIi2 hi)
    · exact (sb.2 _ S.TOz).trans o'
    · have lt : c < s.heap.objs.size := by
        rcases five hc' with rfl | rfl | rfl | rfl | rfl
        · exact lz
        · exact Heap.lt_size hi
        · exact Heap.lt_size ho
        · obtain ⟨_, q, _⟩ := h1
          exact Heap.lt_size q
        · obtain ⟨_, q, _⟩ := h2
          exact Heap.lt_size q
      rw [upd_ne (Nat.ne_of_lt lt)]
      exact (hf c hc').1
  done := by
    intro X hP hw hK hc n pins s σ H E I hf st hg
    subst hP hw hK
    obtain ⟨hz, hi, ⟨p0, q0, ho⟩, h1, h2⟩ := st
    obtain ⟨us, vs, ⟨qa, qb⟩, ⟨l1, l2⟩, hend⟩ := hg
    obtain ⟨A1, ra, pa, _⟩ := I.tuple qa
    obtain ⟨A2, rb, pb, _⟩ := I.list qb
    have w1 := ra.length
    have w2 := rb.length
    have pT : s.heap.IsTuple a A1.toArray := pa
    have pL : s.heap.IsList b A2.toArray := pb.isList
    have hand : X.A.in1.handled = none := I.ok.hd hc
    have D1 := Draws.tuple (prog := X.prog) (w := X.w) (A := X.A.in1) hand i1 a na A1.toArray
    have D2 := Draws.list (prog := X.prog) (w := X.w) (A := X.A.in1) hand i2 b nb A2.toArray
    have m1 : A1.toArray.size = us.length := by simp only [List.size_toArray]; omega
    have m2 : A2.toArray.size = vs.length := by simp only [List.size_toArray]; omega
    refine wpAny_pyNext_zipD2_end S D1 D2 hz hi ho ⟨h1, pT⟩ ⟨h2, pL⟩ (by omega) (by omega) (by omega) fun h' tk hk => ⟨rfl, I.turnedL (t' := tk) (ch := [z, TI, TO, i1, i2]) (fun c o hn e => ?_) hf⟩
    simp only [List.mem_cons, List.not_mem_nil, or_false, not_or] at hn
    exact hk c o hn.1 hn.2.2.1 hn.2.2.2.1 hn.2.2.2.2 e
  self := fun A i s Q E st h => wpAny_pyIter_zip st.hz h
def iZipM (K : PySem.W.Frag) (ta : TA) : TI := fun σ H R => ta σ H fun rs H1 => ∃ a b us vs, rs = [.ref a, .ref b] ∧ (SqT K H1 a us ∧ SqL K H1 b vs) ∧ R (ItzM K a b) H1
theorem pi_zipM {X : Cx} {e e2 : Expr} {ta : TA} {p pos tp : Pos} {es : List Expr} {kk : Nat} (hg : Gl X "zip") (hm : X.mg "zip" = none) (ha : PA X [e, e2] ta)
    (hs : starEach [e, e2] X.env = (false, eval e X.env) :: starEach [e2] X.env := by rfl) (hp : (backTo pos (starEach [e2] X.env)).any (·.1) = false := by rfl) :
    PI X (.Tuple es kk tp) (.Call (.Name "zip" p) [e, e2] [] pos) (iZipM X.K ta) := by
  refine ⟨fun pins s σ H R I h => Call_ (ld_blt I hg hm PyProof.Rows.boot_zip (PyProof.Rows.callWith_type1 (thn (ha.run pos pins s σ H _ I h) fun rs s1 got => ?_) hs hp))⟩
  obtain ⟨vs', H1, I1, rel, a, b, us, vs, rfl, ⟨qa, qb⟩, q⟩ := got
  cases rel with
  | cons r1 rel =>
    cases rel with
    | cons r2 rel =>
      cases rel
      cases r1
      cases r2
      obtain ⟨A1, ra, pa, _⟩ := I1.tuple qa
      obtain ⟨A2, rb, pb, _⟩ := I1.list qb
      have pT : s1.heap.IsTuple a A1.toArray := pa
      have pL : s1.heap.IsList b A2.toArray := pb.isList
      have la : a < s1.heap.objs.size := by
        obtain ⟨o, g, _⟩ := pT
        exact Heap.lt_size g
      have lb : b < s1.heap.objs.size := by
        obtain ⟨o, g, _⟩ := pL
        exact Heap.lt_size g
      refine zip_begins2 (begins_tuple a A1.toArray) (begins_list b A2.toArray) pT pL fun h' hz hi ho g1 g2 hsz hk => wpAny_pyIter_zip hz ?_
      have I2 : Inv X pins σ H1 { s1 with heap := h' } := I1.kept (t' := s1.toks) hk
      have S := zip_sep2 (N := s1.heap.objs.size) (fp1 := [a]) (fp2 := [b]) (fun c hc => by rw [List.mem_singleton.mp hc]; exact la) (fun c hc => by rw [List.mem_singleton.mp hc]; exact lb)
      refine ⟨_, _, _, _, H1, rfl, I2, turn_zipM (a := a) (b := b) S (Nat.ne_of_lt la) (Nat.ne_of_lt (Nat.lt_succ_of_lt lb)), ⟨hz, hi, ⟨_, _, ho⟩, ⟨_, g1, rfl, rfl⟩, ⟨_, g2, rfl, rfl⟩⟩, fun c hc => ?_, q⟩
      have le : s1.heap.objs.size ≤ c := by
        rcases five hc with rfl | rfl | rfl | rfl | rfl
        · exact Nat.le_add_right _ _
        · exact Nat.le_add_right _ _
        · exact Nat.le_add_right _ _
        · exact Nat.le_refl _
        · exact Nat.le_add_right _ _
      exact I1.fpOk le (I1.hok.fresh le)
section
variable {K : PySem.W.Frag} {M : List Addr} {F H : Hp} {α α' : Type} {us vs : List V} {l : List α} {l' : List α'} {en : α → PyData} {en' : α' → PyData} {a b : Addr}
theorem wlk_zipM (e : Ex F H) (h : SqT K F a us) (da : DqAll K F us (l.map en)) (h' : F b = some (.lst vs)) (da' : DqAll K F vs (l'.map en')) : Wlk M F H (ItzM K a b) (l.zip l') (fun F v x => Dq K F v (e2 en en' x)) := by
  have hl : us.length = l.length := by rw [da.len, List.length_map]
  have hl' : vs.length = l'.length := by rw [da'.len, List.length_map]
  refine ⟨min us.length vs.length, fun H => SqT K H a us ∧ SqL K H b vs, YPair (fun i => us[i]?) (fun i => vs[i]?), ⟨fun i _ hi q => ⟨us, vs, us[i], vs[i], ⟨q.1, by simp⟩, q.2, by simp⟩, fun _ q => ⟨us, vs, q, by omega, by omega⟩, fun i H v H' _ q y => ?_⟩, by rw [List.length_zip, hl, hl'], fun F' H' g' => ⟨ex_t g'.s (ex_t g'.f h), sq_of (g'.s _ _ (g'.f _ _ h'))⟩, fun i x v F' H' H'' g' hx y => ?_⟩
  · obtain ⟨T, x, y, h1, h2, h3, h4, h5⟩ := y
    exact ⟨T, x, y, h1, h2, h3, h4 us q.1, h5 vs q.2⟩
  · obtain ⟨c, u, w, rfl, hc, rfl, h1, h2⟩ := y
    obtain ⟨d1, k1, q1⟩ := (da.up g'.f).getV h1
    obtain ⟨d2, k2, q2⟩ := (da'.up g'.f).getV h2
    obtain ⟨x1, x2⟩ := x
    obtain ⟨hx1, hx2⟩ := List.getElem?_zip_eq_some.mp hx
    have f1 : l[i]? = some x1 := hx1
    have f2 : l'[i]? = some x2 := hx2
    rw [List.getElem?_map, f1] at k1
    rw [List.getElem?_map, f2] at k2
    cases k1
    cases k2
    have g2 : Gm [] F' H' (upd F' c (.tup [u, w])) (upd H' c (.tup [u, w])) := Gm.new g'.s hc
    refine ⟨_, g2, .tup (st_of upd_same) (.cons (q1.up g2.f) (.cons (q2.up g2.f) .nil))⟩
end
end Wk

set_option Elab.async false
set_option linter.all false
set_option maxRecDepth 100000
set_option maxHeartbeats 2000000
namespace Wk
open PySem L2 Evl
section
variable {K : PySem.W.Frag} {M : List Addr} {F H : Hp} {Q : VK} {j : Int}
/-- list(range(j)) -/
theorem lst_rg (e : Ex F H) (h : 0 ≤ j ∧ j ≤ 100000) (k : Ret M F H (fun F' _ v => Dq K F' v (eL PyData.int (rangeL 0 j.toNat))) Q) : RgOk 0 j ∧ ∀ q, H q = none → Q (.ref q) (upd H q (.lst (rgV 0 j))) :=
  ⟨RgOk.of_le (by omega) (by omega) (by omega) (by omega), fun p hp => by
    have g : Gm M F H (upd F p (.lst (rgV 0 j))) (upd H p (.lst (rgV 0 j))) := Gm.new e hp
    have e1 : rgV 0 j = (rangeL 0 j.toNat).map V.int := by
      unfold rgV rangeL
      rw [List.map_map, Int.sub_zero]
      rfl
    refine k _ _ _ g (.lst upd_same ?_)
    rw [e1]
    exact ints_all _⟩
end
/-! ### an int in a tuple of ints -/
section
variable {X : Cx}
def rInV (K : PySem.W.Frag) : R2 := fun x y H Q => ∃ (a : Int) (l : List Int), Dp K H x (.int a) ∧ Dp K H y (eV PyData.int l) ∧ Q (.bl (hasM l a)) H
def rNotInV (K : PySem.W.Frag) : R2 := fun x y H Q => ∃ (a : Int) (l : List Int), Dp K H x (.int a) ∧ Dp K H y (eV PyData.int l) ∧ Q (.bl (!hasM l a)) H
theorem dpAll_ints {K : PySem.W.Frag} {H : Hp} : ∀ {l : List Int} {xs : List V}, DpAll K H xs (l.map PyData.int) → xs = l.map V.int
  | [], _, h => by cases h; rfl
  | i :: l, _, h => by
    cases h with
    | cons h hr =>
      cases h
      rw [dpAll_ints hr]
      rfl
theorem flat_ints : ∀ l : List Int, (l.map V.int).all flatV = true
  | [] => rfl
  | i :: l => by rw [List.map_cons, List.all_cons, flat_ints l]; rfl
theorem inV_ints (a : Int) : ∀ l : List Int, inV (V.int a) (l.map V.int) = hasM l a
  | [] => rfl
  | i :: l => by
    have e := inV_ints a l
    unfold inV hasM at e ⊢
    rw [List.map_cons, List.any_cons, e, List.contains_cons]
    congr 1
    show decide (i = a) = decide (a = i)
    exact decide_eq_decide.mpr ⟨Eq.symm, Eq.symm⟩
theorem op_inV : OpR X (compareOp .In) (rInV X.K) := by
  intro pins s σ H x y v u Q I rx ry h
  obtain ⟨a, l, hx, hy, q⟩ := h
  cases hx
  cases hy with
  | tup st da =>
    obtain rfl := dpAll_ints da
    refine op_in_seq pins s σ H _ _ v u Q I rx ry ⟨_, _, rfl, .inr st, rfl, flat_ints l, ?_⟩
    rw [if_neg Bool.false_ne_true, inV_ints]
    exact q
theorem op_notInV : OpR X (compareOp .NotIn) (rNotInV X.K) := by
  intro pins s σ H x y v u Q I rx ry h
  obtain ⟨a, l, hx, hy, q⟩ := h
  cases hx
  cases hy with
  | tup st da =>
    obtain rfl := dpAll_ints da
    refine op_notIn_seq pins s σ H _ _ v u Q I rx ry ⟨_, _, rfl, .inr st, rfl, flat_ints l, ?_⟩
    rw [if_pos rfl, inV_ints]
    exact q
end
/-! ### the run's equation, part by part -/
section
open PySem.W PySem.Calls PyProof.Rows HandSHeadRun
theorem runI_of3 {r : OpenRow} {q : Program} {H : Hook} {ob : SharedT → H.α} {M : Nat} {loose : List PySem.Str} {w : World}
    (h1 : (wholeF (fun p => stepQ (denQ tabQ) p w) fenceQ M r.prog).map (fun x => looksF r.prog x.1.heap x.2.abs) = some true)
    (h2 : (wholeF (fun p => stepQ (denQ tabQ) p w) fenceQ M r.prog).map (fun x => seenQ q loose (importedModules r.prog.main.body) (fun s => xlAt q [] s && recOk r.toRowW.records s) x.2.abs) = some (openGood q loose))
    (h3 : (wholeF (fun p => stepQ (denQ tabQ) p w) fenceQ M r.prog).map (fun x => ob x.2) = some (H.val w)) : RunEqI r q H ob M loose w := by
  unfold RunEqI
  generalize wholeF (fun p => stepQ (denQ tabQ) p w) fenceQ M r.prog = o at h1 h2 h3 ⊢
  cases o with
  | none => cases h1
  | some x =>
    have e1 := Option.some.inj h1
    have e2 := Option.some.inj h2
    have e3 := Option.some.inj h3
    exact congrArg some (Prod.ext e1 (Prod.ext e2 e3))
end
end Wk

set_option Elab.async false
set_option linter.all false
set_option maxRecDepth 100000
set_option maxHeartbeats 4000000
namespace Wk
open PySem L2 Evl PySem.Spec PyProof.Rows
theorem tuple_mulW1 (l : Addr) (items : Array Value) (n : Nat) (dd : Option Addr) (sl : Array (Option Value)) (u : Tok) :
    Meets (Builtin.«tuple.__mul__» ⟨[.ref l, .int 1 u], []⟩) (fun _ R s => s.heap.get? l = some { cls := .type "tuple", dict := dd, data := .seq items n, slots := sl } ∧ R (.ok (.ret (Value.ref l))) s) :=
  .of_wp fun prog w A R s h => by
    obtain ⟨hp, g, d, tk, os⟩ := s
    obtain ⟨hl, h⟩ := h
    have f1 := AutoSeq1.idx_int
    have c0 : (decide ((1 : Int) < -(2 ^ 63)) || decide ((1 : Int) ≥ 2 ^ 63)) = false := by decide
    have c1 : (items.isEmpty || (1 : Int) == 1) = true := by simp
    wp_walk using wpAny_loadPart' hl
    repeat (first
      | (refine wpAny_ite_false (decide_eq_false (by rw [c0]; exact Bool.false_ne_true)) ?_; wp_walk using wpAny_loadPart' hl)
      | (refine wpAny_ite_true (decide_eq_true (by rw [c1])) ?_; wp_walk using wpAny_loadPart' hl))
    exact ⟨_, rfl, h⟩
def rRepTM (K : PySem.W.Frag) : R2 := fun x y H Q => ∃ l k xs, x = .ref l ∧ y = .int k ∧ SqT K H l xs ∧ xs ≠ [] ∧ 1 ≤ k ∧ k ≤ 1000 ∧ xs.length ≤ 1000 ∧ (k = 1 → Q (.ref l) H) ∧ (2 ≤ k → ∀ p, H p = none → Q (.ref p) (upd H p (.tup (List.replicate k.toNat xs).flatten)))
theorem op_repTM {X : Cx} : OpR X (binaryOp .Mult) (rRepTM X.K) := by
  intro pins s σ H x y v u Q I rx ry h
  obtain ⟨l, k, xs, rfl, rfl, hT, hne, h1, h2, hz, q1, q2⟩ := h
  by_cases e : k = 1
  · subst e
    cases rx
    obtain ⟨t, rfl⟩ := ry
    obtain ⟨its, r, ⟨⟨cls, dd, data, sl⟩, ho, hc, n, hd⟩, hs⟩ := I.tuple hT
    simp only at hc hd
    subst hc hd
    refine wpAny_binaryOp_repeat_ref (T := "tuple") (U := "int") (by decide) ⟨_, ho, rfl⟩ (fun s' => typeIs_int s' 1 t) noFill_tuple_mul F.fills_int_mul F.slot_int_rmul repeat_tuple F.slot_int_index.lookup
      (call_meets F.slot_int_rmul (typeIs_int s 1 t) F.entry_int_rmul (F.args_int_rmul_2 _ _) (int_rmul_tuple 1 t l its.toArray n dd sl)
        ⟨ho, rfl, ⟨_, ho, rfl⟩, call_meets F.slot_tuple_mul ⟨_, ho, rfl⟩ F.entry_tuple_mul (F.args_tuple_mul_2 _ _) (tuple_mulW1 l its.toArray n dd sl t) ⟨ho, ?_⟩⟩)
    exact ⟨.ref l, H, I, rfl, q1 rfl⟩
  · exact op_repT pins s σ H _ _ v u Q I rx ry ⟨l, k, xs, rfl, rfl, hT, hne, by omega, h2, hz, q2 (by omega)⟩
section
variable {K : PySem.W.Frag} {M : List Addr} {F H : Hp} {Q : VK} {α : Type} {en : α → PyData} {l : List α} {xs : List V} {a : Addr} {j : Int}
/-- a tuple, repeated -/
theorem rep_tup (e : Ex F H) (s : SqT K F a xs) (d : DqAll K F xs (l.map en)) (h : 1 ≤ l.length ∧ l.length ≤ 1000 ∧ 1 ≤ j ∧ j ≤ 1000) (k : Ret M F H (fun F' _ v => Dq K F' v (eV en (List.replicate j.toNat l).flatten)) Q) : rRepTM K (.ref a) (.int j) H Q := by
  have hl : xs.length = l.length := by rw [d.len, List.length_map]
  refine ⟨a, j, xs, rfl, rfl, ex_t e s, fun z => ?_, h.2.2.1, h.2.2.2, by omega, fun z => ?_, fun _ p hp => ?_⟩
  · rw [z] at hl
    simp only [List.length_nil] at hl
    omega
  · have e1 : (List.replicate j.toNat l).flatten = l := by
      rw [z]
      simp
    rw [e1] at k
    exact k _ _ _ (Gm.refl e) (.tup s d)
  · have g : Gm M F H (upd F p (.tup (List.replicate j.toNat xs).flatten)) (upd H p (.tup (List.replicate j.toNat xs).flatten)) := Gm.new e hp
    exact k _ _ _ g (.tup (st_of upd_same) ((all_rep d _).up g.f))
end
end Wk

set_option Elab.async false
set_option linter.all false
set_option maxRecDepth 100000
set_option maxHeartbeats 2000000
namespace Wk
open PySem PySem.W L2 He
/-! ### the Hook over a written list of addresses -/
def obsXL (as : List Addr) (fa : List Fa) (fn : List He5.DefA) (ex : Frag → Bool) (g : Addr → Option Obj) : He.AlD := obsX fa fn ex (frG g as)
def hookXL (as : List Addr) (fa : List Fa) (fn : List He5.DefA) (ex : Frag → Bool) : PySem.W.Hook where
  α := He.AlD
  obs := fun s => obsXL as fa fn ex s.heap.get?
  val := fun _ => valX fn
  says := fun _ h => ∃ K : Frag, K.In h ∧ SaysX fa fn ex K
  of := fun _ _ e => ⟨_, frG_in, e⟩
  keeps := fun _ _ _ ⟨K, hK, c⟩ k => ⟨K, Frag.In.keeps hK k, c⟩
theorem obsXL_eq {as : List Addr} {fa : List Fa} {fn : List He5.DefA} {ex : Frag → Bool} {g : Addr → Option Obj} {s : Shared} (h : ∀ a, g a = s.heap.get? a) : obsXL as fa fn ex g = (hookXL as fa fn ex).obs s := by
  have e : g = s.heap.get? := funext h
  rw [e] <;> rfl
end Wk

set_option Elab.async false
set_option linter.all false
set_option maxRecDepth 100000
set_option maxHeartbeats 4000000
namespace WNe
open PySem PySem.Spec PyProof.Rows
section
variable {M : Model} {prog : Program} {w : World} {A : Around} {E : Value → Shared → Prop} {s : Shared} {K : PySem.W.Frag} {x y C D f : Addr} {ox : Obj} {od : Option Obj}
theorem ifBound_objNe {args : List Value} {Q : Option Value → Shared → Prop} (X : K.In s.heap) (I : PySem.W.InstAt s.heap x ox C od) (hs : PySem.W.findIn K (.ref C) "__ne__" = some (some (.builtin "object.__ne__")))
    (h : wpAny M A (call (.builtin "object.__ne__") (.ref x :: args)) (fun v => Q (some v)) E s) : wpAny M A (callSpecialIfBound? (.ref x) "__ne__" args) Q E s := by
  simp only [callSpecialIfBound?, bindSpecialIfBound?]
  refine wpAny_holding (wpAny_bind (wpAny_bind (wpAny_bind (I.type.here ((PySem.W.looks_findIn X hs).here ?_)))))
  refine wpAny_bind (wpAny_askSetting (wpAny_ite ?_))
  have fin : wpAny M A (call (.builtin "object.__ne__") ([.ref x] ++ args) >>= fun v => pure (some v)) Q E s := wpAny_bind (wpAny_mono h (fun v s' h' => wpAny_pure h') fun _ _ h' => h')
  split
  · exact wpAny_bind (wpAny_of_eq (F.cmp_object.ne.bind _) (wpAny_pure (by exact fin)))
  · exact wpAny_tryCatch (wpAny_bind (wpAny_of_eq (F.cmp_object.ne.bind _) (wpAny_pure (by exact fin))))
theorem entry_ne (X : K.In s.heap) (I : PySem.W.InstAt s.heap x ox C od) (hs : PySem.W.findIn K (.ref C) "__eq__" = some (some (.ref f))) (hf : PySem.W.isFn K (.ref f) = true) (hu : A.units < cLine) {Q : Fin → Shared → Prop}
    (hcall : wpAny (model prog w) A (call (.ref f) [.ref x, .ref y]) (fun v s' => ∃ b, v = .bool b ∧ Q (.done (.ret (.bool (!b)))) s') E s) :
    wpAny (model prog w) A (Builtin.«object.__ne__» ⟨[.ref x, .ref y], []⟩) Q E s := by
  unfold Builtin.«object.__ne__»
  repeat (first
    | with_reducible refine wpAny_cRoomFor hu ?_
    | (refine wpAny_bind (m := callSpecialIfBound? (.ref x) (Str.ofString "__eq__") [.ref y])
        (PySem.W.ifBound_K X I hs hf (wpAny_mono hcall (fun r s' hr => by
          obtain ⟨b, rfl, hq⟩ := hr
          repeat (first | exact hq | exact wpAny_pure hq | exact wpAny_truthy_bool hq | (refine wpAny_bind (m := truthy (.bool _)) (wpAny_truthy_bool ?_)) | wp_step)) fun _ _ e => e)))
    | wp_step)
theorem ne_K {Q : Value → Shared → Prop} (hu : A.units + 1 < cLine) (X : K.In s.heap) (I : PySem.W.InstAt s.heap x ox C od) (hb : PySem.W.Looks (model prog w) s.heap (typeOf (.ref y)) (.ref C))
    (hm : PySem.W.mroIn K C (.type "object") = some true) (hn : PySem.W.findIn K (.ref C) "__ne__" = some (some (.builtin "object.__ne__")))
    (hs : PySem.W.findIn K (.ref C) "__eq__" = some (some (.ref f))) (hf : PySem.W.isFn K (.ref f) = true)
    (hcall : wpAny (model prog w) A.in1 (call (.ref f) [.ref x, .ref y]) (fun v s' => ∃ b, v = .bool b ∧ Q (.bool (!b)) s') E s) : wpAny (model prog w) A (richCompare .NotEq (.ref x) (.ref y)) Q E s := by
  have one : wpAny (model prog w) A (tryCompare (.ref x) "__ne__" (.ref y)) (fun r s' => ∃ v, r = some v ∧ Q v s') E s := by
    unfold tryCompare
    refine wpAny_bind (ifBound_objNe X I hn (wpAny_call (codeAny_call_builtin F.cmp_object.ne.plain F.cmpEntry_ne (PySem.W.check_slot F.cmpKind_ne F.cmpSplit_ne (I.type.andThen (PySem.W.looks_mroIn X hm)) (F.cmpArgs_ne _ _)
      (entry_ne X I hs hf (by exact hu) (wpAny_mono hcall (fun v s' hv => ?_) fun _ _ e => e))))))
    obtain ⟨b, rfl, hq⟩ := hv
    exact ⟨b, rfl, wpAny_pure ⟨_, rfl, hq⟩⟩
  unfold richCompare
  simp only [oneThing_ref]
  refine wpAny_holding (wpAny_bind (wpAny_cRoomFor (by omega) ?_))
  rw [cmpInfo_NotEq]
  dsimp only
  refine wpAny_bind (I.type.here (wpAny_bind (hb.here ?_)))
  rw [show (Value.ref C != Value.ref C) = false from by simp]
  simp only [Bool.false_eq_true, if_false]
  refine wpAny_bind (wpAny_pure ?_)
  simp only [Bool.false_eq_true, if_false]
  refine wpAny_bind (wpAny_mono one (fun r s' z => ?_) fun _ _ e => e)
  obtain ⟨v, rfl, hq⟩ := z
  exact wpAny_pure hq
end

end WNe
namespace Wk
open PySem L2 Evl PySem.Spec PyProof.Rows
/-- two instances of C compared by C's own ==, which promises sp -/
def rOwnE (C : Addr) (sp : Sp) : R2 := fun x y H Q => ∃ a b dx dy fs gs, x = .ref a ∧ y = .ref b ∧ H a = some (.ins C dx fs) ∧ H b = some (.ins C dy gs) ∧ sp [.ref a, .ref b] H (fun v H' => ∃ r, v = .bl r ∧ Q (.bl r) H') E0
def rOwnN (C : Addr) (sp : Sp) : R2 := fun x y H Q => ∃ a b dx dy fs gs, x = .ref a ∧ y = .ref b ∧ H a = some (.ins C dx fs) ∧ H b = some (.ins C dy gs) ∧ sp [.ref a, .ref b] H (fun v H' => ∃ r, v = .bl r ∧ Q (.bl (!r)) H') E0
/-- the class's own == with its promise, and no != of its own -/
structure KnE (P : Program) (w : World) (K : PySem.W.Frag) (mg : Str → Option Value) (base : Heap) (C : Addr) (k : Nat) (ps : List Str) (sp : Sp) : Prop where
  ex : ∃ f fd, FnOk P w K mg base CX0 k f fd ps sp ∧ PySem.W.findIn K (.ref C) "__eq__" = some (some (.ref f)) ∧ PySem.W.isFn K (.ref f) = true ∧ Binds K fd ps []
  ne : PySem.W.findIn K (.ref C) "__ne__" = some (some (.builtin "object.__ne__"))
  ob : PySem.W.mroIn K C (.type "object") = some true
section
variable {X : Cx} {C : Addr} {n : Nat} {ps : List Str} {sp : Sp}
theorem own_call {f : Addr} {fd : FuncData} (F : FnOk X.prog X.w X.K X.mg X.base CX0 n f fd ps sp) (hb : Binds X.K fd ps []) {A : Around} (sb : Sub X n A) {pins : List (Addr × Obj)} {s : Shared} {σ : L2.St} {H : Hp} {a b : Addr} {Q : VK} (I : Inv X pins σ H s)
    (hsp : sp [.ref a, .ref b] H Q E0) : wpAny (model X.prog X.w) A (call (.ref f) [.ref a, .ref b]) (fun v s' => ∃ z H', Inv X pins σ H' s' ∧ RelV z v ∧ Q z H') X.xe s := by
  have e0 : Env0 X.prog X.w X.K X.mg X.base A X.stack s H := by
    have e := I.env0
    exact ⟨by rw [sb.fr]; exact e.frames, e.mod, e.bs, e.bsz, e.funs, e.frf, e.hok, e.bare⟩
  have hl := F.len _ _ _ _ hsp
  have r2 : Vals [V.ref a, V.ref b] [Value.ref a, Value.ref b] := .cons rfl (.cons rfl .nil)
  refine wpAny_call (codeAny_mono (F.run A X.stack s H ⟨[.ref a, .ref b], []⟩ [.ref a, .ref b] [.ref a, .ref b] _ E0 sb.room e0 (by
    have := hb s [.ref a, .ref b] I.kIn (by simpa using hl)
    simpa using this) r2 hsp) fun r s' hq => ?_)
  cases r with
  | error e => exact pass0 pins σ H s e s' I hq
  | ok fl =>
    cases fl with
    | ret w =>
      obtain ⟨z, H', I', rz, ez⟩ := I.after hq
      exact ⟨z, H', I', rz, ez⟩
    | next => exact False.elim hq
    | brk => exact False.elim hq
    | cont => exact False.elim hq
theorem op_neOwn (G : KnE X.prog X.w X.K X.mg X.base C n ps sp) (hr : Room (n + 1) X.A) : OpR X (compareOp .NotEq) (rOwnN C sp) := by
  intro pins s σ H x y v u Q I rx ry h
  obtain ⟨f, fd, F, hs, hf, hb⟩ := G.ex
  obtain ⟨a, b, dx, dy, fs, gs, rfl, rfl, ha, hb', hsp⟩ := h
  cases rx
  cases ry
  obtain ⟨mA, J, _⟩ := ins_get I.hok ha
  obtain ⟨mB, J', _⟩ := ins_get I.hok hb'
  obtain ⟨od, J, _⟩ := J.look
  obtain ⟨od', J', _⟩ := J'.look
  have un := hr.un
  refine WNe.ne_K (by omega) I.kIn J J'.type G.ob G.ne hs hf (wpAny_mono (own_call F hb (A := X.A.in1) ⟨hr.in1, rfl⟩ I hsp) (fun v s' q => ?_) fun _ _ e => e)
  obtain ⟨z, H', I', rz, r, rfl, q⟩ := q
  cases rz
  exact ⟨r, rfl, .bl (!r), H', I', rfl, q⟩
theorem op_eqOwn (G : KnE X.prog X.w X.K X.mg X.base C n ps sp) (hr : Room (n + 1) X.A) : OpR X (compareOp .Eq) (rOwnE C sp) := by
  intro pins s σ H x y v u Q I rx ry h
  obtain ⟨f, fd, F, hs, hf, hb⟩ := G.ex
  obtain ⟨a, b, dx, dy, fs, gs, rfl, rfl, ha, hb', hsp⟩ := h
  cases rx
  cases ry
  obtain ⟨mA, J, _⟩ := ins_get I.hok ha
  obtain ⟨mB, J', _⟩ := ins_get I.hok hb'
  obtain ⟨od, J, _⟩ := J.look
  obtain ⟨od', J', _⟩ := J'.look
  have un := hr.un
  obtain ⟨m, hF⟩ := I.fr
  refine PySem.W.cmp_K (op := .Eq) (tb := .ref C) (by omega) hF I.ok.mod.kin J J'.type (by simp [PySem.W.notFirst]) hs hf (wpAny_mono (own_call F hb (A := X.A) ⟨hr.mono (by omega), rfl⟩ I hsp) (fun v s' q => ?_) fun _ _ e => e)
  obtain ⟨z, H', I', rz, r, rfl, q⟩ := q
  cases rz
  exact ⟨.bl r, H', I', rfl, q⟩
end
end Wk

set_option Elab.async false
set_option linter.all false
set_option maxRecDepth 100000
set_option maxHeartbeats 2000000
namespace Wk
open PySem L2 Evl
/-- a list that a call reads, and nothing of it stays -/
theorem Gm.lend {F H F' H' : Hp} {p : Addr} {o : HO} (e : Ex F H) (g : Gm [] (upd F p o) H F' H') : Gm [] F H F H' :=
  ⟨Ex.refl _, fun a u ha => g.h a u (by simp) (e a u ha), g.h, fun _ _ _ hn => hn, g.m⟩
theorem ex_fix {F H : Hp} {p : Addr} {o : HO} (e : Ex F H) (h : H p = some o) : Ex (upd F p o) H := fun a u ha => by
  by_cases q : a = p
  · subst q
    rw [upd_same] at ha
    cases ha
    exact h
  · rw [upd_ne q] at ha
    exact e a u ha
/-! ### what an own == asks of the class, as the head tells it -/
section
open PySem.W He
variable {K : Frag}
def insB (x : Str) (K : Frag) : Bool := eqO (findIn K (.ref (ga K x)) "__class__") (some (some (.builtin "object.__class__"))) && (eqO (specialIn K (.builtin "object.__class__") "__get__") (some (some (.builtin "getset_descriptor.__get__"))) &&
  (decide (takesIn K (.builtin "object.__class__") = some true) && (decide (mroIn K (ga K x) (.type "object") = some true) && decide (kitOne K (.ref (ga K x)) (.ref (ga K x)) = some true))))
theorem insB_ok {x : Str} (cl : Cls K (ga K x)) (h : insB x K = true) : C8.InsC K (ga K x) := by
  obtain ⟨h1, h⟩ := ba h
  obtain ⟨h2, h⟩ := ba h
  obtain ⟨h3, h⟩ := ba h
  obtain ⟨h4, h5⟩ := ba h
  exact ⟨cl, eqO_ok h1, eqO_ok h2, of_decide_eq_true h3, of_decide_eq_true h4, of_decide_eq_true h5⟩
def neB (x : Str) (K : Frag) : Bool := eqO (findIn K (.ref (ga K x)) "__ne__") (some (some (.builtin "object.__ne__"))) && decide (mroIn K (ga K x) (.type "object") = some true)
theorem knE_of {P : Program} {w : World} {mg : Str → Option Value} {base : Heap} {x : Str} {fd : FuncData} {k : Nat} {ps : List Str} {sp : Sp} (M : Meth K (ga K x) "__eq__" (ma K (ga K x) "__eq__")) (h : neB x K = true)
    (F : FnOk P w K mg base CX0 k (ma K (ga K x) "__eq__") fd ps sp) (hb : Binds K fd ps []) : KnE P w K mg base (ga K x) k ps sp := by
  obtain ⟨h1, h2⟩ := ba h
  exact ⟨⟨_, fd, F, M.1, M.2, hb⟩, eqO_ok h1, of_decide_eq_true h2⟩
end
end Wk

set_option Elab.async false
set_option linter.all false
set_option maxRecDepth 100000
set_option maxHeartbeats 4000000
namespace Wk
open PySem L2 Evl PySem.Spec PyProof.Rows NdefX LamX
/-! ### an exception's __init__ that says super().__init__(..) -/
/-- what the written part says of the class at D -/
structure SupC (K : PySem.W.Frag) (P : Program) (mg : Str → Option Value) (D cda cc : Addr) : Prop where
  oex : OexC K D
  sup : PySem.W.ks_superIn K D D "__init__" = some (some (.builtin "ValueError.__init__"))
  sub : PySem.W.subIn K (.ref D) (.type "ValueError") = some true
  self : PySem.W.mroIn K D (.ref D) = some true
  opq : PySem.W.nsIn K cStatics "thirdparty.any" = some none
  code : ∃ ccl cdd vs ccs file tf, K.lookup cda = some ⟨ccl, cdd, .fields vs, ccs⟩ ∧ vs[2]? = some (.str file tf) ∧ ((P.main.file : Str) == file) = true
  cell : ∃ cl cld csl, K.lookup cc = some ⟨cl, cld, .cell (some (.ref D)), csl⟩
  sup0 : mg "super" = none
  top : (P.main.scope.names.lookup ("super" : Str)).isSome = false
section
variable {K : PySem.W.Frag} {P : Program} {mg : Str → Option Value} {D cda cc : Addr}
theorem SupC.cls {h : Heap} (S : SupC K P mg D cda cc) (X : K.In h) : ∃ cd oD, PySem.W.clsIn K D = some cd ∧ h.get? D = some oD ∧ oD.data = .cls cd := by
  obtain ⟨nm, q, N, bs, bm, sn, sub, ab, col, dd, k0, k1, k2, k3, k5, hC, hbm⟩ := S.oex.cls
  refine ⟨_, _, ?_, X _ _ hC, rfl⟩
  unfold PySem.W.clsIn
  rw [hC]
end
section
variable {prog : Program} {w : World} {A : Around} {E : Value → Shared → Prop} {h : Heap} {g : Array GenState} {d : Drawn} {t : Nat} {os : OsState}
variable {nm q : Str} {C N : Addr} {bs bm bmB : List Value} {hdct : Bool} {sn : List Str} {sub : List Value} {ab : Bool} {col : Option Bool} {dd : Option Addr} {k0 k1 k2 k3 k5 : Option Value} {B newId i : String}
theorem call_mw (FB : ExcBaseFacts B newId i bmB) {u e t0 : Addr} {rest : List Value} {Q : Value → Shared → Prop}
    (hC : h.get? C = some (excClassObj nm q C N bs bm hdct sn sub ab col dd k0 k1 k2 k3 k5 newId)) (he : h.get? e = some (PySem.HandSPX.excO C t0)) (hu : h.get? u = some (PySem.W.kxs_mw i e)) (hrest : rest.length ≤ sizeLine)
    (hq : ∀ h' t1, (∀ b o, b ≠ e → h.get? b = some o → h'.get? b = some o) → h'.get? e = some (PySem.HandSPX.excO C t1) → Q .none ⟨h', g, d, t, os⟩) :
    wpAny (model prog w) A (call (.ref u) rest) Q E ⟨h, g, d, t, os⟩ := by
  refine wpAny_call (codeAny_of_tree ?_)
  show wpAny _ A.in1 (callAny (.ref u) ⟨rest, []⟩) _ _ _
  simp only [callAny]
  refine wpAny_bind (wpAny_load hu ?_)
  simp only [PySem.W.kxs_mw, show (Value.type "method-wrapper" == Value.type "method" || Value.type "method-wrapper" == Value.type "builtin_function_or_method" || Value.type "method-wrapper" == Value.type "method-wrapper") = true by decide, if_true]
  refine PySem.W.KFB.if_so (by decide) ?_
  refine wpAny_bind (PySem.W.check_bound_init FB.toExcCallFacts hC he rfl ?_)
  refine wpAny_bind (wpAny_pure (wpAny_pure ?_))
  refine ⟨plainId_quiet FB.init.plain _, codeAny_builtin FB.initEntry ?_⟩
  refine PySem.W.exc_init_tree (cls := .ref C) (t0 := t0) (dv := none) (c2 := .none) (c3 := .none) (b4 := .bool false) he hrest fun h' k e' t' => ?_
  exact hq h' _ k e'
end
theorem clo_one {x k : Str} {v c : Addr} (h : ([(k, v)] : List (Str × Addr)).lookup x = some c) : x = k ∧ c = v := by
  have m := PySem.mem_of_lookup h
  rw [List.mem_singleton] at m
  exact ⟨congrArg Prod.fst m, congrArg Prod.snd m⟩
theorem clo_self {k : Str} {v : Addr} : ([(k, v)] : List (Str × Addr)).lookup k = some v := by simp [List.lookup]
abbrev nfS (name qual : Str) (params : Arguments) (body : List Stmt) (scope : Scope) (cda cc : Addr) : NF := ⟨name, qual, params, body, scope, [("__class__", cc)], cda⟩
abbrev supSt (e : Expr) (es : List Expr) (p0 p1 p2 pos pos' : Pos) : Stmt := .Expr (.Call (.Attribute (.Call (.Name "super" p0) [] [] p1) "__init__" p2) (e :: es) [] pos) pos'
theorem fn_ofS {CX : CXT} {P : Program} {w : World} {K : PySem.W.Frag} {mg : Str → Option Value} {base : Heap} {k : Nat} {f D cda cc : Addr} {name qual : Str} {params : Arguments} {e : Expr} {es : List Expr} {rest : List Stmt} {p0 p1 p2 pos pos' : Pos} {scope : Scope} {dV kV doc pm ct oc : Value} {an od : Option Addr}
    {osl : Array (Option Value)} {N ps : List Str} {sp : Sp} {ar : Arg} {pl : Env → Sem Bool}
    (hcall : ∀ env, eval (.Call (.Attribute (.Call (.Name "super" p0) [] [] p1) "__init__" p2) (e :: es) [] pos) env = (do
      let ov ← attributeBase (.Call (.Name "super" p0) [] [] p1) "__init__" env (eval (.Call (.Name "super" p0) [] [] p1) env)
      standAt p2.atName
      let (f, first) ← holding [ov] (getMethod ov "__init__" (pl env))
      callWith pos f first (backTo pos (starEach (e :: es) env)) []))
    (lk : K.lookup f = some ⟨oc, od, .func (PySem.W.ksFn name qual params (supSt e es p0 p1 p2 pos pos' :: rest) scope dV kV doc pm an (.ref cda) ct cc), osl⟩)
    (hcd : PySem.W.codeIn K (.ref cda) qual = true) (S : NScope N ps ["__class__"] scope) (SC : SupC K P mg D cda cc) (hp : (params.posonlyargs ++ params.args).head? = some ar) (h0 : ps[0]? = some ar.arg)
    (hks : scope.names.lookup ("super" : Str) = some .globalImplicit) (he : ∀ env, starEach (e :: es) env = (false, eval e env) :: starEach es env) (hpl : ∀ env, (backTo pos (starEach es env)).any (·.1) = false)
    (len : ∀ vs H Q E, sp vs H Q E → vs.length = ps.length)
    (hbody : ∀ (A : Around) (outer : List Env) (s : Shared) (H : Hp) (vs : List V) (Q : VK) (E : XK), sp vs H Q E →
      ∃ (a : Addr) (ta : TA) (tr : TS), vs[0]? = some (V.ref a) ∧ H a = some (exo a D none) ∧ PA (ncx CX P w K mg base N (nfS name qual params (supSt e es p0 p1 p2 pos pos' :: rest) scope cda cc) f A outer s H E) (e :: es) ta ∧
        PSs (ncx CX P w K mg base N (nfS name qual params (supSt e es p0 p1 p2 pos pos' :: rest) scope cda cc) f A outer s H E) rest tr ∧
        ta (startF N vs [some (V.ref D)]) H fun us H1 => us.length ≤ 1000 ∧ H1 a = some (exo a D none) ∧ tr { nx := fun _ H' => Q .non H', rt := Q } (startF N vs [some (V.ref D)]) H1) :
    FnOk P w K mg base CX (k + 1) f (PySem.W.ksFn name qual params (supSt e es p0 p1 p2 pos pos' :: rest) scope dV kV doc pm an (.ref cda) ct cc) ps sp := by
  refine ⟨len, fun A outer s H args us vs Q E hr e0 hb r hsp => ?_⟩
  have hl := len _ _ _ _ hsp
  obtain ⟨a, ta, tr, hv0, ha, hpa, hps, hq⟩ := hbody A outer s H vs Q E hsp
  have KX : K.In s.heap := e0.mod.kin.keeps fun b o e => (e0.bs b o e).1
  have lim : s.heap.NoLimit := e0.mod.nolimit.keeps fun b o e => (e0.bs b o e).1
  obtain ⟨cl, cld, csl, hcell⟩ := SC.cell
  obtain ⟨ccl, cdd, vsC, ccs, file, tf, hcode, hvs, hfile⟩ := SC.code
  have C : CellsAt [("__class__", cc)] ["__class__"] [some (V.ref D)] s.heap H := by
    refine ⟨rfl, fun y c hy => ?_, fun x y c hx hy => ?_, fun i y hi => ?_⟩
    · obtain ⟨rfl, rfl⟩ := clo_one hy
      exact ⟨(e0.bs _ _ (e0.mod.kin _ _ hcell)).2, _, _, KX _ _ hcell, rfl⟩
    · rw [(clo_one hx).1, (clo_one hy).1]
    · have hi0 : i = 0 := by
        have := (List.getElem?_eq_some_iff.mp hi).1
        simp only [List.length_cons, List.length_nil] at this
        omega
      subst hi0
      obtain rfl : "__class__" = y := by simpa using hi
      refine ⟨cc, clo_self, fun v hv => ?_⟩
      obtain rfl : V.ref D = v := by simpa using hv
      exact ⟨.ref D, rfl, _, KX _ _ hcell, rfl⟩
  refine ks_codeAny_call_defAt hr.depth (KX _ _ lk) rfl lim (PySem.W.codeRec_of KX hcd) rfl hb S.nocell (fun ⟨n, _⟩ hy => S.par n (List.of_mem_zip hy).1) (fun h₀ hns kp => ?_) S.co S.gen S.kind
  have I : Inv (ncx CX P w K mg base N (nfS name qual params (supSt e es p0 p1 p2 pos pos' :: rest) scope cda cc) f A outer s H E) [] (startF N vs [some (V.ref D)]) H { s with heap := h₀, toks := s.toks + (ps.zip us).length } :=
    inv_startN (F := nfS name qual params (supSt e es p0 p1 p2 pos pos' :: rest) scope cda cc) S hr.hd e0 hl r C hns kp
  show _root_.PySem.wpAt _ (ncx CX P w K mg base N (nfS name qual params (supSt e es p0 p1 p2 pos pos' :: rest) scope cda cc) f A outer s H E).A (.func (supSt e es p0 p1 p2 pos pos' :: rest) (ncx CX P w K mg base N (nfS name qual params (supSt e es p0 p1 p2 pos pos' :: rest) scope cda cc) f A outer s H E).env) (execs (supSt e es p0 p1 p2 pos pos' :: rest) (ncx CX P w K mg base N (nfS name qual params (supSt e es p0 p1 p2 pos pos' :: rest) scope cda cc) f A outer s H E).env) _ _ _
  have hout : ∀ fl s', SP (ncx CX P w K mg base N (nfS name qual params (supSt e es p0 p1 p2 pos pos' :: rest) scope cda cc) f A outer s H E) [] { nx := fun _ H' => Q .non H', rt := Q } fl s' → CR CX outer P w H s Q E (.ok (.ret (match fl with | .ret v => v | _ => .none))) s' := fun fl s' hs => by
    have fin : ∀ {σ' : L2.St} {H' : Hp} {v : V} {u : Value}, Inv (ncx CX P w K mg base N (nfS name qual params (supSt e es p0 p1 p2 pos pos' :: rest) scope cda cc) f A outer s H E) [] σ' H' s' → L2.RelV v u → Q v H' → CE outer P w H s Q u s' :=
      fun {σ' H' v u} J rv q => ⟨v, H', J.os, J.bare, J.base, J.hok, rv, q⟩
    cases fl with
    | ret u =>
      obtain ⟨v, σ', H', J, rv, q⟩ := hs
      exact fin J rv q
    | next =>
      obtain ⟨σ', H', J, q⟩ := hs
      exact fin (v := V.non) (u := Value.none) J rfl q
    | brk =>
      obtain ⟨_, _, _, q⟩ := hs
      exact False.elim q
    | cont =>
      obtain ⟨_, _, _, q⟩ := hs
      exact False.elim q
  have hk0 : (K.lookup f) = some ⟨oc, od, .func (PySem.W.ksFn name qual params (supSt e es p0 p1 p2 pos pos' :: rest) scope dV kV doc pm an (.ref cda) ct cc), osl⟩ := lk
  have KX0 : K.In h₀ := KX.keeps kp
  obtain ⟨cdD, oD, hclD, hD1, hD2⟩ := SC.cls KX0
  obtain ⟨t1, hx⟩ := exo_at I.hok ha
  have hx : h₀.get? a = some ({ cls := .ref D, dict := none, data := .fields #[.ref t1, .none, .none, .none, .bool false, .none] } : Obj) := hx
  have hne : a ≠ D := fun z => by
    rw [z, hD1] at hx
    cases hx
    cases hD2
  obtain ⟨m, hns', hlk⟩ := id I.loc
  have hN0 : N[0]? = some ar.arg := by
    have q := S.pre
    have z : (N.take (ps.length + 1))[0]? = (ps ++ ([("__class__" : Str)] : List Str))[0]? := by rw [← q]; rfl
    rw [List.getElem?_take_of_lt (by omega)] at z
    have lp : 0 < ps.length := (List.getElem?_eq_some_iff.mp h0).1
    rw [z, List.getElem?_append_left lp]
    exact h0
  have kself : scope.names.lookup ar.arg = some .local := S.par _ (List.mem_of_getElem? h0)
  have hmx : m ar.arg = some (.ref a) := by
    have hs0 : (startF N vs [some (V.ref D)])[0]? = some (some (V.ref a)) := by
      unfold startF
      rw [List.getElem?_append_left (by rw [List.length_map]; exact (List.getElem?_eq_some_iff.mp hv0).1), List.getElem?_map, hv0]
      rfl
    obtain ⟨u, ru, hlu⟩ := hlk 0 ar.arg _ hN0 hs0 (.inl kself)
    obtain rfl : u = Value.ref a := ru
    rcases hlu with ⟨_, z⟩ | ⟨k, _⟩
    · exact z
    · have k : scope.names.lookup ar.arg = some .cell ∨ scope.names.lookup ar.arg = some .free := k
      rw [kself] at k
      rcases k with k | k <;> cases k
  obtain ⟨mb, hb1, hb2⟩ := I.mod.blt
  have kcls : scope.names.lookup ("__class__" : Str) = some .free := S.frk _ (List.mem_singleton.mpr rfl)
  refine ks_wpAt_execs_cons (ks_wpAt_Expr_any (hi := I.quiet) (ks_wpAt_MethodCall (he := hcall _) ?_))
  refine ks_wpAt_super_base hks kcls (by decide) rfl (KX0 _ _ lk) rfl hp rfl (KX0 _ _ hcode) rfl hvs hfile SC.top ?_
  refine PySem.W.ks_loadName_global I.ok.kind hks (PySem.Calls.loadGlobal_builtin (by rw [I.ok.glob]; exact I.mod.glob.keeps I.bk) SC.sup0 (by rw [I.ok.blt]; exact hb1.keeps I.bk) ((hb2 "super" (by decide)).trans PyProof.Rows.Boot.«super») ⟨rfl, ?_⟩)
  refine wpAny_loadName_free I.ok.kind kcls clo_self ⟨_, KX0 _ _ hcell, rfl⟩ ?_
  refine wpAny_loadName_local I.ok.kind kself hns' hmx ?_
  refine ks_wpAny_isType_cls hD1 hD2 ⟨rfl, ?_⟩
  refine ks_wpAny_call_super hD1 hD2 hx rfl (fun c z => by cases z) (PySem.W.looks_mroIn KX0 SC.self) (fun h1 hso k1 => ?_)
  have I1 := I.kept (h' := h1) (t' := s.toks + (ps.zip us).length) k1
  have KX1 : K.In h1 := KX0.keeps k1
  have hx1 := k1 _ _ hx
  have IA : PySem.W.InstAt h1 a ({ cls := .ref D, dict := none, data := .fields #[.ref t1, .none, .none, .none, .bool false, .none] } : Obj) D none := ⟨hx1, rfl, rfl, trivial⟩
  have hm := SC.sup
  unfold PySem.W.ks_superIn at hm
  rw [hclD] at hm
  refine PySem.W.kxs_getMethod PySem.W.kxs_ValueError hso (PySem.W.looks_opaque KX1 SC.opq) (l₀ := cdD.mro) (fun A Q E s k q => wpAny_bind ((PySem.W.looks_clsIn KX1 hclD) A _ E s k (wpAny_pure q))) rfl KX1 hm (IA.type.andThen (PySem.W.looks_subIn KX1 SC.sub)) hne (by decide) ?_
  have hmw : (h1.push (PySem.W.kxs_mw "ValueError.__init__" a)).get? h1.objs.size = some (PySem.W.kxs_mw "ValueError.__init__" a) := Heap.get?_push_at rfl rfl
  have k2 : ∀ b o, h1.get? b = some o → (h1.push (PySem.W.kxs_mw "ValueError.__init__" a)).get? b = some o := fun b o e => Heap.get?_push_of_some _ e
  have I2 := (I1.kept (h' := h1.push (PySem.W.kxs_mw "ValueError.__init__" a)) (t' := s.toks + (ps.zip us).length + 1) k2).pins_of (pins' := [(h1.objs.size, PySem.W.kxs_mw "ValueError.__init__" a)]) fun p hp => by
    rw [List.mem_singleton] at hp
    subst hp
    exact ⟨hmw, I1.hok.fresh (Nat.le_refl _), Nat.ne_of_gt I1.lt, I1.nofs (Nat.le_refl _), fun v z => by cases z⟩
  refine PySem.W.kxs_callWith (i := "ValueError.__init__") (x := a) (by rw [he]; show (false || (backTo pos (starEach es _)).any (·.1)) = false; rw [hpl]; rfl) ?_
  rw [he]
  refine PySem.Calls.evalArgs_plain (thn (by have z := hpa.run pos [(h1.objs.size, PySem.W.kxs_mw "ValueError.__init__" a)] _ _ H _ I2 hq; rw [he] at z; exact z) fun vals s3 hv3 => ?_)
  obtain ⟨vs3, H3, I3, r3, hl3, ha3, hq3⟩ := hv3
  obtain ⟨t3, ho3⟩ := exo_at I3.hok ha3
  have pin3 := I3.pin (h1.objs.size, PySem.W.kxs_mw "ValueError.__init__" a) (by simp)
  refine ⟨pin3.1, ?_⟩
  obtain ⟨nm, q, Nn, bs, bm, sn, sub, ab, col, dd, k0, k1', k2', k3', k5, hC, hbm⟩ := SC.oex.cls
  obtain ⟨hp3, g3, d3, tk3, os3⟩ := s3
  have hl : vals.length ≤ sizeLine := by
    rw [← Paired.length r3, sizeLine_eq]
    omega
  refine call_mw F.excBase_ValueError (I3.kIn _ _ hC) ho3 pin3.1 hl fun h4 t4 k4 hx4 => ?_
  have J := I3.write (t' := tk3) (x := a) (e := a) (o := exo a D none) (by rw [ha3]; exact True.intro) (.inl rfl) k4 ⟨_, hx4⟩ (exo_ok hx4)
  have eu : upd H3 a (exo a D none) = H3 := by
    funext b
    by_cases hb : b = a
    · rw [hb, upd_same, ha3]
    · rw [upd_ne hb]
  rw [eu] at J
  have J0 := J.pins_of (pins' := []) fun p hp => by cases hp
  exact wpAt_of_wpAny (wpAny_mono (hps.run [] _ _ H3 _ J0 hq3) hout fun e s' hs => hs)
end Wk

set_option Elab.async false
set_option linter.all false
set_option maxRecDepth 100000
set_option maxHeartbeats 4000000
namespace Wk
open PySem PySem.W L2 He
/-! ### what the head tells of an exception class with an own __init__ -/
def oexB (x : Str) (K : Frag) : Bool := (match K.lookup (ga K x) with
    | some ⟨.type t, _, .cls cd, sl⟩ => t == "type" && ((match cd.mro with
      | .ref C :: bm => C == ga K x && PySem.HandSPX.refsVE bm
      | _ => false) && (cd.hasDict && (!cd.hasDel && (match sl.toList with
      | [_, _, _, _, some (.builtin n), _] => n == "ValueError.__new__"
      | _ => false))))
    | _ => false) && (eqO (findIn K (.ref (ga K x)) "__setattr__") (some (some (.builtin "object.__setattr__"))) && (decide (subIn K (.ref (ga K x)) (.type "BaseException") = some true) &&
    (decide (typeIn K (.ref (ga K x)) = some (.type "type")) && keepIn K (.ref (ga K x)))))
theorem oexB_ok {x : Str} {K : Frag} (h : oexB x K = true) : OexC K (ga K x) := by
  obtain ⟨h1, h⟩ := ba h
  obtain ⟨h2, h⟩ := ba h
  obtain ⟨h3, h⟩ := ba h
  obtain ⟨h4, h5⟩ := ba h
  refine ⟨?_, eqO_ok h2, of_decide_eq_true h3, of_decide_eq_true h4, h5⟩
  generalize ga K x = C0 at *
  split at h1
  · rename_i t dd cd sl ho
    obtain ⟨a1, h1⟩ := ba h1
    obtain ⟨a2, h1⟩ := ba h1
    obtain ⟨a3, h1⟩ := ba h1
    obtain ⟨a4, a5⟩ := ba h1
    obtain ⟨nm, bs, mro, ns, qn, hd, sn, sub, ab, col, del⟩ := cd
    split at a2
    · rename_i C bm hm
      obtain ⟨b1, b2⟩ := ba a2
      split at a5
      · rename_i k0 k1 k2 k3 n k5 hs
        have e1 := eq_of_beq a1
        have e2 := eq_of_beq b1
        have e3 := eq_of_beq a5
        have e4 : del = false := by simpa using a4
        have e5 : hd = true := a3
        have hm : mro = .ref C :: bm := hm
        subst e1 e2 e3 e4 e5 hm
        have hsl : sl = #[k0, k1, k2, k3, some (.builtin "ValueError.__new__"), k5] := by
          obtain ⟨l⟩ := sl
          simp only at hs
          rw [hs]
        subst hsl
        exact ⟨nm, qn, ns, bs, bm, sn, sub, ab, col, dd, k0, k1, k2, k3, k5, ho, b2⟩
      · cases a5
    · cases a2
  · cases h1
def cfB (file : Str) (K : Frag) : Value → Bool
  | .ref cda => (match K.lookup cda with
    | some ⟨_, _, .fields vs, _⟩ => (match (vs[2]? : Option Value) with
      | some (.str fl _) => decide (fl = file)
      | _ => false)
    | _ => false)
  | _ => false
theorem cfB_ok {file : Str} {K : Frag} {v : Value} (h : cfB file K v = true) : ∃ cda ccl cdd vs ccs tf, v = .ref cda ∧ K.lookup cda = some ⟨ccl, cdd, .fields vs, ccs⟩ ∧ (vs[2]? : Option Value) = some (.str file tf) := by
  unfold cfB at h
  split at h
  · rename_i cda
    split at h
    · rename_i ccl cdd vs ccs hcode
      split at h
      · rename_i fl tf hvs
        obtain rfl := of_decide_eq_true h
        exact ⟨cda, _, _, _, _, _, rfl, hcode, hvs⟩
      · cases h
    · cases h
  · cases h
def ceB (x : Str) (K : Frag) : List (Str × Addr) → Bool
  | [(n, cc)] => decide (n = "__class__") && (match K.lookup cc with
      | some ⟨_, _, .cell (some (.ref D)), _⟩ => decide (D = ga K x)
      | _ => false)
  | _ => false
theorem ceB_ok {x : Str} {K : Frag} {l : List (Str × Addr)} (h : ceB x K l = true) : ∃ (cc : Addr) (cl : Value) (cld : Option Addr) (csl : Array (Option Value)), l = [(("__class__" : Str), cc)] ∧ K.lookup cc = some ⟨cl, cld, .cell (some (.ref (ga K x))), csl⟩ := by
  unfold ceB at h
  split at h
  · rename_i n cc
    obtain ⟨b1, b2⟩ := ba h
    obtain rfl := of_decide_eq_true b1
    split at b2
    · rename_i cl cld D csl hcell
      obtain rfl := of_decide_eq_true b2
      exact ⟨cc, _, _, _, rfl, hcell⟩
    · cases b2
  · cases h
def noneB : Value → Bool
  | .none => true
  | _ => false
theorem noneB_ok {v : Value} (h : noneB v = true) : v = .none := by
  cases v <;> first | rfl | cases h
def cloB (x : Str) (file : Str) (K : Frag) : Bool := match K.lookup (ma K (ga K x) "__init__") with
  | some ⟨_, _, .func fd, _⟩ => ceB x K fd.closure && (noneB fd.defaults && cfB file K fd.code)
  | _ => false
def supB (x : Str) (file : Str) (K : Frag) : Bool := oexB x K && (decide (ks_superIn K (ga K x) (ga K x) "__init__" = some (some (.builtin "ValueError.__init__"))) && (decide (subIn K (.ref (ga K x)) (.type "ValueError") = some true) && (decide (mroIn K (ga K x) (.ref (ga K x)) = some true) &&
  (eqO (nsIn K cStatics "thirdparty.any") (some none) && (cloB x file K && (eqO (findIn K (.ref (ga K x)) "__init__") (some (some (.ref (ma K (ga K x) "__init__")))) && decide (typeIn K (.ref (ma K (ga K x) "__init__")) = some (.type "function"))))))))
/-- a def, its closure told apart -/
def fnSA (K : Frag) (a : Addr) : FnW := match K.lookup a with
  | some ⟨_, _, .func fd, _⟩ => some (fd.name, fd.qualname, fd.params, fd.body, fd.scope, fd.globals, [], fd.builtins)
  | _ => none
structure IniD (K : Frag) (P : Program) (mg : Str → Option Value) (x name qual : Str) (params : Arguments) (body : List Stmt) (scope : Scope) (fd : FuncData) (cda cc : Addr) : Prop where
  lk : ∃ (oc : Value) (od : Option Addr) (kV doc pm ct : Value) (an : Option Addr) (osl : Array (Option Value)),
    fd = ksFn name qual params body scope .none kV doc pm an (.ref cda) ct cc ∧ K.lookup (ma K (ga K x) "__init__") = some ⟨oc, od, .func fd, osl⟩
  cd : codeIn K (.ref cda) qual = true
  sc : SupC K P mg (ga K x) cda cc
  ini : findIn K (.ref (ga K x)) "__init__" = some (some (.ref (ma K (ga K x) "__init__")))
  typ : typeIn K (.ref (ma K (ga K x) "__init__")) = some (.type "function")
theorem iniD_of {K : Frag} {P : Program} {mg : Str → Option Value} {d : He5.DefA} {x file : Str} (hat : d.at_ K = ma K (ga K x) "__init__") (e : fnSA K (d.at_ K) = d.val) (c : d.ok K = true) (h : supB x file K = true) (hf : ((P.main.file : Str) == file) = true) (hs : mg "super" = none)
    (ht : (P.main.scope.names.lookup ("super" : Str)).isSome = false) : ∃ fd cda cc, IniD K P mg x d.name d.qual d.params d.body d.scope fd cda cc := by
  obtain ⟨h1, h⟩ := ba h
  obtain ⟨h2, h⟩ := ba h
  obtain ⟨h3, h⟩ := ba h
  obtain ⟨h4, h⟩ := ba h
  obtain ⟨h5, h⟩ := ba h
  obtain ⟨h6, h⟩ := ba h
  obtain ⟨h7, h8⟩ := ba h
  obtain ⟨kp, c2⟩ := ba c
  unfold cloB at h6
  unfold fnSA at e
  rw [hat] at e c2
  cases q : K.lookup (ma K (ga K x) "__init__") with
  | none =>
    rw [q] at c2
    cases c2
  | some o =>
    obtain ⟨oc, od, dt, osl⟩ := o
    rw [q] at c2 e h6
    cases dt with
    | func fd =>
      obtain ⟨n1, n2, n3, n4, n5, n6, n7, n8, n9, n10, n11, n12, n13, n14, n15⟩ := fd
      have e2 : (some (n1, n2, n3, n4, n5, n6, ([] : List (Str × Addr)), n15) : FnW) = some (d.name, d.qual, d.params, .stmts d.body, d.scope, mainGlobals, [], builtinsNs) := e
      simp only [Option.some.injEq, Prod.mk.injEq] at e2
      obtain ⟨g1, g2, g3, g4, g5, g6, _, g8⟩ := e2
      obtain ⟨a1, a2⟩ := ba h6
      obtain ⟨a0, a2⟩ := ba a2
      have c3 := (ba c2).1
      dsimp only at a0 a1 a2 c3
      have z8 := noneB_ok a0
      obtain ⟨cc, cl, cld, csl, z7, hcell⟩ := ceB_ok a1
      obtain ⟨cda, ccl, cdd, vs, ccs, tf, zc, hcode, hvs⟩ := cfB_ok a2
      subst z8 z7 zc
      subst g1 g2 g3 g4 g5 g6 g8
      exact ⟨_, cda, cc, ⟨_, _, _, _, _, _, _, _, rfl, q⟩, c3, ⟨oexB_ok h1, of_decide_eq_true h2, of_decide_eq_true h3, of_decide_eq_true h4, eqO_ok h5, ⟨_, _, _, _, _, _, hcode, hvs, hf⟩, ⟨_, _, _, hcell⟩, hs, ht⟩, eqO_ok h7, of_decide_eq_true h8⟩
    | _ => cases c2
/-! ### the Hook with such classes -/
def obsXS (as : List Addr) (fa : List Fa) (fn es : List He5.DefA) (ex : Frag → Bool) (g : Addr → Option Obj) : He.AlD :=
  (((fa.all fun f => f.ok (frG g as)) && ((fn.all fun d => d.ok (frG g as)) && ((es.all fun d => d.ok (frG g as)) && ex (frG g as)))), (fn.map fun d => He5.fnA (frG g as) (d.at_ (frG g as))) ++ es.map fun d => fnSA (frG g as) (d.at_ (frG g as)))
def valXS (fn es : List He5.DefA) : He.AlD := (true, fn.map He5.DefA.val ++ es.map He5.DefA.val)
structure SaysXS (fa : List Fa) (fn es : List He5.DefA) (ex : Frag → Bool) (K : Frag) : Prop where
  old : SaysX fa fn ex K
  own : (es.map fun d => fnSA K (d.at_ K)) = es.map He5.DefA.val
  ok : ∀ d ∈ es, d.ok K = true
theorem saysXS_of {as : List Addr} {fa : List Fa} {fn es : List He5.DefA} {ex : Frag → Bool} {g : Addr → Option Obj} (h : obsXS as fa fn es ex g = valXS fn es) : SaysXS fa fn es ex (frG g as) := by
  have h1 : ((fa.all fun f => f.ok (frG g as)) && ((fn.all fun d => d.ok (frG g as)) && ((es.all fun d => d.ok (frG g as)) && ex (frG g as)))) = true := congrArg (fun z : He.AlD => z.1) h
  have h2 : (fn.map fun d => He5.fnA (frG g as) (d.at_ (frG g as))) ++ (es.map fun d => fnSA (frG g as) (d.at_ (frG g as))) = fn.map He5.DefA.val ++ es.map He5.DefA.val := congrArg (fun z : He.AlD => z.2) h
  obtain ⟨a1, a2⟩ := ba h1
  obtain ⟨a2, a3⟩ := ba a2
  obtain ⟨a3, a4⟩ := ba a3
  obtain ⟨b1, b2⟩ := List.append_inj h2 (by rw [List.length_map, List.length_map])
  refine ⟨?_, b2, fun d hd => List.all_eq_true.mp a3 d hd⟩
  unfold SaysX obsX valX
  rw [a1, a2, a4, b1]
  rfl
def hookXS (as : List Addr) (fa : List Fa) (fn es : List He5.DefA) (ex : Frag → Bool) : PySem.W.Hook where
  α := He.AlD
  obs := fun s => obsXS as fa fn es ex s.heap.get?
  val := fun _ => valXS fn es
  says := fun _ h => ∃ K : Frag, K.In h ∧ SaysXS fa fn es ex K
  of := fun _ _ e => ⟨_, frG_in, saysXS_of e⟩
  keeps := fun _ _ _ ⟨K, hK, c⟩ k => ⟨K, Frag.In.keeps hK k, c⟩
theorem obsXS_eq {as : List Addr} {fa : List Fa} {fn es : List He5.DefA} {ex : Frag → Bool} {g : Addr → Option Obj} {s : Shared} (h : ∀ a, g a = s.heap.get? a) : obsXS as fa fn es ex g = (hookXS as fa fn es ex).obs s := by
  have e : g = s.heap.get? := funext h
  rw [e] <;> rfl
theorem SaysXS.ini {fa : List Fa} {fn es : List He5.DefA} {ex : Frag → Bool} {K : Frag} {P : Program} {mg : Str → Option Value} {x file : Str} (c : SaysXS fa fn es ex K) (i : Nat) {d : He5.DefA} (h : es[i]? = some d) (hat : d.at_ K = ma K (ga K x) "__init__") (hb : supB x file K = true)
    (hf : ((P.main.file : Str) == file) = true) (hs : mg "super" = none) (ht : (P.main.scope.names.lookup ("super" : Str)).isSome = false) : ∃ fd cda cc, IniD K P mg x d.name d.qual d.params d.body d.scope fd cda cc := by
  have e2 : (es.map fun d => fnSA K (d.at_ K))[i]? = (es.map He5.DefA.val)[i]? := by rw [c.own]
  rw [List.getElem?_map, List.getElem?_map, h] at e2
  exact iniD_of hat (Option.some.inj e2) (c.ok d (List.mem_of_getElem? h)) hb hf hs ht
end Wk

set_option Elab.async false
set_option linter.all false
set_option maxRecDepth 100000
set_option maxHeartbeats 4000000
namespace Wk
open PySem L2 Evl PySem.Spec PyProof.Rows NdefX LamX
/-! ### the kinds of exceptions, by number -/
def exN : Nat → Str
  | 0 => "InvalidWeighting" | 1 => "InvalidPlaces" | 2 => "InvalidWeights" | 3 => "InvalidSums" | 4 => "InvalidNumber" | 5 => "InvalidPolynomial" | 6 => "TooFew" | 7 => "InvalidFraction" | 8 => "NoWeighting"
  | 9 => "DecodeError" | 10 => "InvalidReadings" | 11 => "UnknownPlace" | 12 => "Clash" | 13 => "InvalidText"
  | 14 => "InvalidMass" | 15 => "InvalidMove" | 16 => "InvalidName" | 17 => "InvalidOperation" | 18 => "InvalidStretch" | 19 => "NoMass" | 20 => "NothingLeft" | 21 => "UnknownKept"
  | 22 => "ScriptError" | 23 => "ExecutionFailed" | 24 => "TooLong"
  | _ => ""
def exF : Nat → List Str
  | 0 => ["part", "index"] | 1 => ["index"] | 2 => ["index"] | 3 => ["index"] | 9 => ["offset"] | 10 => ["index"]
  | 13 => ["row", "word"] | 17 => ["index"] | 22 => ["row"] | 23 => ["row"]
  | _ => []
/-- its fields, as they stand -/
def xfs (e : Er) : List (Str × V) := ((exF e.c).zip (e.fs.map V.int)).reverse
/-- an exception of the kind e: its class, its dict -/
def XD (K : PySem.W.Frag) (F : Hp) (cls : Value) (d : Option Addr) (e : Er) : Prop :=
  cls = .ref (He.ga K (exN e.c)) ∧ ((e.fs = [] ∧ d = none) ∨ ∃ dx, d = some dx ∧ F dx = some (.xd (xfs e)))
theorem XD.up {K : PySem.W.Frag} {F F' : Hp} {cls : Value} {d : Option Addr} {e : Er} (h : XD K F cls d e) (x : Ex F F') : XD K F' cls d e := by
  obtain ⟨h1, h2⟩ := h
  refine ⟨h1, ?_⟩
  rcases h2 with h2 | ⟨dx, h3, h4⟩
  · exact .inl h2
  · exact .inr ⟨dx, h3, x _ _ h4⟩
/-- what follows an exception -/
def RetX (M : List Addr) (K : PySem.W.Frag) (F H : Hp) (e : Er) (E : XK) : Prop := ∀ cls d F' H', Gm M F H F' H' → XD K F' cls d e → E cls d H'
theorem RetX.then_ {M : List Addr} {K : PySem.W.Frag} {F H F1 H1 : Hp} {e : Er} {E : XK} (k : RetX M K F H e E) (g : Gm M F H F1 H1) : RetX M K F1 H1 e E := fun cls d F' H' g' s => k cls d F' H' (g.trans g') s
/-! ### __init__ with one field, with two -/
def spI1 (C : Addr) (f : Str) : Sp := fun vs H Q _ => ∃ (a : Addr) (i : Int), vs = [.ref a, .int i] ∧ i.natAbs < 18446744073709551616 ∧ H a = some (exo a C none) ∧
  ∀ dx, H dx = none → dx ≠ a → Q .non (upd (upd H dx (exd dx [(f, .int i)])) a (exo a C (some dx)))
def spI2 (C : Addr) (f g : Str) : Sp := fun vs H Q _ => ∃ (a : Addr) (i j : Int), vs = [.ref a, .int i, .int j] ∧ i.natAbs < 18446744073709551616 ∧ j.natAbs < 18446744073709551616 ∧ H a = some (exo a C none) ∧
  ∀ dx, H dx = none → dx ≠ a → Q .non (upd (upd (upd H dx (exd dx [(f, .int i)])) a (exo a C (some dx))) dx (exd dx [(g, .int j), (f, .int i)]))
theorem log_small {i : Int} (h : i.natAbs < 18446744073709551616) : i.natAbs.log2 < 1920 := by
  by_cases z : i.natAbs = 0
  · rw [z]; decide
  · have := (Nat.log2_lt z (k := 64)).mpr (by rw [show (2 : Nat) ^ 64 = 18446744073709551616 by decide]; exact h)
    omega
theorem txt_small {i : Int} (h : i.natAbs < 18446744073709551616) : (PySem.Str.ofString (toString i)).length ≤ 1921 := PyProof.Rows.int_text_len_1921 (log_small h)
theorem del_upd {H : Hp} {a d : Addr} {o1 o2 : HO} {x : HO} (ha : H a = none) (hd : d ≠ a) : upd (del (upd (upd H d o1) a o2) a) d x = upd H d x := by
  funext b
  by_cases q : b = d
  · rw [q, upd_same, upd_same]
  · rw [upd_ne q, upd_ne q]
    by_cases r : b = a
    · rw [r, del_same, ha]
    · rw [del_ne r, upd_ne r, upd_ne q]
theorem del_upd2 {H : Hp} {a d : Addr} {o1 o2 o3 : HO} {x : HO} (ha : H a = none) (hd : d ≠ a) : upd (del (upd (upd (upd H d o1) a o2) d o3) a) d x = upd H d x := by
  funext b
  by_cases q : b = d
  · rw [q, upd_same, upd_same]
  · rw [upd_ne q, upd_ne q]
    by_cases r : b = a
    · rw [r, del_same, ha]
    · rw [del_ne r, upd_ne q, upd_ne r, upd_ne q]
theorem mk1 {C : Addr} {f : Str} {H : Hp} {i : Int} {Q : XK} (hi : i.natAbs < 18446744073709551616) (q : ∀ d, H d = none → Q (.ref C) (some d) (upd H d (.xd [(f, .int i)]))) :
    [V.int i].length ≤ 1000 ∧ ∀ a, H a = none → spI1 C f (.ref a :: ([V.int i] ++ [])) (upd H a (exo a C none))
      (fun v H2 => v = .non ∧ ∃ (d : Addr) (fs : List (Str × V)), H2 a = some (exo a C (some d)) ∧ H2 d = some (exd d fs) ∧ H d = none ∧ Q (.ref C) (some d) (upd (del H2 a) d (.xd fs))) (fun _ _ _ => False) := by
  refine ⟨by show 1 ≤ 1000; decide, fun a ha => ⟨a, i, rfl, hi, upd_same, fun dx hdx hne => ⟨rfl, dx, [(f, .int i)], upd_same, ?_, ?_, ?_⟩⟩⟩
  · rw [upd_ne hne, upd_same]
  · rw [upd_ne hne] at hdx
    exact hdx
  · rw [upd_ne hne] at hdx
    have e : upd (del (upd (upd (upd H a (exo a C none)) dx (exd dx [(f, .int i)])) a (exo a C (some dx))) a) dx (.xd [(f, .int i)]) = upd H dx (.xd [(f, .int i)]) := by
      funext b
      by_cases z : b = dx
      · rw [z, upd_same, upd_same]
      · rw [upd_ne z, upd_ne z]
        by_cases r : b = a
        · rw [r, del_same, ha]
        · rw [del_ne r, upd_ne r, upd_ne z, upd_ne r]
    rw [e]
    exact q dx hdx
theorem mk2 {C : Addr} {f g : Str} {H : Hp} {i j : Int} {Q : XK} (hi : i.natAbs < 18446744073709551616) (hj : j.natAbs < 18446744073709551616) (q : ∀ d, H d = none → Q (.ref C) (some d) (upd H d (.xd [(g, .int j), (f, .int i)]))) :
    [V.int i, V.int j].length ≤ 1000 ∧ ∀ a, H a = none → spI2 C f g (.ref a :: ([V.int i, V.int j] ++ [])) (upd H a (exo a C none))
      (fun v H2 => v = .non ∧ ∃ (d : Addr) (fs : List (Str × V)), H2 a = some (exo a C (some d)) ∧ H2 d = some (exd d fs) ∧ H d = none ∧ Q (.ref C) (some d) (upd (del H2 a) d (.xd fs))) (fun _ _ _ => False) := by
  refine ⟨by show 2 ≤ 1000; decide, fun a ha => ⟨a, i, j, rfl, hi, hj, upd_same, fun dx hdx hne => ⟨rfl, dx, [(g, .int j), (f, .int i)], ?_, upd_same, ?_, ?_⟩⟩⟩
  · rw [upd_ne (Ne.symm hne), upd_same]
  · rw [upd_ne hne] at hdx
    exact hdx
  · rw [upd_ne hne] at hdx
    have e : upd (del (upd (upd (upd (upd H a (exo a C none)) dx (exd dx [(f, .int i)])) a (exo a C (some dx))) dx (exd dx [(g, .int j), (f, .int i)])) a) dx (.xd [(g, .int j), (f, .int i)]) = upd H dx (.xd [(g, .int j), (f, .int i)]) := by
      funext b
      by_cases z : b = dx
      · rw [z, upd_same, upd_same]
      · rw [upd_ne z, upd_ne z]
        by_cases r : b = a
        · rw [r, del_same, ha]
        · rw [del_ne r, upd_ne z, upd_ne r, upd_ne z, upd_ne r]
    rw [e]
    exact q dx hdx
/-! ### a class that is known, raised -/
structure KnX (P : Program) (w : World) (K : PySem.W.Frag) (mg : Str → Option Value) (base : Heap) (x : Str) (k : Nat) (ps : List Str) (sp : Sp) : Prop where
  ex : ∃ fd, FnOk P w K mg base CX0 k (He.ma K (He.ga K x) "__init__") fd ps sp ∧ Binds K fd ps []
  oex : OexC K (He.ga K x)
  ini : PySem.W.findIn K (.ref (He.ga K x)) "__init__" = some (some (.ref (He.ma K (He.ga K x) "__init__")))
  typ : PySem.W.typeIn K (.ref (He.ma K (He.ga K x) "__init__")) = some (.type "function")
  glo : mg x = some (.ref (He.ga K x))
section
variable {X : Cx} {W : WX} {x : Str} {k : Nat} {ps : List Str} {sp : Sp} {e : Expr} {es : List Expr} {ta : TA} {p pos pos' : Pos}
theorem ps_raiseX (G : KnX X.prog X.w X.K X.mg X.base x k ps sp) (hr : Room (k + 1) X.A) (tk : Takes X W) (ha : PA X (e :: es) ta) (hc : X.calm = true := by rfl) (hg : Gl X x := by rfl) (hdb : (x == ("__debug__" : Str)) = false := by decide)
    (he : starEach (e :: es) X.env = (false, eval e X.env) :: starEach es X.env := by rfl) (hpl : (backTo pos (starEach es X.env)).any (·.1) = false := by rfl) :
    PS X (.Raise (some (.Call (.Name x p) (e :: es) [] pos)) none pos') (fun _ σ H => tMkO (He.ga X.K x) sp [] ta σ H fun cls d H' => W cls d σ H') := by
  obtain ⟨fd, F, hb⟩ := G.ex
  exact ps_raise hc tk (pmk_oex G.oex G.ini G.typ F hr hb .nil pass0 hg G.glo ha hdb he hpl)
end
/-- a def that may raise -/
structure Kx (P : Program) (w : World) (K : PySem.W.Frag) (mg : Str → Option Value) (base : Heap) (x : Str) (k : Nat) (ps : List Str) (sp : Sp) : Prop where
  ex : ∃ f fd, FnOk P w K mg base (L2.CX P w) k f fd ps sp ∧ mg x = some (.ref f) ∧ PySem.W.keepIn K (.ref f) = true ∧ Binds K fd ps []
section
variable {X : Cx} {W : WX} {x : Str} {k : Nat} {ps : List Str} {sp : Sp} {e : Expr} {es : List Expr} {t : TA} {p pos : Pos}
theorem pe_kx (G : Kx X.prog X.w X.K X.mg X.base x k ps sp) (hr : Room k X.A) (tk : Takes X W) (ha : PA X (e :: es) t) (hg : Gl X x := by rfl) (hdb : (x == ("__debug__" : Str)) = false := by decide)
    (he : starEach (e :: es) X.env = (false, eval e X.env) :: starEach es X.env := by rfl) (hpl : (backTo pos (starEach es X.env)).any (·.1) = false := by rfl) : PE X (.Call (.Name x p) (e :: es) [] pos) (tCallS sp (WE W) t) := by
  obtain ⟨f, fd, F, hm, hk, hb⟩ := G.ex
  exact pe_callS F hr hg hm hk hb (passAt tk) ha hdb he hpl
end
theorem Kn.x {P : Program} {w : World} {K : PySem.W.Frag} {mg : Str → Option Value} {base : Heap} {x : Str} {k : Nat} {ps : List Str} {sp : Sp} (G : Kx P w K mg base x k ps sp) : True := trivial
/-! ### words of one raising def -/
theorem post_noEx' {α β : Type} {m : Mm α} {f : α → Mm β} {ok : β → Prop} {ex : Er → Prop} (h : Post ((noEx m).bd f) ok ex) : Post (m.bd Mm.ok) (fun r => Post (f r) ok ex) (fun _ => False) := by
  cases m with
  | ok a => exact ⟨⟨h.h⟩⟩
  | ex e => exact h.h.elim
  | bad => exact h.h.elim
/-! ### try -/
/-- an exception of the body is met: what follows by the kind -/
def Mm.tr {α β : Type} (m : Mm α) (h : Er → Mm β) (k : α → Mm β) : Mm β := match m with
  | .ok a => k a
  | .ex e => h e
  | .bad => .bad
theorem post_tr {α β : Type} {m : Mm α} {h : Er → Mm β} {k : α → Mm β} {p : β → Prop} {q : Er → Prop} (x : Post (m.tr h k) p q) : Post m (fun a => Post (k a) p q) (fun e => Post (h e) p q) := by
  cases m with
  | ok a => exact ⟨⟨x.h⟩⟩
  | ex e => exact ⟨⟨x.h⟩⟩
  | bad => exact ⟨x.h⟩
end Wk

set_option Elab.async false
set_option linter.all false
set_option maxRecDepth 100000
set_option maxHeartbeats 4000000
namespace Wk
open PySem L2 Evl PySem.Spec PyProof.Rows
/-! ### several except clauses, each with a name -/
abbrev SuiteR := Addr → Value → Option Addr → TS
/-- the ends of a suite whose clause's name has slot i -/
def endsAs (D : Ends) (i : Nat) : Ends := { nx := fun τ G => D.nx (τ.set i none) G, rt := D.rt, bk := fun τ G => D.bk (τ.set i none) G, ct := fun τ G => D.ct (τ.set i none) G }
def wManyA (K : PySem.W.Frag) (n : Nat) (Wout : WX) (D : Ends) : List (Value × Nat × SuiteR) → WX
  | [] => Wout
  | (c, i, ts) :: r => fun cls d σ H => ∃ b, PySem.W.exmOne K cls c = some b ∧ (b = true → ∀ a, H a = none → σ.length = n → ts a cls d (endsAs D i) (σ.set i (some (.ref a))) H) ∧ (b = false → wManyA K n Wout D r cls d σ H)
inductive HdsA (X : Cx) : List ExceptHandler → List (Value × Nat × SuiteR) → Prop
  | nil : HdsA X [] []
  | cons {x n : Str} {c : Value} {i : Nat} {ts : SuiteR} {b₀ : Stmt} {suite : List Stmt} {np q : Pos} {hs : List ExceptHandler} {l : List (Value × Nat × SuiteR)} (hc : Names X x c) (hi : X.N[i]? = some n) (hk : X.env.kindOf n = some .local)
      (hsu : ∀ a oe cls d pn, Zc cls d oe → (∃ vs, oe.data = .fields vs) → PSs (X.suite a ((a, oe) :: pn)) (b₀ :: suite) (ts a cls d)) (r : HdsA X hs l) :
      HdsA X (.ExceptHandler (some (.Name x np)) (some n) (b₀ :: suite) q :: hs) ((c, i, ts) :: l)
/-- an exception at a, noted by the running frame, its flight ended: what is known then -/
structure Met (X : Cx) (pins : List (Addr × Obj)) (σ : L2.St) (H : Hp) (a : Addr) (cls : Value) (d : Option Addr) (s : Shared) : Prop where
  base : ∃ (B : Heap) (sI : Shared), Inv X pins σ H sI ∧ (∀ b o, sI.heap.get? b = some o → b ∉ frs X.stack → B.get? b = some o) ∧ sI.heap.UpToSlots s.heap ∧ s.os = sI.os ∧ AllBare s.gens ∧ PySem.HandSPX.FlyingZ B (X.env :: X.outer) a (Zc cls d) s.heap
  free : H a = none
section
variable {X : Cx} {pins : List (Addr × Obj)} {σ : L2.St} {H : Hp} {a : Addr} {cls : Value} {d : Option Addr} {s : Shared}
theorem Met.inv (m : Met X pins σ H a cls d s) : Inv X pins σ H s := by
  obtain ⟨⟨B, sI, J, nb, up, os, ag, fl⟩, _⟩ := m
  exact J.landed nb fl.1 up os ag
/-- it is an exception's record, and no frame -/
theorem Met.obj (m : Met X pins σ H a cls d s) (hf : X.env.frame = some X.env.locals) : ∃ oe vs, s.heap.get? a = some oe ∧ Zc cls d oe ∧ oe.data = .fields vs ∧ a ≠ X.env.locals ∧ a ∉ X.fs := by
  obtain ⟨⟨B, sI, J, nb, up, os, ag, fl⟩, _⟩ := m
  obtain ⟨oe, vs, h1, h2, h3⟩ := fl.there
  have out : a ∉ frs (X.env :: X.outer) := by
    intro hm
    obtain ⟨_, o, h, hn⟩ := fl.2.2.1.mem hm
    cases h1.symm.trans h
    exact hn _ h3
  refine ⟨oe, vs, h1, h2, h3, fun z => out ?_, fun hm => out ?_⟩
  · exact List.mem_filterMap.mpr ⟨X.env, by simp, by rw [hf, z]⟩
  · obtain ⟨e, he, q⟩ := List.mem_filterMap.mp hm
    exact List.mem_filterMap.mpr ⟨e, by simp [he], q⟩
/-- the heap's slots may change under it -/
theorem Met.on (m : Met X pins σ H a cls d s) {h : Heap} (fl : ∀ B, PySem.HandSPX.FlyingZ B (X.env :: X.outer) a (Zc cls d) s.heap → PySem.HandSPX.FlyingZ B (X.env :: X.outer) a (Zc cls d) h) (u : s.heap.UpToSlots h) : Met X pins σ H a cls d { s with heap := h } := by
  obtain ⟨⟨B, sI, J, nb, up, os, ag, f⟩, n⟩ := m
  exact ⟨⟨B, sI, J, nb, up.trans u, os, ag, fl B f⟩, n⟩
/-- the class that a clause names, asked of it -/
theorem Met.asks (m : Met X pins σ H a cls d s) (hf : X.env.frame = some X.env.locals) {x : Str} {np : Pos} {c : Value} (hc : Names X x c) {Q : Value → Shared → Prop} {E : Value → Shared → Prop} (q : Q c s) : wpAny (model X.prog X.w) (X.A.mark (some (.ref a))) (eval (.Name x np) X.env) Q E s := by
  obtain ⟨oe, vs, h1, h2, h3, h4, h5⟩ := m.obj hf
  have S := m.inv.suite h1 h3 m.free h4 h5
  obtain ⟨g, db, k⟩ := hc
  rcases k with k | ⟨k, kv, kn⟩
  · exact ld_glob (X := X.suite a ((a, oe) :: (X.pn ++ pins))) S g k q db
  · exact ld_blt (X := X.suite a ((a, oe) :: (X.pn ++ pins))) S g k kv q kn db
/-- no clause is left -/
theorem Met.none_ (m : Met X pins σ H a cls d s) (hs : X.stack = X.env :: X.outer) (hf : X.env.frame = some X.env.locals) {W : WX} (tk : Takes X W) (w : W cls d σ H) {D : Ends} : wpAny (model X.prog X.w) X.A (handleBy (.ref a) X.env []) (SP X pins D) X.xe s := by
  have na := m.free
  obtain ⟨⟨B, sI, J, nb, up, os, ag, fl⟩, _⟩ := m
  obtain ⟨_, _, _, oe, vs, T, _, _, he, _, hd, h1, _⟩ := id fl
  have out : wpAny (model X.prog X.w) X.A (setFlight (.ref a) X.env.frame) (fun _ t => wpAny (model X.prog X.w) X.A (throw (.ref a) : Sem Flow) (SP X pins D) X.xe t) X.xe s := by
    rw [hf]
    exact PySem.HandSPX.setFlight_upZ fl fun h hh u => wpAny_throw (tk _ _ ⟨a, B, sI, pins, σ, H, cls, d, rfl, J, nb, up.trans u, .inr (.inr (by rw [hs]; exact hh)), na, os, ag, w⟩)
  refine wpAny_handleBy_nil ?_
  unfold PySem.passOn
  refine wpAny_bind (wpAny_field he hd h1 ?_)
  rw [if_neg (show ¬ ((Value.ref T == Value.none) = true) from by simp)]
  first | exact wpAny_bind (wpAny_pure (wpAny_bind out)) | exact wpAny_bind out
/-- the clauses, one behind the other -/
theorem Met.goes (hs : X.stack = X.env :: X.outer) (hf : X.env.frame = some X.env.locals) (hN : X.N.Nodup) {W : WX} (tk : Takes X W) {D : Ends} : ∀ {hds : List ExceptHandler} {l : List (Value × Nat × SuiteR)}, HdsA X hds l → Met X pins σ H a cls d s → wManyA X.K X.N.length W D l cls d σ H →
    wpAny (model X.prog X.w) X.A (handleBy (.ref a) X.env hds) (SP X pins D) X.xe s
  | _, _, .nil, m, w => m.none_ hs hf tk w
  | _, _, .cons (i := i) (n := n) (q := q) hc hi hk hsu r, m, w => by
    obtain ⟨b, hb, yes, no⟩ := w
    obtain ⟨oe, vs, o1, o2, o3, o4, o5⟩ := m.obj hf
    have I0 := m.inv
    have ask := PySem.W.exm_one (M := model X.prog X.w) I0.kIn (fun A Q E s k q => wpAny_typeOf_ref (k _ _ o1) (by rw [o2.1]; exact q)) hb
    refine wpAny_handleBy_cons (codeAny_handlers_test (m.asks hf hc (ask.here ?_))) (fun z => nomatch z)
    cases b with
    | false => exact Met.goes hs hf hN tk r m (no rfl)
    | true =>
      obtain ⟨⟨B, sI, J, nb, up, os, ag, fl⟩, fr⟩ := id m
      refine codeAny_handlers_suite_as (HandSPX.lands_againZ fl fun h4 f4 u4 => ?_)
      have m4 : Met X pins σ H a cls d { s with heap := h4 } := ⟨⟨B, sI, J, nb, up.trans u4, os, ag, f4⟩, fr⟩
      obtain ⟨o, vs, p1, p2, p3, p4, p5⟩ := m4.obj hf
      have ok := I0.ok
      refine store_ok (X := X.suite a ((a, o) :: (X.pn ++ pins))) (v := .ref a) (m4.inv.suite p1 p3 fr p4 p5) hN hi (.inl hk) rfl (fun t St => ?_) (.inr hk)
      refine wpAny_mono ((hsu a o cls d (X.pn ++ pins) p2 ⟨_, p3⟩).run [] t _ H _ St (yes rfl a fr J.len)) (fun fl2 u end2 => ?_) (fun _ _ z => z.elim)
      have leave : ∀ {τ : L2.St} {G : Hp} {Q : Shared → Prop}, Inv (X.suite a ((a, o) :: (X.pn ++ pins))) [] τ G u → (∀ u', Inv X pins (τ.set i none) G u' → Q u') → wpAny (model X.prog X.w) X.A (do bindName X.env n .none; unbindBehindTheSuite X.env n q) (fun _ u' => Q u') X.xe u :=
        fun I6 k => gone_ok (I6.unsuite ok) hN hi hk k
      cases fl2 <;> (first
        | (obtain ⟨τ, G, I6, k⟩ := end2; exact leave I6 fun u' J6 => ⟨_, _, J6, k⟩)
        | (obtain ⟨v, τ, G, I6, r6, k⟩ := end2; exact leave I6 fun u' J6 => ⟨_, _, _, J6, r6, k⟩))
end
/-- what the flow of the body was, out of the try -/
theorem sp_out {X : Cx} {pins pn : List (Addr × Obj)} {xe : Value → Shared → Prop} {D : Ends} {f : Flow} {s : Shared} (ok : X.Ok) (h : SP (X.tr (X.pn ++ pins) xe) pn D f s) : SP X pins D f s := by
  cases f <;> (first
    | (obtain ⟨τ, G, I, k⟩ := h; exact ⟨τ, G, I.ofTry ok, k⟩)
    | (obtain ⟨v, τ, G, I, r, k⟩ := h; exact ⟨v, τ, G, I.ofTry ok, r, k⟩))
theorem ps_try_manyA {X : Cx} {body : List Stmt} {h₀ : ExceptHandler} {hds : List ExceptHandler} {l : List (Value × Nat × SuiteR)} {pos : Pos} {tb : WX → TS} {Wout : WX} (hs : X.stack = X.env :: X.outer) (hf : X.env.frame = some X.env.locals) (hN : X.N.Nodup) (tk : Takes X Wout)
    (hb : ∀ W pn xe, Takes (X.tr pn xe) W → PassesOwn (model X.prog X.w) X.A X.env xe → PSs (X.tr pn xe) body (tb W)) (hh : HdsA X (h₀ :: hds) l) : PS X (.Try body (h₀ :: hds) [] [] pos) (fun D σ H => tb (wManyA X.K X.N.length Wout D l) D σ H) := by
  constructor
  intro pins s σ H D I h
  have ok := I.ok
  have fr : X.A.frames = some (X.env :: X.outer) := ok.frames.trans (by rw [hs])
  have B := hb (wManyA X.K X.N.length Wout D l) (X.pn ++ pins) (fun e t => wpAny (model X.prog X.w) X.A (noteFrame e X.env) (fun _ t => wpAny (model X.prog X.w) X.A (setFlight e none) (fun _ t => wpAny (model X.prog X.w) X.A (handleBy e X.env (h₀ :: hds)) (SP X pins D) X.xe t) X.xe t) X.xe t) ?_ PassesOwn.looking
  · refine wpAny_Try_except (wpAny_mono (B.run [] s σ H D (I.toTry _) h) (fun f t e => ?_) fun _ _ z => z)
    have e' := sp_out ok e
    cases f with
    | next => exact wpAny_execs_nil e'
    | _ => exact e'
  · rintro u t ⟨a, G, sI, pins', τ, H', cls, d, rfl, J', nb, up, sky, na, os, ag, w⟩
    have J : Inv X pins τ H' sI := J'.ofTry ok
    have sky2 : Sky G (X.env :: X.outer) a (Zc cls d) X.env.locals t.heap := hs ▸ sky
    exact Sky.land Zc.steady fr hf sky2 fun h3 fl u3 => Met.goes hs hf hN tk hh ⟨⟨G, sI, J, nb, up.trans u3, os, ag, fl⟩, na⟩ w
end Wk

set_option Elab.async false
set_option linter.all false
set_option maxRecDepth 100000
set_option maxHeartbeats 4000000
namespace Wk
open PySem L2 Evl
/-! ### a weighting that is made where an exception may leave -/
def spWX (chk : Ms → Ss → Mm Wt) (K : PySem.W.Frag) (C : Addr) : Sp := fun vs H Q E => ∃ (F : Hp) (x dx : Addr) (vm vs' : V) (m : Ms) (s : Ss), vs = [.ref x, vm, vs'] ∧ Ex F H ∧ H x = some (.ins C dx []) ∧ F x = none ∧
  Dq K F vm (eM m) ∧ Dq K F vs' (eS s) ∧ Post (chk m s) (fun w => ∀ F' H' a b, Gm [x] F H F' H' → H' x = some (.ins C dx (wf a b)) → F' x = none → Dq K F' a (eM w.1) → Dq K F' b (eS w.2) → Q .non H') (fun e_ => RetX [x] K F H e_ E)
theorem make_WX {chk : Ms → Ss → Mm Wt} {K : PySem.W.Frag} {C : Addr} {F H : Hp} {vm vs : V} {m : Ms} {s : Ss} {Q : VK} {E : XK} (e : Ex F H) (hm : Dq K F vm (eM m)) (hs : Dq K F vs (eS s))
    (k : Post (chk m s) (fun w => Ret [] F H (fun F' _ v => IsW K C F' v w) Q) (fun e_ => RetX [] K F H e_ E)) :
    ∀ x dx, H x = none → H dx = none → dx ≠ x → spWX chk K C (.ref x :: ([vm, vs] ++ [])) (upd (upd H dx (.own x)) x (.ins C dx [])) (fun v H2 => v = .non ∧ Q (.ref x) H2) E := by
  intro x dx hx hdx hne
  have g1 : Gm [] F H (upd F dx (.own x)) (upd H dx (.own x)) := Gm.new e hdx
  have hx1 : (upd H dx (.own x)) x = none := by rw [upd_ne hne.symm]; exact hx
  have g2 : Gm [] (upd F dx (.own x)) (upd H dx (.own x)) (upd F dx (.own x)) (upd (upd H dx (.own x)) x (.ins C dx [])) := Gm.newM g1.s hx1
  have fx : (upd F dx (.own x)) x = none := by
    cases q : (upd F dx (.own x)) x with
    | none => rfl
    | some u => rw [g1.s _ _ q] at hx1; cases hx1
  refine ⟨_, x, dx, vm, vs, m, s, rfl, g2.s, upd_same, fx, hm.up g1.f, hs.up g1.f, k.mono (fun w k F' H' a b g h1 h2 ha hb => ⟨rfl, ?_⟩) (fun e_ z cls d F' H' g y => z cls d F' H' (Gm.young (g1.trans g2) hx g) y)⟩
  have gg : Gm [] F H F' H' := Gm.young (g1.trans g2) hx g
  have g3 := gg.fix h1 h2 hx
  have up : Ex F' (upd F' x (.ins C dx (wf a b))) := Ex.new h2
  exact k _ _ _ g3 ⟨x, dx, a, b, rfl, upd_same, ha.up up, hb.up up⟩
/-! ### values of unlike kinds -/
def asI (d : PyData) : Mm Int := match d with
  | .int i => .ok i
  | _ => .bad
theorem post_asI {β : Type} {d : PyData} {f : Int → Mm β} {ok : β → Prop} {ex : Er → Prop} (h : Post ((asI d).bd f) ok ex) : ∃ i, d = .int i ∧ Post (f i) ok ex := by
  cases d with
  | int i => exact ⟨i, rfl, ⟨h.h⟩⟩
  | _ => exact h.h.elim
section
variable {K : PySem.W.Frag} {F : Hp} {v : V} {xs : List V} {l : List Int}
theorem map_intD (l : List Int) : List.map id (List.map PyData.int l) = List.map PyData.int l := by simp
theorem dq_LI (h : Dq K F v (eL PyData.int l)) : Dq K F v (eL id (l.map PyData.int)) := by
  show Dq K F v (.list ((l.map PyData.int).map id))
  rw [map_intD]
  exact h
theorem all_LI (h : DqAll K F xs (List.map PyData.int l)) : DqAll K F xs (List.map id (l.map PyData.int)) := by
  rw [map_intD]
  exact h
end
section
variable {X : Cx}
theorem call_isiB : CallR X (.builtin "isinstance") (fun xs H Q => ∃ (b : Bool) (n : String), xs = [.bl b, .ty n] ∧ (n = "int" ∨ n = "bool") ∧ Q (.bl true) H) := by
  intro pins s σ H vs us Q I r h
  obtain ⟨i, n, rfl, hn, q⟩ := h
  rcases hn with rfl | rfl
  · exact call_isi pins s σ H _ us Q I r ⟨_, _, _, _, true, rfl, .ty _, .base (.bl i), kit_ty (by decide +kernel), q⟩
  · exact call_isi pins s σ H _ us Q I r ⟨_, _, _, _, true, rfl, .ty _, .base (.bl i), kit_ty (by decide +kernel), q⟩
end
/-! ### answers of unlike kinds: None, an int, a tuple of a text and ints -/
inductive Kw where
  | weighting | places | weights | sums | number | polynomial | few | fraction | none_ | other | readings | place | clash | text
deriving DecidableEq
def Kw.w : Kw → Str
  | .weighting => "weighting" | .places => "places" | .weights => "weights" | .sums => "sums" | .number => "number" | .polynomial => "polynomial" | .few => "few" | .fraction => "fraction" | .none_ => "none" | .other => "other"
  | .readings => "readings" | .place => "place" | .clash => "clash" | .text => "text"
theorem Kw.inj : ∀ a b : Kw, (a.w == b.w) = decide (a = b) := by
  intro a b
  cases a <;> cases b <;> rfl
inductive Xr where
  | non
  | int (i : Int)
  | tup (s : Kw) (is : List Int)
  | word (s : Kw)
deriving DecidableEq
def eX : Xr → PyData
  | .non => .none
  | .int i => .int i
  | .tup s is => .tuple (.str s.w :: is.map PyData.int)
  | .word s => .str s.w
theorem eqv_ints : ∀ l r : List Int, PyData.eqvAll (l.map PyData.int) (r.map PyData.int) = decide (l = r) := fun l r => eqv_map sh_int l r
theorem sh_X : Sh eX 2 := ⟨fun x => by
    cases x with
    | non => simp [eX, PyData.canLay0]
    | int i => simp [eX, PyData.canLay0]
    | tup s is =>
      have z : PyData.strOk s.w = true := by cases s <;> decide +kernel
      simp [eX, PyData.canLay0, PyData.canLayAll0, lay_map sh_int is, z]
    | word s =>
      have z : PyData.strOk s.w = true := by cases s <;> decide +kernel
      simp [eX, PyData.canLay0, z], fun x => by
    cases x with
    | non => simp [eX, PyData.depth]
    | int i => simp [eX, PyData.depth]
    | tup s is =>
      have := dep_map sh_int is
      simp [eX, PyData.depth, PyData.depthAll]
      omega
    | word s => simp [eX, PyData.depth], fun x y => by
    cases x with
    | non => cases y <;> simp [eX, PyData.eqv]
    | int i =>
      cases y with
      | int j =>
        simp only [eX, PyData.eqv]
        exact Bool.eq_iff_iff.mpr (by simp)
      | _ => simp [eX, PyData.eqv]
    | tup s is =>
      cases y with
      | non => simp [eX, PyData.eqv]
      | int i => simp [eX, PyData.eqv]
      | tup s' is' =>
        simp only [eX, PyData.eqv, PyData.eqvAll, eqv_ints, Kw.inj]
        exact Bool.eq_iff_iff.mpr (by simp)
      | word s' => simp [eX, PyData.eqv]
    | word s =>
      cases y with
      | word s' =>
        simp only [eX, PyData.eqv, Kw.inj]
        exact Bool.eq_iff_iff.mpr (by simp)
      | _ => simp [eX, PyData.eqv]⟩
theorem none_X {K : PySem.W.Frag} {F : Hp} {v : V} {x : Xr} (h : Dq K F v (eX x)) : decide (v = V.non) = decide (x = Xr.non) := by
  cases x with
  | non =>
    cases h
    rfl
  | int i =>
    cases h
    rfl
  | tup s is =>
    cases h
    rfl
  | word s =>
    cases h
    rfl
/-! ### words of defs that may raise -/
theorem post_noE {α β : Type} {m : Mm α} {f : α → Mm β} {ok : β → Prop} {ex : Er → Prop} (h : Post ((noEx m).bd f) ok ex) : Post m (fun a => Post (f a) ok ex) (fun _ => False) := by
  cases m with
  | ok a => exact ⟨⟨h.h⟩⟩
  | ex e => exact h.h.elim
  | bad => exact h.h.elim
@[simp] theorem noEx_ok {α : Type} (a : α) : noEx (Mm.ok a) = Mm.ok a := rfl
def Er.f1 (e : Er) : Mm Int := match e.fs with
  | [i] => .ok i
  | _ => .bad
def Er.f2 (e : Er) : Mm (Int × Int) := match e.fs with
  | [i, j] => .ok (i, j)
  | _ => .bad
theorem post_f1 {β : Type} {e : Er} {f : Int → Mm β} {ok : β → Prop} {ex : Er → Prop} (h : Post ((e.f1).bd f) ok ex) : ∃ i, e.fs = [i] ∧ Post (f i) ok ex := by
  unfold Er.f1 at h
  split at h
  · rename_i i he
    exact ⟨i, he, ⟨h.h⟩⟩
  · exact h.h.elim
theorem post_f2 {β : Type} {e : Er} {f : Int × Int → Mm β} {ok : β → Prop} {ex : Er → Prop} (h : Post ((e.f2).bd f) ok ex) : ∃ i j, e.fs = [i, j] ∧ Post (f (i, j)) ok ex := by
  unfold Er.f2 at h
  split at h
  · rename_i i j he
    exact ⟨i, j, he, ⟨h.h⟩⟩
  · exact h.h.elim
theorem xd1 {K : PySem.W.Frag} {F : Hp} {cls : Value} {d : Option Addr} {e : Er} {c : Nat} {i : Int} (h : XD K F cls d e) (hc : e.c = c) (hf : e.fs = [i]) : cls = .ref (He.ga K (exN c)) ∧ ∃ dx, d = some dx ∧ F dx = some (.xd ((exF c).zip [V.int i]).reverse) := by
  obtain ⟨h1, h2⟩ := h
  obtain ⟨ec, efs⟩ := e
  dsimp only at hc hf
  subst hc
  subst hf
  refine ⟨h1, ?_⟩
  rcases h2 with ⟨z, _⟩ | h2
  · cases z
  · exact h2
theorem xd2 {K : PySem.W.Frag} {F : Hp} {cls : Value} {d : Option Addr} {e : Er} {c : Nat} {i j : Int} (h : XD K F cls d e) (hc : e.c = c) (hf : e.fs = [i, j]) : cls = .ref (He.ga K (exN c)) ∧ ∃ dx, d = some dx ∧ F dx = some (.xd ((exF c).zip [V.int i, V.int j]).reverse) := by
  obtain ⟨h1, h2⟩ := h
  obtain ⟨ec, efs⟩ := e
  dsimp only at hc hf
  subst hc
  subst hf
  refine ⟨h1, ?_⟩
  rcases h2 with ⟨z, _⟩ | h2
  · cases z
  · exact h2
end Wk
namespace Wk
open PySem L2 Evl
theorem post_cond {α : Type} {c : Bool} {X Y : Mm α} {p : α → Prop} {q : Er → Prop} (k : Post (cond c X Y) p q) : (c = true ∧ Post X p q) ∨ (c = false ∧ Post Y p q) := by
  cases c with
  | true => exact .inl ⟨rfl, ⟨k.h⟩⟩
  | false => exact .inr ⟨rfl, ⟨k.h⟩⟩
end Wk
namespace Wk
open PySem L2 Evl
def Er.g2 {β : Type} (e : Er) (f : Int → Int → Mm β) : Mm β := match e.fs with
  | [i, j] => f i j
  | _ => .bad
theorem post_g2 {β : Type} {e : Er} {f : Int → Int → Mm β} {ok : β → Prop} {ex : Er → Prop} (h : Post (Er.g2 e f) ok ex) : ∃ i j, e.fs = [i, j] ∧ Post (f i j) ok ex := by
  unfold Er.g2 at h
  split at h
  · rename_i i j he
    exact ⟨i, j, he, ⟨h.h⟩⟩
  · exact h.h.elim
end Wk

set_option Elab.async false
set_option linter.all false
set_option maxRecDepth 100000
set_option maxHeartbeats 4000000
namespace Wk
open PySem L2 Evl
theorem txt_app {a : Str} {i : Int} {n : Nat} (ha : a.length ≤ n) (hi : i.natAbs < 18446744073709551616) : (a ++ (PySem.Str.ofString (toString i))).length ≤ n + 1921 := by
  have := txt_small hi
  rw [PySem.Str.length_append]
  omega
theorem txt_app2 {a b : Str} {n m : Nat} (ha : a.length ≤ n) (hb : b.length ≤ m) : (a ++ b).length ≤ n + m := by
  rw [PySem.Str.length_append]
  omega
theorem txt_fit {a : Str} {n : Nat} (h : a.length ≤ n) (hn : n ≤ 10000) : a.length ≤ sizeLine := by
  rw [sizeLine_eq]
  omega
/-- the reading of f'..{i}' -/
theorem js1 {w1 : Str} {te : TE} {σ : L2.St} {H : Hp} {Q : Str → Hp → Prop} {i : Int} (h1 : w1.length ≤ 100) (hi : i.natAbs < 18446744073709551616) (ht : ∀ Q : VK, Q (.int i) H → te σ H Q) (q : ∀ y : Str, Q y H) :
    tJs [tC (.str w1), tFmt te] Str.empty σ H Q := by
  have e0 : (Str.empty ++ w1).length ≤ 100 := by rw [PySem.Str.length_append, show Str.empty.length = 0 from rfl]; omega
  exact ⟨w1, rfl, txt_fit e0 (by decide), ht _ (.inr ⟨i, rfl, log_small hi, _, rfl, txt_fit (txt_app e0 hi) (by decide), q _⟩)⟩
/-- the reading of f'..{i}..{j}' -/
theorem js2 {w1 w2 : Str} {te te' : TE} {σ : L2.St} {H : Hp} {Q : Str → Hp → Prop} {i j : Int} (h1 : w1.length ≤ 100) (h2 : w2.length ≤ 100) (hi : i.natAbs < 18446744073709551616) (hj : j.natAbs < 18446744073709551616)
    (ht : ∀ Q : VK, Q (.int i) H → te σ H Q) (ht' : ∀ Q : VK, Q (.int j) H → te' σ H Q) (q : ∀ y : Str, Q y H) : tJs [tC (.str w1), tFmt te, tC (.str w2), tFmt te'] Str.empty σ H Q := by
  have e0 : (Str.empty ++ w1).length ≤ 100 := by rw [PySem.Str.length_append, show Str.empty.length = 0 from rfl]; omega
  have e1 := txt_app e0 hi
  have e2 := txt_app2 e1 h2
  exact ⟨w1, rfl, txt_fit e0 (by decide), ht _ (.inr ⟨i, rfl, log_small hi, _, rfl, txt_fit e1 (by decide), w2, rfl, txt_fit e2 (by decide), ht' _ (.inr ⟨j, rfl, log_small hj, _, rfl, txt_fit (txt_app e2 hj) (by decide), q _⟩)⟩)⟩
end Wk
namespace Wk
open PySem L2 Evl
theorem IniD.binds {K : PySem.W.Frag} {P : Program} {mg : Str → Option Value} {x name qual : Str} {params : Arguments} {body : List Stmt} {scope : Scope} {fd : FuncData} {cda cc : Addr} {ps : List Str} (I : IniD K P mg x name qual params body scope fd cda cc) (hd : params.defaults = [])
    (h : ∀ (kV doc pm ct : Value) (an : Option Addr) (cdv : Value) (cc : Addr) (us : List Value), us.length = ps.length → bindArgs (PySem.W.ksFn name qual params body scope .none kV doc pm an cdv ct cc) ⟨us, []⟩ = pure (ps.zip us)) : Binds K fd ps [] := by
  obtain ⟨oc, od, kV, doc, pm, ct, an, osl, rfl, lk⟩ := I.lk
  exact .all (h kV doc pm ct an (.ref cda) cc)
end Wk

set_option Elab.async false
set_option linter.all false
set_option maxRecDepth 100000
set_option maxHeartbeats 4000000
namespace Wk
open PySem L2 Evl PySem.Spec PyProof.Rows
/-! ### xs.count(y), flat items -/
section
variable {X : Cx}
def rCount (K : PySem.W.Frag) : V → List V → Hp → VK → Prop := fun x xs H Q => ∃ (a : Addr) (ys : List V) (y : V), x = V.ref a ∧ xs = [y] ∧ SqL K H a ys ∧ flatV y = true ∧ ys.all flatV = true ∧ Q (.int ((ys.countP fun z => eqV z y : Nat) : Int)) H
theorem countP_vals {y : V} {ys : List V} {us : List Value} (r : Vals ys us) (f : ys.all flatV = true) : us.countP (eqU y) = ys.countP fun z => eqV z y := by
  induction r with
  | nil => rfl
  | cons h _ ih =>
    obtain ⟨f1, f2⟩ := Bool.and_eq_true_iff.mp (List.all_cons ▸ f)
    simp only [List.countP_cons, eqU_of h f1, ih f2]
theorem mt_count : MtR X "list.count" (rCount X.K) := by
  rintro pins s σ H x zs v us Q I rx rz ⟨a, ys, y, rfl, rfl, hs, fy, fys, q⟩
  obtain rfl : v = Value.ref a := rx
  obtain ⟨u, rfl, ru⟩ : ∃ u, us = [u] ∧ RelV y u := by
    cases rz with
    | cons h t =>
      cases t
      exact ⟨_, rfl, h⟩
  obtain ⟨its, rv, pl, _⟩ := I.list hs
  obtain ⟨⟨oc, od, dt, sl⟩, n, ho, k1, _, k2⟩ := pl
  dsimp only at k1 k2
  subst k1 k2
  have each : ∀ w ∈ its.toArray, SeqAt.EqAt X.A.in1 s w u (eqU y w) := fun w hw => mem_eqAt ru fy rv fys w (by simpa using hw)
  have c : its.toArray.toList.countP (eqU y) = ys.countP fun z => eqV z y := countP_vals rv fys
  refine call_meets F.slot_list_count ⟨_, ho, rfl⟩ F.entry_list_count (F.args_list_count_2 _ _) (SeqAt.list_countAt a _ n od sl u (eqU y)) ⟨ho, each, ?_⟩
  rw [c]
  exact ⟨.int _, H, I.tok _, ⟨_, rfl⟩, q⟩
end
/-! ### isinstance of a caught exception, with or without fields -/
/-- what the class D must say -/
structure ExcI (K : PySem.W.Frag) (D : Addr) : Prop where
  cl : (PySem.W.clsIn K D).isSome = true
  hg : PySem.W.findIn K (.ref D) "__getattribute__" = some (some (.builtin "BaseException.__getattribute__"))
  hk : PySem.W.findIn K (.ref D) "__getattr__" = some none
  hs : PySem.W.subIn K (.ref D) (.type "BaseException") = some true
  ha : PySem.W.findIn K (.ref D) "__class__" = some (some (.builtin "object.__class__"))
  hn : PySem.W.specialIn K (.builtin "object.__class__") "__get__" = some (some (.builtin "getset_descriptor.__get__"))
  ht : PySem.W.takesIn K (.builtin "object.__class__") = some true
  hm : PySem.W.mroIn K D (.type "object") = some true
def excIB (K : PySem.W.Frag) (D : Addr) : Bool := (PySem.W.clsIn K D).isSome && (He.eqO (PySem.W.findIn K (.ref D) "__getattribute__") (some (some (.builtin "BaseException.__getattribute__"))) && (He.eqO (PySem.W.findIn K (.ref D) "__getattr__") (some none) && (decide (PySem.W.subIn K (.ref D) (.type "BaseException") = some true) &&
  (He.eqO (PySem.W.findIn K (.ref D) "__class__") (some (some (.builtin "object.__class__"))) && (He.eqO (PySem.W.specialIn K (.builtin "object.__class__") "__get__") (some (some (.builtin "getset_descriptor.__get__"))) && (decide (PySem.W.takesIn K (.builtin "object.__class__") = some true) && decide (PySem.W.mroIn K D (.type "object") = some true)))))))
theorem excIB_ok {K : PySem.W.Frag} {D : Addr} (h : excIB K D = true) : ExcI K D := by
  obtain ⟨h1, h⟩ := He.ba h
  obtain ⟨h2, h⟩ := He.ba h
  obtain ⟨h3, h⟩ := He.ba h
  obtain ⟨h4, h⟩ := He.ba h
  obtain ⟨h5, h⟩ := He.ba h
  obtain ⟨h6, h⟩ := He.ba h
  obtain ⟨h7, h8⟩ := He.ba h
  exact ⟨h1, He.eqO_ok h2, He.eqO_ok h3, of_decide_eq_true h4, He.eqO_ok h5, He.eqO_ok h6, of_decide_eq_true h7, of_decide_eq_true h8⟩
/-- isinstance(e, c): e the exception that the suite holds, of the class cls, its dict d -/
def rIsX (K : PySem.W.Frag) (a : Addr) (cls : Value) (d : Option Addr) : List V → Hp → VK → Prop := fun xs H Q => ∃ (D : Addr) (c : V) (cv : Value) (b : Bool), cls = .ref D ∧ ExcI K D ∧ xs = [.ref a, c] ∧ (∀ u, RelV c u → u = cv) ∧
  (d = none ∨ ∃ (dx : Addr) (fs : List (Str × V)), d = some dx ∧ H dx = some (.xd fs)) ∧ PySem.W.kitOne K (.ref D) cv = some b ∧ Q (.bl b) H
theorem call_isX {X : Cx} {a : Addr} {cls : Value} {oe : Obj} {d : Option Addr} {pn : List (Addr × Obj)} (hz : Zc cls d oe) (hf : ∃ vs, oe.data = .fields vs) : CallR (X.suite a ((a, oe) :: pn)) (.builtin "isinstance") (rIsX X.K a cls d) := by
  rintro pins s σ H xs us Q I r ⟨D, c, cv, b, rfl, C, rfl, hcv, hd, e, q⟩
  obtain ⟨ve, vc, rfl, re, rc⟩ : ∃ ve vc, us = [ve, vc] ∧ RelV (V.ref a) ve ∧ RelV c vc := by
    cases r with
    | cons h1 t =>
      cases t with
      | cons h2 t =>
        cases t
        exact ⟨_, _, rfl, h1, h2⟩
  obtain rfl : ve = Value.ref a := re
  rw [hcv _ rc]
  have stands : s.heap.get? a = some oe := (I.pin (a, oe) (List.mem_append_left _ List.mem_cons_self)).1
  obtain ⟨vs, hv⟩ := hf
  have nc : PySem.W.notCls oe = true := by unfold PySem.W.notCls; rw [hv] <;> rfl
  have inst : ∃ od, PySem.W.InstAt s.heap a oe D od := by
    rcases hd with rfl | ⟨dx, fs, rfl, hx⟩
    · exact ⟨none, stands, hz.1, nc, by rw [hz.2]; trivial⟩
    · have z : ObjOk X.prog X.w H s.heap dx (.xd fs) := I.hok dx _ hx
      obtain ⟨m, hm, _⟩ := z
      obtain ⟨od, h1, _⟩ := lookIn_ns hm
      exact ⟨some od, stands, hz.1, nc, by rw [hz.2]; exact h1⟩
  obtain ⟨od, J⟩ := inst
  exact PySem.W.kia_one (PySem.W.kitx_exc C.cl C.hg C.hk C.hs C.ha C.hn C.ht C.hm) I.kIn J e (fun z => nomatch z) fun tk => ⟨.bl b, H, I.kept (t' := tk) fun _ _ z => z, rfl, q⟩
/-- e.f, whatever the class is -/
def tXfG (K : PySem.W.Frag) (a : Addr) (cls : Value) (d : Option Addr) (f : Str) (te : TE) : TE := fun σ H Q => te σ H fun x H1 => x = .ref a ∧ ∃ C : Addr, cls = .ref C ∧ XfC K C ∧ PySem.W.findIn K (.ref C) f = some none ∧
  ∃ (dd : Addr) (fs : List (Str × V)) (v : V), d = some dd ∧ H1 dd = some (.xd fs) ∧ fs.lookup f = some v ∧ Q v H1
theorem pe_xfG {X : Cx} {a : Addr} {oe : Obj} {cls : Value} {d : Option Addr} {pn : List (Addr × Obj)} {e : Expr} {te : TE} {pos : Pos} {n : Str} (hz : Zc cls d oe) (hf : ∃ vs, oe.data = .fields vs) (he : PE (X.suite a ((a, oe) :: pn)) e te)
    (hb : attributeBase e n X.env (eval e X.env) = eval e X.env := by rfl) : PE (X.suite a ((a, oe) :: pn)) (.Attribute e n pos) (tXfG X.K a cls d n te) := by
  constructor
  intro pins s σ H Q I h
  refine attr_of hb (thn (he.run pins s σ H _ I h) fun u t => ?_)
  rintro ⟨x, G, I1, rx, rfl, C, rfl, T, no, dd, fs, v, rfl, ea, l, q⟩
  obtain rfl : u = Value.ref a := rx
  have at_ : t.heap.get? a = some oe := (I1.pin (a, oe) (List.mem_append_left _ List.mem_cons_self)).1
  obtain ⟨vs, hv⟩ := hf
  have z : ObjOk X.prog X.w G t.heap dd (.xd fs) := I1.hok dd _ ea
  obtain ⟨m, hm, hr⟩ := z
  obtain ⟨od, k1, k2⟩ := lookIn_ns hm
  obtain ⟨y, k3, k4⟩ := RelO.some_of (v := v) (o := m n) (by rw [← l]; exact hr n)
  have J : PySem.W.InstAt t.heap a oe C (some od) := ⟨at_, hz.1, by unfold PySem.W.notCls; rw [hv] <;> rfl, by rw [hz.2]; exact k1⟩
  exact HandSPX.exc_get I1.kIn J T.ga T.gg T.exC (PySem.W.findObj_own T.hdC no rfl (by rw [k2, k3])) (handed_of k4) ⟨v, G, I1.tok _, k4, q⟩
/-! ### a class without own __init__, called with what you will -/
section
variable {X : Cx} {C : Addr} {bmB : List Value} {B newId initId : String}
theorem pmk_own1 {x : Str} {e : Expr} {es : List Expr} {ta : TA} {p pos : Pos} (F : ExcBaseFacts B newId initId bmB) (q : PySem.W.excIn X.K C bmB newId = true) (gC : X.mg x = some (.ref C)) (kC : PySem.W.keepIn X.K (.ref C) = true) (r : Raises X (.ref C)) (ha : PA X (e :: es) ta) (hg : Gl X x)
    (hdb : (x == ("__debug__" : Str)) = false := by decide) (he : starEach (e :: es) X.env = (false, eval e X.env) :: starEach es X.env := by rfl) (hpl : (backTo pos (starEach es X.env)).any (·.1) = false := by rfl) :
    PMk X (.Call (.Name x p) (e :: es) [] pos) (fun σ H Q => ta σ H fun vs H1 => vs.length ≤ 1000 ∧ Q (.ref C) none H1) := by
  intro pins s σ H Q I h
  refine wpAny_Call_Name_kw (ld_glob I hg gC ?_ hdb)
  refine PySem.W.callWith_K (h₀ := X.base) I.ok.mod.kin kC (thn (ha.run pos pins s σ H _ I h) fun us s1 hh => ?_) he hpl
  obtain ⟨vs, H1, I1, r1, hz, q1⟩ := hh
  refine ⟨I1.kIn, ?_⟩
  have hus : us.length ≤ sizeLine := by
    rw [← Paired.length r1, sizeLine_eq]
    omega
  show wpAny _ _ (call (.ref C) us) _ _ _
  obtain ⟨bm, N, nm, qn, bs, hdct, sn, sub, ab, col, dd, k0, k1, k2, k3, k5, mN, hC, hN, hni, T⟩ := exc_obj I1.kIn q
  refine wpAny_call_exc_subT F T hC hN hni (fun h' e hm => ?_) hus
  exact mk_of I1 hm r q1 (I1.hok.gone hm.new)
/-- a class without own __init__ that is known -/
structure KnP0 (K : PySem.W.Frag) (mg : Str → Option Value) (x : Str) : Prop where
  ex : PySem.W.excIn K (He.ga K x) He.veBase "ValueError.__new__" = true
  kp : PySem.W.keepIn K (.ref (He.ga K x)) = true
  sub : PySem.W.subIn K (.ref (He.ga K x)) (.type "BaseException") = some true
  typ : PySem.W.typeIn K (.ref (He.ga K x)) = some (.type "type")
  glo : mg x = some (.ref (He.ga K x))
theorem ps_raise0 {W : WX} {x : Str} {e : Expr} {es : List Expr} {ta : TA} {p pos pos' : Pos} (G : KnP0 X.K X.mg x) (tk : Takes X W) (ha : PA X (e :: es) ta) (hc : X.calm = true := by rfl) (hg : Gl X x := by rfl) (hdb : (x == ("__debug__" : Str)) = false := by decide)
    (he : starEach (e :: es) X.env = (false, eval e X.env) :: starEach es X.env := by rfl) (hpl : (backTo pos (starEach es X.env)).any (·.1) = false := by rfl) :
    PS X (.Raise (some (.Call (.Name x p) (e :: es) [] pos)) none pos') (fun _ σ H => ta σ H fun vs H1 => vs.length ≤ 1000 ∧ W (.ref (He.ga X.K x)) none σ H1) :=
  ps_raise hc tk (pmk_own1 F.excBase_ValueError G.ex G.glo G.kp (raises_own G.sub G.typ) ha hg hdb he hpl)
end
/-- a method of a list with arguments; the reading names the table of classes, not the suite -/
theorem pe_bmK {X : Cx} {K : PySem.W.Frag} {o e : Expr} {es : List Expr} {to : TE} {t : TA} {name : Str} {apos cpos : Pos} {T id : String} {rr : PySem.W.Frag → V → List V → Hp → VK → Prop} (hK : X.K = K) (pa : PlainAttrs T) (slot : Slot T name id) (hty : typeOf (.builtin id) = pure (.type "method_descriptor"))
    (hm : ∀ Y : Cx, MtR Y id (rr Y.K)) (ho : PE X o to) (ha : PA X (e :: es) t) (hbase : attributeBase o name X.env (eval o X.env) = eval o X.env := by rfl)
    (hfew : ((backTo cpos (starEach (e :: es) X.env)).all (fun x => !x.1) && (backToKw cpos (keywordEach [] X.env)).all (fun x => x.1.isSome) && decide ((e :: es).length + ([] : List Keyword).length + (if ([] : List Keyword).isEmpty then 0 else 1) < 30)) = true := by rfl)
    (hline : (apos.endLine == cpos.line) = true := by rfl) (hs : starEach (e :: es) X.env = (false, eval e X.env) :: starEach es X.env := by rfl) (hplain : (backTo cpos (starEach es X.env)).any (·.1) = false := by rfl) : PE X (.Call (.Attribute o name apos) (e :: es) [] cpos) (tBM K T (rr K) to t) := by
  subst hK
  exact pe_bm pa slot hty (hm X) ho ha hbase hfew hline hs hplain
end Wk

set_option Elab.async false
set_option linter.all false
set_option maxRecDepth 100000
set_option maxHeartbeats 4000000
namespace Wk
open PySem L2 Evl LamX
/-! ### laws that make lambdas: the tables of code objects -/
/-- the fixed part without tables -/
def noTab (F : Hp) : Hp := fun b => match F b with
  | some (.tbl _) => none
  | o => o
theorem noTab_at {F : Hp} {b : Addr} {o : HO} (h : F b = some o) (n : ∀ ps, o ≠ .tbl ps) : noTab F b = some o := by
  unfold noTab
  rw [h]
  cases o <;> first | rfl | exact absurd rfl (n _)
theorem noTab_of {F : Hp} {b : Addr} {o : HO} (h : noTab F b = some o) : F b = some o ∧ ∀ ps, o ≠ .tbl ps := by
  unfold noTab at h
  split at h
  · cases h
  · rename_i hn
    refine ⟨h, fun ps z => ?_⟩
    subst z
    exact hn _ h
/-- over the making of a lambda it is kept -/
theorem noTab_ext {F H H1 : Hp} (e : Ex F H) (x : ExtN H H1) : Ex (noTab F) H1 := fun b o h => by
  obtain ⟨h1, h2⟩ := noTab_of h
  exact x b o (e b o h1) h2
/-- two heaps that differ by tables only -/
def ExN (F F' : Hp) : Prop := ∀ b o, F b = some o → (∀ ps, o ≠ .tbl ps) → F' b = some o
theorem exN_noTab (F : Hp) : ExN F (noTab F) := fun _ _ h n => noTab_at h n
section
variable {K : PySem.W.Frag} {F F' : Hp}
theorem exN_sq {a : Addr} {xs : List V} (e : ExN F F') (h : SqT K F a xs) : SqT K F' a xs := by
  rcases h with (h | ⟨o, h⟩) | h
  · exact .inl (.inl (e _ _ h fun ps z => by cases z))
  · exact .inl (.inr ⟨o, e _ _ h fun ps z => by cases z⟩)
  · exact .inr h
mutual
theorem dqN (e : ExN F F') : ∀ (d : PyData) (v : V), Dq K F v d → Dq K F' v d
  | .none, _, .non => .non
  | .bool _, _, .bl b => .bl b
  | .int _, _, .int i => .int i
  | .str _, _, .str x => .str x
  | .list ds, _, .lst h a => .lst (e _ _ h fun ps z => by cases z) (dqAllN e ds _ a)
  | .tuple ds, _, .tup h a => .tup (exN_sq e h) (dqAllN e ds _ a)
  | .dict _, _, h => by cases h
theorem dqAllN (e : ExN F F') : ∀ (ds : List PyData) (vs : List V), DqAll K F vs ds → DqAll K F' vs ds
  | [], _, .nil => .nil
  | d :: ds, _, .cons h a => .cons (dqN e d _ h) (dqAllN e ds _ a)
end
theorem isWN {C : Addr} {v : V} {w : Wt} (e : ExN F F') (h : IsW K C F v w) : IsW K C F' v w := by
  obtain ⟨a, dx, m, s, rfl, h1, h2, h3⟩ := h.ex
  exact ⟨a, dx, m, s, rfl, e _ _ h1 (fun ps z => nomatch z), dqN e _ _ h2, dqN e _ _ h3⟩
end
/-! ### the asker of errors: what it makes of a call that may raise -/
/-- rX: what is answered to an exception, by its kind -/
def TTr (K : PySem.W.Frag) (rX : Er → Mm Xr) : (XK → Hp → VK → Prop) → Hp → VK → Prop := fun tl H Q =>
  tl (fun cls d H' => ∃ (e : Er) (F' : Hp), Ex F' H' ∧ XD K F' cls d e ∧ Post (rX e) (fun r => Ret [] F' H' (fun F2 _ v => Dq K F2 v (eX r)) Q) (fun _ => False)) H (fun _ H' => Q .non H')
/-- a list of so many -/
theorem len_succ {α : Type} {l : List α} {n : Nat} (h : l.length = n + 1) : ∃ a t, l = a :: t ∧ t.length = n := by
  cases l with
  | nil => cases h
  | cons a t => exact ⟨a, t, rfl, by simpa using h⟩
/-- the reading of f'..{i}..' -/
theorem js3 {w1 w2 : Str} {te : TE} {σ : L2.St} {H : Hp} {Q : Str → Hp → Prop} {i : Int} (h1 : w1.length ≤ 100) (h2 : w2.length ≤ 100) (hi : i.natAbs < 18446744073709551616) (ht : ∀ Q : VK, Q (.int i) H → te σ H Q) (q : ∀ y : Str, Q y H) : tJs [tC (.str w1), tFmt te, tC (.str w2)] Str.empty σ H Q := by
  have e0 : (Str.empty ++ w1).length ≤ 100 := by rw [PySem.Str.length_append, show Str.empty.length = 0 from rfl]; omega
  have e1 := txt_app e0 hi
  exact ⟨w1, rfl, txt_fit e0 (by decide), ht _ (.inr ⟨i, rfl, log_small hi, _, rfl, txt_fit e1 (by decide), w2, rfl, txt_fit (txt_app2 e1 h2) (by decide), q _⟩)⟩
end Wk

set_option Elab.async false
set_option linter.all false
set_option maxRecDepth 100000
set_option maxHeartbeats 4000000
namespace Wk
open PySem L2 Evl
/-! ### the asker of errors -/
/-- what it answers to an exception -/
def raisedX (e : Er) : Mm Xr := match e.c, e.fs with
  | 0, [p, i] => .ok (.tup .weighting [p, i])
  | 1, [i] => .ok (.tup .places [i])
  | 2, [i] => .ok (.tup .weights [i])
  | 3, [i] => .ok (.tup .sums [i])
  | 4, [] => .ok (.tup .number [])
  | 5, [] => .ok (.tup .polynomial [])
  | 6, [] => .ok (.tup .few [])
  | 7, [] => .ok (.tup .fraction [])
  | 8, [] => .ok (.tup .none_ [])
  | _, _ => .bad
/-- what is known of the classes -/
structure RaisedK (K : PySem.W.Frag) : Prop where
  one : ∀ c ∈ List.range 9, PySem.W.exmOne K (.ref (He.ga K (exN c))) (.ref (He.ga K "ReadingError")) = some true
  is : ∀ c ∈ List.range 9, ∀ j ∈ List.range 9, PySem.W.kitOne K (.ref (He.ga K (exN c))) (.ref (He.ga K (exN j))) = some (c == j)
  ve : ∀ c ∈ List.range 9, PySem.W.kitOne K (.ref (He.ga K (exN c))) (.type "ValueError") = some true
  ec : ∀ c ∈ List.range 9, ExcI K (He.ga K (exN c))
  xf : ∀ c ∈ List.range 4, XfC K (He.ga K (exN c))
  nf : ∀ c ∈ List.range 4, ∀ f ∈ exF c, PySem.W.findIn K (.ref (He.ga K (exN c))) f = some none
def raisedB (K : PySem.W.Frag) : Bool :=
  ((List.range 9).all fun c => decide (PySem.W.exmOne K (.ref (He.ga K (exN c))) (.ref (He.ga K "ReadingError")) = some true)) && (((List.range 9).all fun c => (List.range 9).all fun j => decide (PySem.W.kitOne K (.ref (He.ga K (exN c))) (.ref (He.ga K (exN j))) = some (c == j))) &&
  (((List.range 9).all fun c => decide (PySem.W.kitOne K (.ref (He.ga K (exN c))) (.type "ValueError") = some true)) && (((List.range 9).all fun c => excIB K (He.ga K (exN c))) && (((List.range 4).all fun c => xfB K (He.ga K (exN c))) &&
  ((List.range 4).all fun c => (exF c).all fun f => He.eqO (PySem.W.findIn K (.ref (He.ga K (exN c))) f) (some none))))))
theorem raisedB_ok {K : PySem.W.Frag} (h : raisedB K = true) : RaisedK K := by
  obtain ⟨h1, h⟩ := He.ba h
  obtain ⟨h2, h⟩ := He.ba h
  obtain ⟨h3, h⟩ := He.ba h
  obtain ⟨h4, h⟩ := He.ba h
  obtain ⟨h5, h6⟩ := He.ba h
  exact ⟨fun c m => of_decide_eq_true (List.all_eq_true.mp h1 c m), fun c m j n => of_decide_eq_true (List.all_eq_true.mp (List.all_eq_true.mp h2 c m) j n), fun c m => of_decide_eq_true (List.all_eq_true.mp h3 c m), fun c m => excIB_ok (List.all_eq_true.mp h4 c m),
    fun c m => xfB_ok (List.all_eq_true.mp h5 c m), fun c m f n => He.eqO_ok (List.all_eq_true.mp (List.all_eq_true.mp h6 c m) f n)⟩
section
variable {K : PySem.W.Frag} {a : Addr} {cls : Value} {d : Option Addr}
def rdIs (K : PySem.W.Frag) (a : Addr) (cls : Value) (d : Option Addr) (v : V) : TE := tCB (rIsX K a cls d) (tCons (tVar 1) (tCons (tC v) tNil))
def rdKind (K : PySem.W.Frag) (a : Addr) (cls : Value) (d : Option Addr) (x : Str) : TE := rdIs K a cls d (V.ref (He.ga K x))
def rd3 (K : PySem.W.Frag) (a : Addr) (cls : Value) (d : Option Addr) (x y z : Str) : TE := tQ (tLst (tCons (rdKind K a cls d x) (tCons (rdKind K a cls d y) (tCons (rdKind K a cls d z) tNil))))
/-- the suite's words -/
def rdRaised (K : PySem.W.Frag) (a : Addr) (cls : Value) (d : Option Addr) : TS :=
  tSeq (tAsg (rd3 K a cls d "InvalidWeighting" "InvalidPlaces" "InvalidWeights") (gName 2)) (tSeq (tAsg (tQ (tOp rCat (tVar 2) (rd3 K a cls d "InvalidSums" "InvalidNumber" "InvalidPolynomial"))) (gName 2)) (tSeq (tAsg (tQ (tOp rCat (tVar 2) (rd3 K a cls d "TooFew" "InvalidFraction" "NoWeighting"))) (gName 2))
    (tSeq (tIfS (tOr (tTest (tOp rNe (tBM K "list" (rCount K) (tVar 2) (tCons (tC (V.bl true)) tNil)) (tC (V.int 1)))) (tNot (tB (rdIs K a cls d (V.ty "ValueError"))))) (tRet (tQ (tTup (tCons (tC (V.str "other")) tNil)))) tNext)
    (tSeq (tAsg (tBM K "list" (rIndex K) (tVar 2) (tCons (tC (V.bl true)) tNil)) (gName 3)) (tSeq (tIfS (tTest (tOp rEq (tVar 3) (tC (V.int 0)))) (tRet (tQ (tTup (tCons (tC (V.str "weighting")) (tCons (tXfG K a cls d "part" (tVar 1)) (tCons (tXfG K a cls d "index" (tVar 1)) tNil)))))) tNext)
    (tSeq (tAsg (tQ (tLst (tCons (tC (V.str "")) (tCons (tC (V.str "places")) (tCons (tC (V.str "weights")) (tCons (tC (V.str "sums")) (tCons (tC (V.str "number")) (tCons (tC (V.str "polynomial")) (tCons (tC (V.str "few")) (tCons (tC (V.str "fraction")) (tCons (tC (V.str "none")) tNil))))))))))) (gName 4))
    (tRet (tIf (tTest (tOp (rI0 fun i j => V.bl (decide (i < j))) (tVar 3) (tC (V.int 4)))) (tQ (tTup (tCons (tOp (rIxL K) (tVar 4) (tVar 3)) (tCons (tXfG K a cls d "index" (tVar 1)) tNil)))) (tQ (tTup (tCons (tOp (rIxL K) (tVar 4) (tVar 3)) tNil)))))))))))
/-- the exception is there -/
structure Held (K : PySem.W.Frag) (a : Addr) (cls : Value) (d : Option Addr) (F : Hp) (c : Nat) (vs : List V) : Prop where
  cl : cls = .ref (He.ga K (exN c))
  dd : (d = none ∧ vs = []) ∨ ∃ dx, d = some dx ∧ F dx = some (.xd ((exF c).zip vs).reverse)
theorem Held.up {F H : Hp} {c : Nat} {vs : List V} (h : Held K a cls d F c vs) (e : Ex F H) : Held K a cls d H c vs := by
  refine ⟨h.cl, ?_⟩
  rcases h.dd with z | ⟨dx, z, w⟩
  · exact .inl z
  · exact .inr ⟨dx, z, e _ _ w⟩
variable (R : RaisedK K) {c : Nat} (hc : c ∈ List.range 9) {vs : List V} {σ : L2.St} (h1 : σ[1]? = some (some (.ref a))) {H : Hp} (X : Held K a cls d H c vs) {Q : VK}
include R hc h1 X
theorem rdIs_ok {v : V} {cv : Value} {b : Bool} (hcv : ∀ u, RelV v u → u = cv) (k : PySem.W.kitOne K (.ref (He.ga K (exN c))) cv = some b) (q : Q (.bl b) H) : rdIs K a cls d v σ H Q := by
  refine ⟨.ref a, h1, ⟨_, v, cv, b, X.cl, R.ec c hc, rfl, hcv, ?_, k, q⟩⟩
  rcases X.dd with z | ⟨dx, z, w⟩
  · exact .inl z.1
  · exact .inr ⟨dx, _, z, w⟩
theorem rdKind_ok {j : Nat} (hj : j ∈ List.range 9) {x : Str} (hx : x = exN j) (q : Q (.bl (c == j)) H) : rdKind K a cls d x σ H Q := by
  subst hx
  exact rdIs_ok R hc h1 X (fun u r => r) (R.is c hc j hj) q
theorem rd3_ok {i j k : Nat} (hi : i ∈ List.range 9) (hj : j ∈ List.range 9) (hk : k ∈ List.range 9) {x y z : Str} (hx : x = exN i) (hy : y = exN j) (hz : z = exN k) (q : ∀ p, H p = none → Q (.ref p) (upd H p (.lst [.bl (c == i), .bl (c == j), .bl (c == k)]))) : rd3 K a cls d x y z σ H Q :=
  rdKind_ok R hc h1 X hi hx (rdKind_ok R hc h1 X hj hy (rdKind_ok R hc h1 X hk hz ⟨by show 3 ≤ sizeLine; decide +kernel, q⟩))
end
/-- which kind it is -/
def kinds (c : Nat) : List V := [.bl (c == 0), .bl (c == 1), .bl (c == 2), .bl (c == 3), .bl (c == 4), .bl (c == 5), .bl (c == 6), .bl (c == 7), .bl (c == 8)]
section
variable {K : PySem.W.Frag} {a : Addr} {cls : Value} {d : Option Addr} (R : RaisedK K)
def rdLate (K : PySem.W.Frag) (a : Addr) (cls : Value) (d : Option Addr) : TS :=
    (tSeq (tIfS (tOr (tTest (tOp rNe (tBM K "list" (rCount K) (tVar 2) (tCons (tC (V.bl true)) tNil)) (tC (V.int 1)))) (tNot (tB (rdIs K a cls d (V.ty "ValueError"))))) (tRet (tQ (tTup (tCons (tC (V.str "other")) tNil)))) tNext)
    (tSeq (tAsg (tBM K "list" (rIndex K) (tVar 2) (tCons (tC (V.bl true)) tNil)) (gName 3)) (tSeq (tIfS (tTest (tOp rEq (tVar 3) (tC (V.int 0)))) (tRet (tQ (tTup (tCons (tC (V.str "weighting")) (tCons (tXfG K a cls d "part" (tVar 1)) (tCons (tXfG K a cls d "index" (tVar 1)) tNil)))))) tNext)
    (tSeq (tAsg (tQ (tLst (tCons (tC (V.str "")) (tCons (tC (V.str "places")) (tCons (tC (V.str "weights")) (tCons (tC (V.str "sums")) (tCons (tC (V.str "number")) (tCons (tC (V.str "polynomial")) (tCons (tC (V.str "few")) (tCons (tC (V.str "fraction")) (tCons (tC (V.str "none")) tNil))))))))))) (gName 4))
    (tRet (tIf (tTest (tOp (rI0 fun i j => V.bl (decide (i < j))) (tVar 3) (tC (V.int 4)))) (tQ (tTup (tCons (tOp (rIxL K) (tVar 4) (tVar 3)) (tCons (tXfG K a cls d "index" (tVar 1)) tNil)))) (tQ (tTup (tCons (tOp (rIxL K) (tVar 4) (tVar 3)) tNil)))))))))
theorem sz_few {n : Nat} (h : n ≤ 100) : n ≤ sizeLine := by rw [sizeLine_eq]; omega
include R in
theorem rdEarly_ok {c : Nat} (hc : c ∈ List.range 9) {vs : List V} {x0 x2 x3 x4 : Option V} {F H : Hp} (e : Ex F H) (X : Held K a cls d F c vs) {D : Ends} (k : ∀ p H', Gm [] F H F H' → H' p = some (.lst (kinds c)) → rdLate K a cls d D [x0, some (.ref a), some (.ref p), x3, x4] H') : rdRaised K a cls d D [x0, some (.ref a), x2, x3, x4] H := by
  refine rd3_ok R hc rfl (X.up e) (i := 0) (j := 1) (k := 2) (by decide) (by decide) (by decide) rfl rfl rfl fun p1 n1 => ?_
  have g1 := Gm.newM (M := []) e (o := .lst [.bl (c == 0), .bl (c == 1), .bl (c == 2)]) n1
  refine ⟨.ref p1, rfl, ?_⟩
  refine rd3_ok R hc rfl (X.up g1.s) (i := 3) (j := 4) (k := 5) (by decide) (by decide) (by decide) rfl rfl rfl fun p2 n2 => ?_
  have g2 := g1.trans (Gm.newM g1.s (o := .lst [.bl (c == 3), .bl (c == 4), .bl (c == 5)]) n2)
  have at1 := ne_of_none upd_same n2
  refine ⟨p1, p2, _, _, rfl, rfl, by rw [upd_ne at1, upd_same], upd_same, sz_few (by show 6 ≤ 100; decide), fun p3 n3 => ?_⟩
  have g3 := g2.trans (Gm.newM g2.s (o := .lst [.bl (c == 0), .bl (c == 1), .bl (c == 2), .bl (c == 3), .bl (c == 4), .bl (c == 5)]) n3)
  refine ⟨.ref p3, rfl, ?_⟩
  refine rd3_ok R hc rfl (X.up g3.s) (i := 6) (j := 7) (k := 8) (by decide) (by decide) (by decide) rfl rfl rfl fun p4 n4 => ?_
  have g4 := g3.trans (Gm.newM g3.s (o := .lst [.bl (c == 6), .bl (c == 7), .bl (c == 8)]) n4)
  have at3 := ne_of_none upd_same n4
  refine ⟨p3, p4, _, _, rfl, rfl, (by rw [upd_ne at3]; exact upd_same), upd_same, sz_few (by show 9 ≤ 100; decide), fun p5 n5 => ?_⟩
  have g5 := g4.trans (Gm.newM g4.s (o := .lst (kinds c)) n5)
  exact k p5 _ g5 upd_same
theorem iteF {b : Bool} {A B : Prop} (h : b = false) (q : B) : if b = true then A else B := by rw [h, if_neg Bool.false_ne_true]; exact q
theorem iteT {b : Bool} {A B : Prop} (h : b = true) (q : A) : if b = true then A else B := by rw [if_pos h]; exact q
theorem r9 {P : Nat → Prop} (h0 : P 0) (h1 : P 1) (h2 : P 2) (h3 : P 3) (h4 : P 4) (h5 : P 5) (h6 : P 6) (h7 : P 7) (h8 : P 8) : ∀ c ∈ List.range 9, P c := fun c h => by
  have hc : c < 9 := List.mem_range.mp h
  match c, hc with
  | 0, _ => exact h0
  | 1, _ => exact h1
  | 2, _ => exact h2
  | 3, _ => exact h3
  | 4, _ => exact h4
  | 5, _ => exact h5
  | 6, _ => exact h6
  | 7, _ => exact h7
  | 8, _ => exact h8
theorem kinds_count : ∀ c ∈ List.range 9, (kinds c).countP (fun z => eqV z (V.bl true)) = 1 := r9 rfl rfl rfl rfl rfl rfl rfl rfl rfl
theorem kinds_flat : ∀ c ∈ List.range 9, (kinds c).all flatV = true := r9 rfl rfl rfl rfl rfl rfl rfl rfl rfl
theorem kinds_at : ∀ c ∈ List.range 9, (kinds c)[c]? = some (V.bl true) := r9 rfl rfl rfl rfl rfl rfl rfl rfl rfl
theorem kinds_before : ∀ c ∈ List.range 9, ∀ (m : Nat) (z : V), m < c → (kinds c)[m]? = some z → eqV z (V.bl true) = false := fun c hc m z h hz => by
  have e : ∀ c ∈ List.range 9, (List.range c).all (fun m => match (kinds c)[m]? with | some z => !eqV z (V.bl true) | none => true) = true := r9 rfl rfl rfl rfl rfl rfl rfl rfl rfl
  have := List.all_eq_true.mp (e c hc) m (List.mem_range.mpr h)
  rw [hz] at this
  simpa using this
/-- the words -/
def words : List V := [.str "", .str "places", .str "weights", .str "sums", .str "number", .str "polynomial", .str "few", .str "fraction", .str "none"]
include R in
theorem xfG_ok {c : Nat} (hc : c ∈ List.range 4) {vs : List V} {σ : L2.St} (h1 : σ[1]? = some (some (.ref a))) {H : Hp} (hcl : cls = .ref (He.ga K (exN c))) {dx : Addr} {fs : List (Str × V)} (hd : d = some dx) (hx : H dx = some (.xd fs)) {f : Str} (hf : f ∈ exF c) {v : V} (hl : fs.lookup f = some v) {Q : VK} (q : Q v H) : tXfG K a cls d f (tVar 1) σ H Q :=
  ⟨.ref a, h1, rfl, _, hcl, R.xf c hc, R.nf c hc f hf, dx, fs, v, hd, hx, hl, q⟩
include R in
theorem rdLate_ok {c : Nat} (hc : c ∈ List.range 9) {vs : List V} {x0 x3 x4 : Option V} {p : Addr} {F H : Hp} (e : Ex F H) (X : Held K a cls d F c vs) (hp : H p = some (.lst (kinds c))) {D : Ends}
    (k0 : c = 0 → ∃ i j, vs = [.int i, .int j] ∧ Ret [] F H (fun F2 _ v => Dq K F2 v (eX (.tup .weighting [i, j]))) D.rt)
    (k1 : c ≠ 0 → c < 4 → ∃ i w, vs = [.int i] ∧ words[c]? = some (.str (Kw.w w)) ∧ Ret [] F H (fun F2 _ v => Dq K F2 v (eX (.tup w [i]))) D.rt)
    (k2 : ¬ c < 4 → ∃ w, words[c]? = some (.str (Kw.w w)) ∧ Ret [] F H (fun F2 _ v => Dq K F2 v (eX (.tup w []))) D.rt) : rdLate K a cls d D [x0, some (.ref a), some (.ref p), x3, x4] H := by
  refine ⟨.ref p, rfl, .inl ⟨rfl, _, sq_of hp⟩, p, _, _, rfl, rfl, sq_of hp, rfl, kinds_flat c hc, ?_⟩
  rw [kinds_count c hc]
  refine ⟨rfl, false, rfl, ?_⟩
  refine iteF rfl ?_
  refine rdIs_ok R hc rfl (X.up e) (cv := .type "ValueError") (fun u r => r) (R.ve c hc) ⟨true, rfl, ?_⟩
  refine iteF rfl ?_
  refine ⟨.ref p, rfl, .inl ⟨rfl, _, sq_of hp⟩, p, _, _, c, _, rfl, rfl, sq_of hp, rfl, kinds_flat c hc, kinds_at c hc, rfl, kinds_before c hc, ?_⟩
  refine ⟨.int c, rfl, rfl, _, rfl, ?_⟩
  by_cases c0 : c = 0
  · obtain ⟨i, j, hv, k⟩ := k0 c0
    have Xu := X.up e
    subst c0 hv
    refine iteT rfl ?_
    rcases Xu.dd with ⟨_, z⟩ | ⟨dx, hd, hx⟩
    · cases z
    dsimp only [tRet, tQ, tTup, tCons, tC]
    refine xfG_ok R (c := 0) (vs := [.int i, .int j]) (by decide) rfl Xu.cl hd hx (f := "part") (by decide) (v := .int i) rfl ?_
    refine xfG_ok R (c := 0) (vs := [.int i, .int j]) (by decide) rfl Xu.cl hd hx (f := "index") (by decide) (v := .int j) rfl ?_
    exact new_tup e (.cons (Dq.str _) (.cons (Dq.int i) (.cons (Dq.int j) .nil))) (by show 3 ≤ 100000; decide) k
  · refine iteF (by simpa using c0) ?_
    refine ⟨sz_few (by show 9 ≤ 100; decide), fun p2 n2 => ?_⟩
    have g := Gm.newM (M := []) e (o := .lst words) n2
    have hw : upd H p2 (.lst words) p2 = some (.lst words) := upd_same
    refine ⟨.int c, rfl, _, _, rfl, rfl, _, rfl, ?_⟩
    by_cases c4 : c < 4
    · obtain ⟨i, w, hv, hcw, k⟩ := k1 c0 c4
      refine iteT (decide_eq_true (Int.ofNat_lt.mpr c4)) ?_
      refine ⟨.ref p2, rfl, .int c, rfl, p2, _, c, _, rfl, rfl, sq_of hw, atI_nat hcw, ?_⟩
      have Xu := X.up g.s
      subst hv
      rcases Xu.dd with ⟨_, z⟩ | ⟨dx, hd, hx⟩
      · cases z
      have hF : exF c = [("index" : Str)] := by
        match c, c0, c4 with
        | 1, _, _ => rfl
        | 2, _, _ => rfl
        | 3, _, _ => rfl
      refine xfG_ok R (vs := [.int i]) (List.mem_range.mpr c4) rfl Xu.cl hd hx (f := "index") (by rw [hF]; decide) (v := .int i) (by rw [hF]; rfl) ?_
      exact new_tup g.s (.cons (Dq.str _) (.cons (Dq.int i) .nil)) (by show 2 ≤ 100000; decide) (k.then_ g)
    · obtain ⟨w, hcw, k⟩ := k2 c4
      refine iteF (decide_eq_false fun z => c4 (Int.ofNat_lt.mp z)) ?_
      refine ⟨.ref p2, rfl, .int c, rfl, p2, _, c, _, rfl, rfl, sq_of hw, atI_nat hcw, ?_⟩
      exact new_tup g.s (.cons (Dq.str _) .nil) (by show 1 ≤ 100000; decide) (k.then_ g)
end
section
variable {K : PySem.W.Frag} {a : Addr} {cls : Value} {d : Option Addr} (R : RaisedK K)
include R
theorem raised_suite {e : Er} {F H : Hp} (x : Ex F H) (h : XD K F cls d e) {D : Ends} (k : Post (raisedX e) (fun r => Ret [] F H (fun F2 _ v => Dq K F2 v (eX r)) D.rt) (fun _ => False)) {σ : L2.St} (hl : σ.length = 5) : rdRaised K a cls d D (σ.set 1 (some (.ref a))) H := by
  obtain ⟨x0, σ1, rfl, hl1⟩ := len_succ hl
  obtain ⟨x1, σ2, rfl, hl2⟩ := len_succ hl1
  obtain ⟨x2, σ3, rfl, hl3⟩ := len_succ hl2
  obtain ⟨x3, σ4, rfl, hl4⟩ := len_succ hl3
  obtain ⟨x4, σ5, rfl, hl5⟩ := len_succ hl4
  obtain rfl := List.length_eq_zero_iff.mp hl5
  obtain ⟨c, fs⟩ := e
  have held : Held K a cls d F c (fs.map V.int) := by
    obtain ⟨h1, h2⟩ := h
    refine ⟨h1, ?_⟩
    rcases h2 with ⟨z1, z2⟩ | z
    · exact .inl ⟨z2, by simp [show fs = [] from z1]⟩
    · exact .inr z
  have fin : ∀ (hc : c ∈ List.range 9) (k0 : ∀ H', Gm [] F H F H' → c = 0 → ∃ i j, fs.map V.int = [.int i, .int j] ∧ Ret [] F H' (fun F2 _ v => Dq K F2 v (eX (.tup .weighting [i, j]))) D.rt)
    (k1 : ∀ H', Gm [] F H F H' → c ≠ 0 → c < 4 → ∃ i w, fs.map V.int = [.int i] ∧ words[c]? = some (.str (Kw.w w)) ∧ Ret [] F H' (fun F2 _ v => Dq K F2 v (eX (.tup w [i]))) D.rt)
    (k2 : ∀ H', Gm [] F H F H' → ¬ c < 4 → ∃ w, words[c]? = some (.str (Kw.w w)) ∧ Ret [] F H' (fun F2 _ v => Dq K F2 v (eX (.tup w []))) D.rt), rdRaised K a cls d D [x0, some (.ref a), x2, x3, x4] H :=
    fun hc k0 k1 k2 => rdEarly_ok R hc x held fun p H' g hp => rdLate_ok R hc g.s held hp (k0 H' g) (k1 H' g) (k2 H' g)
  unfold raisedX at k
  split at k <;> dsimp only at * <;> first
    | exact k.h.elim
    | (subst_vars; exact fin (by decide) (fun H' g _ => ⟨_, _, rfl, (post_ok k).then_ g⟩) (fun _ _ z => absurd rfl z) (fun _ _ z => absurd (by decide) z))
    | (subst_vars; exact fin (by decide) (fun _ _ z => by cases z) (fun H' g _ _ => ⟨_, _, rfl, rfl, (post_ok k).then_ g⟩) (fun _ _ z => absurd (by decide) z))
    | (subst_vars; exact fin (by decide) (fun _ _ z => by cases z) (fun _ _ _ z => absurd z (by decide)) (fun H' g _ => ⟨_, rfl, (post_ok k).then_ g⟩))
theorem raised_c {e : Er} {p : Xr → Prop} {q : Er → Prop} (k : Post (raisedX e) p q) : e.c ∈ List.range 9 := by
  obtain ⟨c, fs⟩ := e
  unfold raisedX at k
  split at k <;> dsimp only at * <;> first
    | exact k.h.elim
    | (subst_vars; decide)
theorem raised_many {e : Er} {F H : Hp} (x : Ex F H) (h : XD K F cls d e) {Q : VK} {nx : L2.St → Hp → Prop} (k : Post (raisedX e) (fun r => Ret [] F H (fun F2 _ v => Dq K F2 v (eX r)) Q) (fun _ => False)) {σ : L2.St} :
    wManyA K 5 (fun _ _ _ _ => False) { nx := nx, rt := Q } [(Value.ref (He.ga K "ReadingError"), 1, fun a cls d => rdRaised K a cls d)] cls d σ H := by
  refine ⟨true, by rw [h.1]; exact R.one _ (raised_c R k), fun _ a _ hl => ?_, fun z => by cases z⟩
  exact raised_suite R (D := endsAs { nx := nx, rt := Q } 1) x h k hl
end
end Wk

set_option Elab.async false
set_option linter.all false
set_option maxRecDepth 100000
set_option maxHeartbeats 4000000
namespace Wk
open PySem L2 Evl LamX PyProof.Rows
/-! ### a lambda handed to the asker -/
structure Ask (K : PySem.W.Frag) (mg : Str → Option Value) (x a : Str) (pg : Arguments) (bg : List Stmt) (sg : Scope) : Prop where
  ex : ∃ (g : Addr) (oc : Value) (od : Option Addr) (dV kV doc pm : Value) (an : Option Addr) (cdv ct : Value) (osl : Array (Option Value)), mg x = some (.ref g) ∧ PySem.W.keepIn K (.ref g) = true ∧
    K.lookup g = some ⟨oc, od, .func (PySem.W.fnOf x x pg bg sg dV kV doc pm an cdv ct), osl⟩ ∧ PySem.W.codeIn K cdv x = true ∧ Binds K (PySem.W.fnOf x x pg bg sg dV kV doc pm an cdv ct) [a] []
theorem ask_of {K : PySem.W.Frag} {mg : Str → Option Value} {x a : Str} {pg : Arguments} {bg : List Stmt} {sg : Scope} {g : Addr} {fd : FuncData} (F : FunD K x x pg bg sg [] [] g fd) (hm : mg x = some (.ref g)) (hb : Binds K fd [a] []) : Ask K mg x a pg bg sg := by
  obtain ⟨oc, od, dV, kV, doc, pm, an, cdv, ct, osl, rfl, lk, hcd, _, _⟩ := F.ex
  exact ⟨g, oc, od, dV, kV, doc, pm, an, cdv, ct, osl, hm, F.kp, lk, hcd, hb⟩
theorem pe_ask {X : Cx} {TT : (XK → Hp → VK → Prop) → Hp → VK → Prop} {x a : Str} {c P : Addr} {k : Nat} {pg : Arguments} {bg : List Stmt} {sg : Scope} {Ng : List Str} {body : Expr} {scope : Scope} {t : XK → TE} {p lpos pos : Pos} {params : Arguments} {sc : Scope} (G : Ask X.K X.mg x a pg bg sg)
    (give : ∀ g cdv, GivesTo X Ng x sg g cdv bg a (X.env.qual ++ "<lambda>") TT) (TB : TabB X.base X.mg c P) (hr : Room (k + 2) X.A) (Sg : FnScope Ng [a] sg) (hcode : X.env.code = .ref c) (hg : Gl X x) (hNg : Ng[0]? = some a) (hva : Vis sg a) (hsc : X.env.scope = sc) (L : lamSB sc scope = true) (hdef : defaultsOf params X.env = ([], []))
    (hbind : ∀ (q : Str) (cl : List (Str × Addr)) (pm cv ctv : Value), bindArgs (PySem.W.kla_fn "<lambda>" q params body scope cl pm cv ctv) ⟨[], []⟩ = pure [])
    (hbody : ∀ (A : Around) (outer : List Env) (s : Shared) (H : Hp) (E : XK) (f c' : Addr), Room k (A.deeper (lamEnv X scope s.heap.objs.size f c')) → PE (lamCx X A outer s H E scope f c') body (t E))
    (hdb : (x == ("__debug__" : Str)) = false := by decide) (hd : (a == ("__debug__" : Str)) = false := by decide) (hcd : (a == ("__classdict__" : Str)) = false := by decide) :
    PE X (.Call (.Name x p) [.Lambda params body scope lpos] [] pos) (tLam [(P, X.env.qual ++ "<lambda>")] TT t) := by
  obtain ⟨g, oc, od, dV, kV, doc, pm, an, cdv, ct, osl, hm, kp, lk, hcg, hb⟩ := G.ex
  exact pe_lamcall hg hm kp lk hcg hb Sg hNg hva (give g cdv) TB hcode (List.mem_singleton.mpr rfl) (fun q hq _ => by rw [List.mem_singleton.mp hq]) hr (lamS_by (hsc ▸ L)) hdef hbind hbody hdb hd hcd
theorem pe_castT {X : Cx} {e : Expr} {t t' : TE} (h : PE X e t') (q : t' = t) : PE X e t := q ▸ h
/-! ### tables while other things change -/
def NoTbl (H : Hp) (a : Addr) : Prop := H a = none ∨ (∃ xs, H a = some (.lst xs)) ∨ ∃ es, H a = some (.dK es)
theorem nt_nil {H : Hp} : ∀ m ∈ ([] : List Addr), NoTbl H m := fun _ h => by cases h
theorem nt_cons {H : Hp} {a : Addr} {M : List Addr} {xs : List V} (h : H a = some (.lst xs)) (r : ∀ m ∈ M, NoTbl H m) : ∀ m ∈ a :: M, NoTbl H m := fun m hm => by
  rcases List.mem_cons.mp hm with rfl | hm
  · exact .inr (.inl ⟨_, h⟩)
  · exact r m hm
theorem nt_dic {H : Hp} {a : Addr} {M : List Addr} {es : List (L2.Key × V)} (h : H a = some (.dK es)) (r : ∀ m ∈ M, NoTbl H m) : ∀ m ∈ a :: M, NoTbl H m := fun m hm => by
  rcases List.mem_cons.mp hm with rfl | hm
  · exact .inr (.inr ⟨_, h⟩)
  · exact r m hm
theorem tabs_gm {T : List (Addr × Str)} {M : List Addr} {F H F' H' : Hp} (t : Tabs T H) (n : ∀ m ∈ M, NoTbl H m) (g : Gm M F H F' H') : Tabs T H' := fun p hp => by
  obtain ⟨ps, h1, h2, h3⟩ := t p hp
  have out : ∀ b o, H b = some o → (∀ xs, o ≠ .lst xs) → (∀ es, o ≠ .dK es) → H' b = some o := fun b o e z z2 => g.h b o (fun hm => by
    rcases n b hm with q | ⟨xs, q⟩ | ⟨es, q⟩
    · rw [e] at q; cases q
    · rw [e] at q; exact z xs (Option.some.inj q)
    · rw [e] at q; exact z2 es (Option.some.inj q)) e
  refine ⟨ps, out _ _ h1 (fun xs z => by cases z) (fun xs z => by cases z), h2, fun pos cv hc => ?_⟩
  obtain ⟨c, e1, e2⟩ := h3 pos cv hc
  exact ⟨c, e1, out _ _ e2 (fun xs z => by unfold CodeO at z; cases z) (fun xs z => by unfold CodeO at z; cases z)⟩
theorem tabs_start {P : Addr} {q : Str} {H H0 : Hp} (h : H P = some (.tbl #[])) (e : Ex H H0) : Tabs [(P, q)] H0 := fun p hp => by
  rw [List.mem_singleton.mp hp]
  exact TabS.nil (e _ _ h)
section
variable {K : PySem.W.Frag} {F F' H H1 : Hp}
theorem exN_l {a : Addr} {xs : List V} (e : ExN F F') (h : SqL K F a xs) : SqL K F' a xs := by
  rcases h with (h | ⟨o, h⟩) | h
  · exact .inl (.inl (e _ _ h fun ps z => by cases z))
  · exact .inl (.inr ⟨o, e _ _ h fun ps z => by cases z⟩)
  · exact .inr h
theorem noTab_none {b : Addr} (h : F b = none) : noTab F b = none := by
  unfold noTab
  rw [h]
theorem row_noTab {sc ra : Addr} {scr : List Int} {st : Rw} (w : RowAt K sc ra scr F H st) (x : ExtN H H1) : RowAt K sc ra scr (noTab F) H1 st :=
  ⟨x _ _ w.1 (fun ps z => by cases z), noTab_none w.2.1, exN_l (exN_noTab F) w.2.2⟩
theorem own_noTab {p : Addr} {xs : List V} (o : H p = some (.lst xs) ∧ F p = none) (x : ExtN H H1) : H1 p = some (.lst xs) ∧ noTab F p = none := ⟨x _ _ o.1 (fun ps z => by cases z), noTab_none o.2⟩
theorem noTab_sub (F : Hp) : Ex (noTab F) F := fun b o h => (noTab_of h).1
theorem new_rowT {sc : Addr} {scr : List Int} {Q : VK} (hs : SqL K H sc (scr.map V.int)) (k : ∀ ra H', Ex H H' → Ex (noTab H) H' → RowAt K sc ra scr (noTab H) H' ⟨0, 0, 0⟩ → Q (.ref ra) H') :
    [V.ref sc, V.int 0, V.int 0, V.int 0].length ≤ sizeLine ∧ ∀ p, H p = none → Q (.ref p) (upd H p (.lst [V.ref sc, V.int 0, V.int 0, V.int 0])) :=
  ⟨sz_of (by show 4 ≤ 100000; decide), fun p hp => k p _ (Ex.new hp) (fun b o h => Ex.new hp _ _ (noTab_sub H b o h)) ⟨upd_same, noTab_none hp, exN_l (exN_noTab H) hs⟩⟩
end
/-! ### the walk over the asker's call -/
theorem raised_noex {e : Er} {p : Xr → Prop} {q : Er → Prop} (k : Post (raisedX e) p q) : Post (raisedX e) p (fun _ => False) := by
  unfold raisedX at *
  split at k <;> exact ⟨k.h⟩
theorem lam_jM {α β : Type} {K : PySem.W.Frag} {F H : Hp} {Q : VK} {t : XK → Hp → VK → Prop} {m : Mm β} {rest : Xr → Mm α} {ok : α → Prop} {ex : Er → Prop} (k : Post ((m.tr raisedX fun _ => Mm.ok Xr.non).bd rest) ok ex)
    (hb : ∀ (Q' : VK) (E' : XK), Post m (fun _ => ∀ v F' H', Gm [] F H F' H' → Q' v H') (fun e => RetX [] K F H e E') → t E' H Q')
    (kk : ∀ x v F' H', Gm [] F H F' H' → Dq K F' v (eX x) → Post (rest x) ok ex → Q v H') : TTr K raisedX t H Q := by
  refine hb _ _ ((post_tr (post_bd k)).mono (fun a h v F' H' g => kk .non .non F' H' g Dq.non h.h) fun e h cls d F' H' g xd => ?_)
  exact ⟨e, F', g.s, xd, (raised_noex h).mono (fun r p v F2 H2 g2 dq => kk r v F2 H2 (g.trans g2) dq p) fun _ z => z⟩
/-! ### a def whose code object is known -/
theorem fn_code {CX : CXT} {P : Program} {w : World} {K : PySem.W.Frag} {mg : Str → Option Value} {base : Heap} {x qual : Str} {params : Arguments} {body : List Stmt} {scope : Scope} {fd : FuncData} {N ps : List Str} {k : Nat} {sp : Sp} (F : FunD K x qual params body scope [] [] (He.ga K x) fd) (S : FnScope N ps scope)
    (len : ∀ vs H Q E, sp vs H Q E → vs.length = ps.length)
    (hbody : ∀ (A : Around) (outer : List Env) (s : Shared) (H : Hp) (vs : List V) (Q : VK) (E : XK), Room k (A.deeper (envOfC qual scope s.heap.objs.size (He.ga K x) (.ref (He.codeOf K (x, none))))) → sp vs H Q E →
      ∃ t, PSs (cxOf CX P w K mg base N qual scope (He.ga K x) (.ref (He.codeOf K (x, none))) A outer s H E) body t ∧ t { nx := fun _ H' => Q .non H', rt := Q } (L2.start N vs) H) : FnOk P w K mg base CX (k + 1) (He.ga K x) fd ps sp := by
  obtain ⟨oc, od, dV, kV, doc, pm, an, cdv, ct, osl, rfl, lk, hcd, _, _⟩ := F.ex
  obtain ⟨c, rfl⟩ := He.codeIn_ref hcd
  have e : He.codeOf K (x, none) = c := He.codeOf_eq (p := (x, none)) lk rfl
  rw [e] at hbody
  exact fn_of lk hcd S len hbody
/-! ### the Hook with tables -/
open PySem.W He in
def tabOk (g : Addr → Option Obj) (K : Frag) (p : Defn) : Bool := codeHdIn K (cT K p).1 (cT K p).2 && ((K.lookup (cT K p).2).isNone && (g (cT K p).2).any emptyTab)
structure TabK (K : PySem.W.Frag) (h : Heap) (p : He.Defn) : Prop where
  hd : PySem.W.codeHdIn K (He.cT K p).1 (He.cT K p).2 = true
  out : K.lookup (He.cT K p).2 = none
  empty : h.get? (He.cT K p).2 = some { cls := .none, data := .fields #[] }
theorem tabOk_ok {K : PySem.W.Frag} {h : Heap} {p : He.Defn} (e : tabOk h.get? K p = true) : TabK K h p := by
  obtain ⟨h1, e⟩ := He.ba e
  obtain ⟨h2, h3⟩ := He.ba e
  refine ⟨h1, by simpa using h2, ?_⟩
  cases q : h.get? (He.cT K p).2 with
  | none => rw [q] at h3; cases h3
  | some o => rw [q] at h3; rw [He.emptyTab_eq h3]
open PySem.W He in
def obsXT (as : List Addr) (fa : List Fa) (fn es : List He5.DefA) (ts : List Defn) (ex : Frag → Bool) (g : Addr → Option Obj) : He.AlD := ((obsXS as fa fn es ex g).1 && ts.all fun p => tabOk g (frG g as) p, (obsXS as fa fn es ex g).2)
open PySem.W He in
def hookXT (as : List Addr) (fa : List Fa) (fn es : List He5.DefA) (ts : List Defn) (ex : Frag → Bool) : PySem.W.Hook where
  α := He.AlD
  obs := fun s => obsXT as fa fn es ts ex s.heap.get?
  val := fun _ => valXS fn es
  says := fun _ h => ∃ K : Frag, K.In h ∧ SaysXS fa fn es ex K ∧ ∀ p ∈ ts, TabK K h p
  of := fun _ s e => by
    have e1 : (obsXT as fa fn es ts ex s.heap.get?).1 = true := congrArg Prod.fst e
    have e2 : (obsXT as fa fn es ts ex s.heap.get?).2 = _ := congrArg Prod.snd e
    obtain ⟨a1, a2⟩ := ba e1
    exact ⟨_, frG_in, saysXS_of (Prod.ext a1 e2), fun p hp => tabOk_ok (List.all_eq_true.mp a2 p hp)⟩
  keeps := fun _ _ _ ⟨K, hK, c, t⟩ k => ⟨K, Frag.In.keeps hK k, c, fun p hp => ⟨(t p hp).hd, (t p hp).out, k _ _ (t p hp).empty⟩⟩
open PySem.W He in
theorem obsXT_eq {as : List Addr} {fa : List Fa} {fn es : List He5.DefA} {ts : List Defn} {ex : Frag → Bool} {g : Addr → Option Obj} {s : Shared} (h : ∀ a, g a = s.heap.get? a) : obsXT as fa fn es ts ex g = (hookXT as fa fn es ts ex).obs s := by
  have e : g = s.heap.get? := funext h
  rw [e] <;> rfl
end Wk

set_option Elab.async false
set_option linter.all false
set_option maxRecDepth 100000
set_option maxHeartbeats 4000000
namespace Wk
open PySem L2 Evl
/-! ### a mirror without exceptions, and the same with them -/
/-- where m answers, m' answers the same -/
structure Le {α : Type} (m m' : Mm α) : Prop where
  h : ∀ a, m = .ok a → m' = .ok a
namespace Le
variable {α β γ S R : Type}
theorem refl (m : Mm α) : Le m m := ⟨fun _ h => h⟩
theorem bad (m : Mm α) : Le .bad m := ⟨fun _ h => by cases h⟩
theorem bd {m m' : Mm α} {f f' : α → Mm β} (h : Le m m') (k : ∀ a, Le (f a) (f' a)) : Le (m.bd f) (m'.bd f') := ⟨fun b e => by
  cases m with
  | ok a => rw [h.h a rfl]; exact (k a).h b e
  | ex _ => cases e
  | bad => cases e⟩
theorem noEx {m m' : Mm α} (h : Le m m') : Le m (Wk.noEx m') := ⟨fun a e => by rw [h.h a e] <;> rfl⟩
theorem noE (m : Mm α) : Le m (Wk.noEx m) := noEx (refl m)
theorem cond {c : Bool} {m n m' n' : Mm α} (h : Le m m') (k : Le n n') : Le (_root_.cond c m n) (_root_.cond c m' n') := by cases c <;> assumption
theorem foldM {f f' : S → α → Mm S} (h : ∀ s x, Le (f s x) (f' s x)) : ∀ (s : S) (l : List α), Le (Wk.foldM f s l) (Wk.foldM f' s l)
  | s, [] => refl _
  | s, x :: l => bd (h s x) fun s' => foldM h s' l
theorem foldL {f f' : S → α → Mm (Fl R S)} (h : ∀ s x, Le (f s x) (f' s x)) : ∀ (s : S) (l : List α), Le (Wk.foldL f s l) (Wk.foldL f' s l)
  | s, [] => refl _
  | s, x :: l => bd (h s x) fun o => by cases o <;> first | exact foldL h _ l | exact refl _
theorem el {o : Fl R S} {g g' : S → Mm β} {r r' : R → Mm β} (h : ∀ s, Le (g s) (g' s)) (k : ∀ x, Le (r x) (r' x)) : Le (o.el g r) (o.el g' r') := by
  cases o with
  | go s => exact h s
  | brk s => exact h s
  | ret x => exact k x
theorem foldW {c c' : S → Mm Bool} {f f' : S → Mm S} (h : ∀ s, Le (c s) (c' s)) (k : ∀ s, Le (f s) (f' s)) : ∀ (n : Nat) (s : S), Le (Wk.foldW c f n s) (Wk.foldW c' f' n s)
  | 0, s => bad _
  | n + 1, s => bd (h s) fun b => by cases b <;> first | exact bd (k s) fun s' => foldW h k n s' | exact refl _
theorem mapMm {f f' : α → Mm γ} (h : ∀ x, Le (f x) (f' x)) : ∀ l : List α, Le (Wk.mapMm f l) (Wk.mapMm f' l)
  | [] => refl _
  | x :: l => bd (h x) fun y => bd (mapMm h l) fun ys => refl _
theorem filMm {f f' : α → Mm (Option γ)} (h : ∀ x, Le (f x) (f' x)) : ∀ l : List α, Le (Wk.filMm f l) (Wk.filMm f' l)
  | [] => refl _
  | x :: l => bd (h x) fun y => bd (filMm h l) fun ys => refl _
end Le
theorem post_le {α β : Type} {m m' : Mm α} {f : α → Mm β} {ok : β → Prop} (l : Le m m') (h : Post (m.bd f) ok fun _ => False) : Post m' (fun a => Post (f a) ok fun _ => False) (fun _ => False) := by
  cases m with
  | ok a => rw [l.h a rfl]; exact ⟨⟨h.h⟩⟩
  | ex e => exact h.h.elim
  | bad => exact h.h.elim
end Wk

set_option Elab.async false
set_option linter.all false
set_option maxRecDepth 100000
set_option maxHeartbeats 4000000
namespace Wk
open PySem L2 Evl PySem.Spec PyProof.Rows
/-! ### a tuple, repeated not at all -/
theorem tuple_mulW0 (l : Addr) (items : Array Value) (n : Nat) (dd : Option Addr) (sl : Array (Option Value)) (x : Int) (u : Tok) (c0 : (decide (x < -(2 ^ 63)) || decide (x ≥ 2 ^ 63)) = false) (c1 : (items.isEmpty || x == 1) = false) (c2 : (decide (x ≤ 0) || items.isEmpty) = true) :
    Meets (Builtin.«tuple.__mul__» ⟨[.ref l, .int x u], []⟩) (fun _ R s => s.heap.get? l = some { cls := .type "tuple", dict := dd, data := .seq items n, slots := sl } ∧
      R (.ok (.ret (Value.ref s.heap.objs.size))) { s with heap := s.heap.push { cls := Value.type "tuple", data := Data.seq #[] }, toks := s.toks }) :=
  .of_wp fun prog w A R s h => by
    obtain ⟨hp, g, d, tk, os⟩ := s
    obtain ⟨hl, h⟩ := h
    have f1 := AutoSeq1.idx_int
    wp_walk using wpAny_loadPart' hl
    repeat (first
      | (refine wpAny_ite_false (decide_eq_false (by rw [c0]; exact Bool.false_ne_true)) ?_; wp_walk using wpAny_loadPart' hl)
      | (refine wpAny_ite_false (decide_eq_false (by rw [c1]; exact Bool.false_ne_true)) ?_; wp_walk using wpAny_loadPart' hl)
      | (refine wpAny_ite_true (decide_eq_true (by rw [c2])) ?_; wp_walk using wpAny_loadPart' hl))
    exact ⟨_, rfl, h⟩
def rRepZ (K : PySem.W.Frag) : R2 := fun x y H Q => ∃ l k xs, x = .ref l ∧ y = .int k ∧ SqT K H l xs ∧ xs ≠ [] ∧ -(2 ^ 62) ≤ k ∧ k ≤ 1000 ∧ xs.length ≤ 1000 ∧ (k = 1 → Q (.ref l) H) ∧ (k ≠ 1 → ∀ p, H p = none → Q (.ref p) (upd H p (.tup (List.replicate k.toNat xs).flatten)))
theorem op_repZ {X : Cx} : OpR X (binaryOp .Mult) (rRepZ X.K) := by
  intro pins s σ H x y v u Q I rx ry h
  obtain ⟨l, k, xs, rfl, rfl, hT, hne, h1, h2, hz, q1, q2⟩ := h
  by_cases e : 1 ≤ k
  · exact op_repTM pins s σ H _ _ v u Q I rx ry ⟨l, k, xs, rfl, rfl, hT, hne, e, h2, hz, q1, fun z => q2 (by omega)⟩
  · cases rx
    obtain ⟨t, rfl⟩ := ry
    obtain ⟨its, r, ⟨⟨cls, dd, data, sl⟩, ho, hc, n, hd⟩, hs⟩ := I.tuple hT
    simp only at hc hd
    subst hc hd
    have hle : its.length = xs.length := r.length.symm
    have hi : its.toArray.isEmpty = false := by
      cases its with
      | nil => exact absurd (List.eq_nil_of_length_eq_zero hle.symm) hne
      | cons a b => rfl
    have c0 : (decide (k < -(2 ^ 63)) || decide (k ≥ 2 ^ 63)) = false := by rw [decide_eq_false (by omega), decide_eq_false (by omega)] <;> rfl
    have c1 : (its.toArray.isEmpty || k == 1) = false := by rw [hi, Bool.false_or]; exact beq_eq_false_iff_ne.mpr (by omega)
    have c2 : (decide (k ≤ 0) || its.toArray.isEmpty) = true := by rw [decide_eq_true (by omega)]; rfl
    have q3 := q2 (by omega)
    have e0 : (List.replicate k.toNat xs).flatten = [] := by
      rw [show k.toNat = 0 by omega]
      rfl
    rw [e0] at q3
    refine wpAny_binaryOp_repeat_ref (T := "tuple") (U := "int") (by decide) ⟨_, ho, rfl⟩ (fun s' => typeIs_int s' k t) noFill_tuple_mul F.fills_int_mul F.slot_int_rmul repeat_tuple F.slot_int_index.lookup
      (call_meets F.slot_int_rmul (typeIs_int s k t) F.entry_int_rmul (F.args_int_rmul_2 _ _) (int_rmul_tuple k t l its.toArray n dd sl)
        ⟨ho, rfl, ⟨_, ho, rfl⟩, call_meets F.slot_tuple_mul ⟨_, ho, rfl⟩ F.entry_tuple_mul (F.args_tuple_mul_2 _ _) (tuple_mulW0 l its.toArray n dd sl k t c0 c1 c2) ⟨ho, ?_⟩⟩)
    refine ⟨.ref s.heap.objs.size, _, I.laid (t' := s.toks) (o := .tup []) (fun b ob q => Heap.get?_push_of_some _ q) (Nat.le_refl _) ?_, rfl, q3 _ (I.hok.fresh (Nat.le_refl _))⟩
    exact ⟨by rw [sizeLine_eq]; exact Nat.zero_le _, _, .nil, IsTup.new _ _⟩
section
variable {K : PySem.W.Frag} {M : List Addr} {F H : Hp} {Q : VK} {α : Type} {en : α → PyData} {l : List α} {xs : List V} {a : Addr} {j : Int}
/-- a tuple, repeated, perhaps not at all -/
theorem rep_tupZ (e : Ex F H) (s : SqT K F a xs) (d : DqAll K F xs (l.map en)) (h : 1 ≤ l.length ∧ l.length ≤ 1000 ∧ -4611686018427387904 ≤ j ∧ j ≤ 1000) (k : Ret M F H (fun F' _ v => Dq K F' v (eV en (List.replicate j.toNat l).flatten)) Q) : rRepZ K (.ref a) (.int j) H Q := by
  have hl : xs.length = l.length := by rw [d.len, List.length_map]
  refine ⟨a, j, xs, rfl, rfl, ex_t e s, fun z => ?_, by have := h.2.2.1; omega, h.2.2.2, by omega, fun z => ?_, fun _ p hp => ?_⟩
  · rw [z] at hl
    simp only [List.length_nil] at hl
    omega
  · have e1 : (List.replicate j.toNat l).flatten = l := by
      rw [z]
      simp
    rw [e1] at k
    exact k _ _ _ (Gm.refl e) (.tup s d)
  · have g : Gm M F H (upd F p (.tup (List.replicate j.toNat xs).flatten)) (upd H p (.tup (List.replicate j.toNat xs).flatten)) := Gm.new e hp
    exact k _ _ _ g (.tup (st_of upd_same) ((all_rep d _).up g.f))
end
end Wk
namespace Wk
open PySem L2 Evl
section
variable {K : PySem.W.Frag} {M : List Addr} {F H : Hp} {Q : VK} {α : Type} {en : α → PyData} {l : List α} {xs : List V} {a : Addr}
/-- a cut of an own list -/
theorem cut_lstO {lo hi : Option Int} (e : Ex F H) (s : H a = some (.lst xs)) (h : DqAll K F xs (l.map en)) (k : Ret M F H (fun F' _ v => Dq K F' v (eL en (cutL l lo hi))) Q) : rSlL K (.ref a) lo hi H Q :=
  ⟨a, xs, rfl, sq_of s, fun p hp => by
    have g : Gm M F H (upd F p (.lst (cutV xs lo hi))) (upd H p (.lst (cutV xs lo hi))) := Gm.new e hp
    exact k _ _ _ g (.lst upd_same ((cut_all h).up g.f))⟩
end
end Wk

set_option Elab.async false
set_option linter.all false
set_option maxRecDepth 100000
set_option maxHeartbeats 4000000
namespace Wk
open PySem L2 Evl LamX PyProof.Rows
/-! ### ways on which lambdas are made -/
theorem ExN.refl (F : Hp) : ExN F F := fun _ _ h _ => h
theorem ExN.trans {F G H : Hp} (a : ExN F G) (b : ExN G H) : ExN F H := fun c o h n => b c o (a c o h n) n
theorem ExN.of {F G : Hp} (e : Ex F G) : ExN F G := fun c o h _ => e c o h
/-- what stands behind such a way: tables apart, what was fixed is fixed -/
structure GN (T : List (Addr × Str)) (F F' H' : Hp) : Prop where
  f : ExN F F'
  s : Ex F' H'
  t : Tabs T H'
theorem GN.refl {T : List (Addr × Str)} {F H : Hp} (e : Ex F H) (t : Tabs T H) : GN T F F H := ⟨ExN.refl _, e, t⟩
theorem GN.trans {T : List (Addr × Str)} {F F1 H1 F2 H2 : Hp} (a : GN T F F1 H1) (b : GN T F1 F2 H2) : GN T F F2 H2 := ⟨a.f.trans b.f, b.s, b.t⟩
section
variable {T : List (Addr × Str)} {F H : Hp} {σ : L2.St} {α S β : Type} {a : Bool} {Y : Mm (Bool × S)} {rest : Bool × S → Mm α} {st : S} {ok : α → Prop} {ex : Er → Prop} {Q : Bool → Hp → Prop} {u : TT}
theorem and_jN (W : S → Hp → Hp → Prop) (g0 : GN T F F H) (h0 : W st F H) (k : Post ((cond a Y (.ok (false, st))).bd rest) ok ex)
    (hu : a = true → ∀ Q' : Bool → Hp → Prop, Post Y (fun b => ∀ F' H', GN T F F' H' → W b.2 F' H' → Q' b.1 H') ex → u σ H Q')
    (kk : ∀ b F' H', GN T F F' H' → W b.2 F' H' → Post (rest b) ok ex → Q b.1 H') : if a = true then u σ H Q else Q false H := by
  cases a with
  | false => rw [if_neg Bool.false_ne_true]; exact kk (false, st) F H g0 h0 ⟨k.h⟩
  | true => rw [if_pos rfl]; exact hu rfl Q ((post_bd k).mono (fun b q F' H' g s => kk b F' H' g s q) fun _ z => z)
theorem or_jN (W : S → Hp → Hp → Prop) (g0 : GN T F F H) (h0 : W st F H) (k : Post ((cond a (.ok (true, st)) Y).bd rest) ok ex)
    (hu : a = false → ∀ Q' : Bool → Hp → Prop, Post Y (fun b => ∀ F' H', GN T F F' H' → W b.2 F' H' → Q' b.1 H') ex → u σ H Q')
    (kk : ∀ b F' H', GN T F F' H' → W b.2 F' H' → Post (rest b) ok ex → Q b.1 H') : if a = true then Q true H else u σ H Q := by
  cases a with
  | true => rw [if_pos rfl]; exact kk (true, st) F H g0 h0 ⟨k.h⟩
  | false => rw [if_neg Bool.false_ne_true]; exact hu rfl Q ((post_bd k).mono (fun b q F' H' g s => kk b F' H' g s q) fun _ z => z)
end
section
variable {T : List (Addr × Str)} {F H : Hp} {σ : L2.St} {D : Ends} {g : TG} {tb : TS} {α β S : Type} {step : S → Int → Mm S} {rest : S → Mm β} {ok : β → Prop} {ex : Er → Prop} {s0 : S} {lo : Int} {n : Nat}
theorem for_mN (I : S → Hp → Hp → L2.St → Prop) (k : Post ((foldM step s0 (rangeL lo n)).bd rest) ok ex) (g0 : GN T F F H) (h0 : I s0 F H σ)
    (hb : ∀ s x σ' F' H', GN T F F' H' → I s F' H' σ' → ∀ nx : L2.St → Hp → Prop,
      Post (step s x) (fun s' => ∀ σ2 F2 H2, GN T F F2 H2 → I s' F2 H2 σ2 → nx σ2 H2) ex → g (V.int x) σ' H' fun σ2 H2 => tb { D with nx := nx, ct := nx, bk := D.nx } σ2 H2)
    (kk : ∀ s σ' F' H', GN T F F' H' → I s F' H' σ' → Post (rest s) ok ex → D.nx σ' H') :
    ∃ W : Nat → Nat → L2.St → Hp → Prop, (∃ m, W 0 m σ H) ∧ ∀ i m σ H, W i m σ H →
      ((Itr lo n).stop i H ∧ D.nx σ H) ∨ ((Itr lo n).go i H ∧ ∃ N : L2.St → Hp → Prop, (∀ σ' H', N σ' H' → ∃ m', m' < m ∧ W (i + 1) m' σ' H') ∧ ∀ x H', (Itr lo n).yld i H x H' → g x σ H' fun σ2 H2 => tb { D with nx := N, ct := N, bk := D.nx } σ2 H2) := by
  refine for_it (walk_range (lo := lo) (n := n)) (fun i σ' H' => ∃ s F', GN T F F' H' ∧ I s F' H' σ' ∧ Post ((foldM step s ((rangeL lo n).drop i)).bd rest) ok ex) ⟨s0, F, g0, h0, k⟩ (fun _ _ _ _ _ => trivial) ?_ ?_
  · rintro i v σ' H' H'' hi ⟨s, F', g', i', k'⟩ y
    have hl : i < (rangeL lo n).length := by simpa [rangeL] using hi
    have e1 : (rangeL lo n).drop i = (rangeL lo n)[i] :: (rangeL lo n).drop (i + 1) := List.drop_eq_getElem_cons hl
    rw [e1] at k'
    have k2 := post_bd (post_assoc k')
    obtain ⟨rfl, hv⟩ := y
    have ex_ := rangeL_at (List.getElem?_eq_getElem hl)
    rw [hv.trans (show _ = V.int (rangeL lo n)[i] by rw [ex_])]
    exact hb s (rangeL lo n)[i] σ' F' _ g' i' _ (k2.mono (fun s' q σ2 F2 H2 g2 i2 => ⟨s', F2, g2, i2, q⟩) fun _ z => z)
  · rintro σ' H' ⟨s, F', g', i', k'⟩
    have hn : (rangeL lo n).length = n := by simp [rangeL]
    rw [← hn, hn, List.drop_eq_nil_of_le (by omega)] at k'
    exact kk s σ' F' H' g' i' ⟨k'.h⟩
theorem for_mLN {R : Type} {stepL : S → Int → Mm (Fl R S)} {ret : R → Mm β} (I : S → Hp → Hp → L2.St → Prop) (k : Post ((foldL stepL s0 (rangeL lo n)).bd fun o => o.el rest ret) ok ex) (g0 : GN T F F H) (h0 : I s0 F H σ)
    (hb : ∀ s x σ' F' H', GN T F F' H' → I s F' H' σ' → ∀ nx : L2.St → Hp → Prop,
      Post (stepL s x) (fun o => match o with
        | .go s' => ∀ σ2 F2 H2, GN T F F2 H2 → I s' F2 H2 σ2 → nx σ2 H2
        | .brk s' => ∀ σ2 F2 H2, GN T F F2 H2 → I s' F2 H2 σ2 → D.nx σ2 H2
        | .ret r => Post (ret r) ok ex) ex → g (V.int x) σ' H' fun σ2 H2 => tb { D with nx := nx, ct := nx, bk := D.nx } σ2 H2)
    (kk : ∀ s σ' F' H', GN T F F' H' → I s F' H' σ' → Post (rest s) ok ex → D.nx σ' H') :
    ∃ W : Nat → Nat → L2.St → Hp → Prop, (∃ m, W 0 m σ H) ∧ ∀ i m σ H, W i m σ H →
      ((Itr lo n).stop i H ∧ D.nx σ H) ∨ ((Itr lo n).go i H ∧ ∃ N : L2.St → Hp → Prop, (∀ σ' H', N σ' H' → ∃ m', m' < m ∧ W (i + 1) m' σ' H') ∧ ∀ x H', (Itr lo n).yld i H x H' → g x σ H' fun σ2 H2 => tb { D with nx := N, ct := N, bk := D.nx } σ2 H2) := by
  refine for_it (walk_range (lo := lo) (n := n)) (fun i σ' H' => ∃ s F', GN T F F' H' ∧ I s F' H' σ' ∧ Post ((foldL stepL s ((rangeL lo n).drop i)).bd fun o => o.el rest ret) ok ex) ⟨s0, F, g0, h0, k⟩ (fun _ _ _ _ _ => trivial) ?_ ?_
  · rintro i v σ' H' H'' hi ⟨s, F', g', i', k'⟩ y
    have hl : i < (rangeL lo n).length := by simpa [rangeL] using hi
    have e1 : (rangeL lo n).drop i = (rangeL lo n)[i] :: (rangeL lo n).drop (i + 1) := List.drop_eq_getElem_cons hl
    rw [e1] at k'
    have k2 := post_bd (post_assoc k')
    obtain ⟨rfl, hv⟩ := y
    have ex_ := rangeL_at (List.getElem?_eq_getElem hl)
    rw [hv.trans (show _ = V.int (rangeL lo n)[i] by rw [ex_])]
    refine hb s (rangeL lo n)[i] σ' F' _ g' i' _ (k2.mono (fun o q => ?_) fun _ z => z)
    cases o with
    | go s' => exact fun σ2 F2 H2 g2 i2 => ⟨s', F2, g2, i2, ⟨q.h⟩⟩
    | brk s' => exact fun σ2 F2 H2 g2 i2 => kk s' σ2 F2 H2 g2 i2 ⟨q.h⟩
    | ret r => exact ⟨q.h⟩
  · rintro σ' H' ⟨s, F', g', i', k'⟩
    have hn : (rangeL lo n).length = n := by simp [rangeL]
    rw [List.drop_eq_nil_of_le (by omega)] at k'
    exact kk s σ' F' H' g' i' ⟨k'.h⟩
end
end Wk

set_option Elab.async false
set_option linter.all false
set_option maxRecDepth 100000
set_option maxHeartbeats 4000000
namespace Wk
open PySem L2 Evl
/-! ### the least of a list -/
def minM (l : List Int) : Mm Int := match l with
  | [] => .bad
  | x :: l => .ok (l.foldl minI x)
theorem post_minM {β : Type} {l : List Int} {f : Int → Mm β} {ok : β → Prop} {ex : Er → Prop} (k : Post ((minM l).bd f) ok ex) : ∃ m, minM l = .ok m ∧ Post (f m) ok ex := by
  cases l with
  | nil => exact k.h.elim
  | cons x l => exact ⟨_, rfl, ⟨k.h⟩⟩
theorem minM_pos {l : List Int} {m : Int} (h : minM l = .ok m) : 0 < l.length := by
  cases l with
  | nil => cases h
  | cons x l => simp
theorem min_fold : ∀ (l : List Int) (x : Int), (l.foldl minI x ∈ x :: l) ∧ ∀ y ∈ x :: l, l.foldl minI x ≤ y
  | [], x => ⟨List.mem_cons_self .., fun y hy => by rw [List.mem_singleton.mp hy]; exact Int.le_refl _⟩
  | z :: l, x => by
    obtain ⟨h1, h2⟩ := min_fold l (minI x z)
    rw [List.foldl_cons]
    have e : minI x z = x ∨ minI x z = z := by
      unfold minI
      split <;> simp
    have e2 : minI x z ≤ x ∧ minI x z ≤ z := by
      unfold minI
      split <;> omega
    have h3 := h2 _ (List.mem_cons_self ..)
    refine ⟨?_, fun y hy => ?_⟩
    · rcases List.mem_cons.mp h1 with q | q
      · rw [q]
        rcases e with e | e <;> rw [e] <;> simp
      · exact List.mem_cons_of_mem _ (List.mem_cons_of_mem _ q)
    · rcases List.mem_cons.mp hy with rfl | hy
      · omega
      · rcases List.mem_cons.mp hy with rfl | hy
        · omega
        · exact h2 y (List.mem_cons_of_mem _ hy)
theorem minM_eq {l : List Int} {m m' : Int} (h : minM l = .ok m) (h1 : m' ∈ l) (h2 : ∀ y ∈ l, m' ≤ y) : m' = m := by
  cases l with
  | nil => cases h
  | cons x l =>
    obtain ⟨a, b⟩ := min_fold l x
    cases h
    have := h2 _ a
    have := b _ h1
    omega
theorem all_bls {K : PySem.W.Frag} {F : Hp} : ∀ {xs : List V} {l : List Bool}, DqAll K F xs (l.map PyData.bool) → xs = l.map V.bl
  | [], [], _ => rfl
  | _ :: _, b :: l, h => by
    cases h with
    | cons h1 h2 =>
      obtain rfl := dp_bl h1
      rw [all_bls h2]
      rfl
end Wk

set_option Elab.async false
set_option linter.all false
set_option maxRecDepth 100000
set_option maxHeartbeats 4000000
namespace Wk
open PySem L2 Evl
/-! ### operands as values that want outcomes -/
section
variable {K : PySem.W.Frag} {M : List Addr} {F H : Hp} {σ : L2.St} {QV : VK} {uE : TE} {α : Type} {Y : Mm Bool} {rest : Bool → Mm α} {ok : α → Prop} {ex : Er → Prop} {a : Bool}
theorem andV_jM (e : Ex F H) (k : Post ((cond a Y (.ok false)).bd rest) ok ex) (hu : a = true → ∀ Q' : VK, Post Y (fun b => ∀ F' H', Gm M F H F' H' → Q' (.bl b) H') ex → uE σ H Q')
    (kk : ∀ b F' H', Gm M F H F' H' → Post (rest b) ok ex → QV (.bl b) H') : if a = true then uE σ H QV else QV (.bl false) H := by
  cases a with
  | false => rw [if_neg Bool.false_ne_true]; exact kk false F H (Gm.refl e) ⟨k.h⟩
  | true => rw [if_pos rfl]; exact hu rfl QV ((post_bd k).mono (fun b q F' H' g => kk b F' H' g q) fun _ z => z)
theorem orV_jM (e : Ex F H) (k : Post ((cond a (.ok true) Y).bd rest) ok ex) (hu : a = false → ∀ Q' : VK, Post Y (fun b => ∀ F' H', Gm M F H F' H' → Q' (.bl b) H') ex → uE σ H Q')
    (kk : ∀ b F' H', Gm M F H F' H' → Post (rest b) ok ex → QV (.bl b) H') : if a = true then QV (.bl true) H else uE σ H QV := by
  cases a with
  | true => rw [if_pos rfl]; exact kk true F H (Gm.refl e) ⟨k.h⟩
  | false => rw [if_neg Bool.false_ne_true]; exact hu rfl QV ((post_bd k).mono (fun b q F' H' g => kk b F' H' g q) fun _ z => z)
end
section
variable {K : PySem.W.Frag} {M : List Addr} {F H : Hp} {α : Type} {en : α → PyData} {l : List α} {xs : List V} {a : Addr}
theorem walk_rtT : Walk (RT.ItvT K a xs.length) xs.length (fun H => SqT K H a xs) (fun i H x H' => H' = H ∧ xs[xs.length - 1 - i]? = some x) :=
  ⟨fun i _ hi q => ⟨hi, xs, xs[xs.length - 1 - i]'(by omega), q, by simp [show xs.length - 1 - i < xs.length by omega]⟩, fun _ _ => Nat.le_refl _, fun _ _ _ _ _ q y => ⟨y.1, y.2 xs q⟩⟩
theorem wlk_revT (e : Ex F H) (h : SqT K F a xs) (da : DqAll K F xs (l.map en)) : Wlk M F H (RT.ItvT K a xs.length) l.reverse (fun F v x => Dq K F v (en x)) := by
  have hl : xs.length = l.length := by rw [da.len, List.length_map]
  refine ⟨_, _, _, walk_rtT (K := K) (a := a) (xs := xs), by rw [List.length_reverse, hl], fun F' H' g' => ex_t g'.s (ex_t g'.f h), fun i x v F' H' H'' g' hx y => ?_⟩
  obtain ⟨rfl, hv⟩ := y
  obtain ⟨d, hd, hq⟩ := (da.up g'.f).getV hv
  have hi : i < l.reverse.length := (List.getElem?_eq_some_iff.mp hx).1
  rw [List.length_reverse] at hi
  rw [List.getElem?_reverse hi] at hx
  rw [List.getElem?_map, hl, hx] at hd
  cases hd
  exact ⟨F', Gm.refl g'.s, hq⟩
end
end Wk

set_option Elab.async false
set_option linter.all false
set_option maxRecDepth 100000
set_option maxHeartbeats 4000000
namespace Wk
open PySem L2 Evl
/-! ### xs[::-1], is of bools -/
section
variable {K : PySem.W.Frag} {M : List Addr} {F H : Hp} {Q : VK} {α : Type} {en : α → PyData} {l : List α} {xs : List V} {a : Addr}
theorem rev_dq {vs : List V} {ds : List PyData} (h : DqAll K F vs ds) : DqAll K F vs.reverse ds.reverse := by
  induction ds generalizing vs with
  | nil => cases h; exact .nil
  | cons d ds ih =>
    cases h with
    | cons b a =>
      rw [List.reverse_cons, List.reverse_cons]
      exact (ih a).app (.cons b .nil)
theorem rev_all (h : DqAll K F xs (l.map en)) : DqAll K F xs.reverse (l.reverse.map en) := by
  rw [List.map_reverse]
  exact rev_dq h
theorem rev_lst (e : Ex F H) (s : F a = some (.lst xs)) (h : DqAll K F xs (l.map en)) (k : Ret M F H (fun F' _ v => Dq K F' v (eL en l.reverse)) Q) : ∃ b ys, V.ref a = V.ref b ∧ SqL K H b ys ∧ ∀ p, H p = none → Q (.ref p) (upd H p (.lst ys.reverse)) :=
  ⟨a, xs, rfl, sq_of (e _ _ s), fun p hp => by
    have g : Gm M F H (upd F p (.lst xs.reverse)) (upd H p (.lst xs.reverse)) := Gm.new e hp
    exact k _ _ _ g (.lst upd_same ((rev_all h).up g.f))⟩
end
end Wk

set_option Elab.async false
set_option linter.all false
set_option maxRecDepth 100000
set_option maxHeartbeats 3999999
namespace Wk
open PySem PySem.Spec PyProof.Rows L2 Evl
/-! ### d.items() of int keys, and these sorted -/
abbrev entI (e : Int × Int) : L2.Key × V := (Sum.inl e.1, V.int e.2)
section
variable {X : Cx}
def rItemsI : V → List V → Hp → VK → Prop := fun x xs H Q => ∃ (a : Addr) (ks : List (Int × Int)), x = .ref a ∧ xs = [] ∧ H a = some (.dK (ks.map entI)) ∧ ∀ p, H p = none → Q (.ref p) (upd H p (DX.itemsO p a))
theorem mt_itemsI : MtR X "dict.items" rItemsI := by
  intro pins s σ H x xs v us Q I r1 r2 h
  obtain ⟨a, ks, rfl, rfl, ha, q⟩ := h
  obtain rfl : v = Value.ref a := r1
  cases r2
  obtain ⟨_, hd, _, _, o, es, ep, ho, hx, hdat, _⟩ := dk_of I.hok ha
  refine DT.callItems (es := es) (ep := ep) hd ⟨o, ho, hx, hdat⟩ ⟨.ref s.heap.objs.size, upd H s.heap.objs.size (DX.itemsO s.heap.objs.size a), I.laid (a := s.heap.objs.size) (o := DX.itemsO s.heap.objs.size a) (t' := s.toks) (fun b u e => Heap.get?_push_of_some _ e) (Nat.le_refl _) (DX.itemsO_ok (Heap.get?_push_size _ rfl)), rfl, q _ (I.hok.fresh (Nat.le_refl _))⟩
theorem pairs_at {knd : KeyKind X.prog X.w L2.Key} {j : Nat} {e : DictEntry} : ∀ {es : List DictEntry} {kvs : List (L2.Key × Value)}, Pairs knd es kvs → es[j]? = some e → ∃ kv, kvs[j]? = some kv ∧ knd.is kv.1 e.key = true ∧ e.val = kv.2 := by
  induction j with
  | zero =>
    intro es kvs h hj
    cases h with
    | nil => cases hj
    | cons a b c =>
      rw [List.getElem?_cons_zero] at hj
      cases hj
      exact ⟨_, rfl, a, b⟩
  | succ j ih =>
    intro es kvs h hj
    cases h with
    | nil => cases hj
    | cons a b c =>
      rw [List.getElem?_cons_succ] at hj
      obtain ⟨kv, k1, k2⟩ := ih c hj
      exact ⟨kv, by rw [List.getElem?_cons_succ]; exact k1, k2⟩
/-- an entry of a dict of ints -/
theorem ent_int {h : Heap} {ks : List (Int × Int)} {xs : List (L2.Key × Value)} {es : Array DictEntry} {j : Nat} {e : DictEntry} (kv : KV (ks.map entI) xs) (hP : Pairs (mixKind X.prog X.w) es.toList xs) (hj : es[j]? = some e) : ∃ (m : Int × Int) (t u : Tok), ks[j]? = some m ∧ e.key = .int m.1 t ∧ e.val = .int m.2 u := by
  obtain ⟨y, y1, y2, y3⟩ := pairs_at hP (by rw [← hj]; exact Array.getElem?_toList ..)
  obtain ⟨z, z1, z2, z3⟩ := DX.pget kv y1
  rw [List.getElem?_map] at z1
  cases hk : ks[j]? with
  | none => rw [hk] at z1; cases z1
  | some m =>
    rw [hk] at z1
    cases z1
    have y2' : keyIs y.1 e.key = true := y2
    rw [← z2] at y2'
    rcases keyIs_shape y2' with ⟨i, t, q1, q2⟩ | ⟨i, t, q1, q2⟩
    · cases q1
      have z3' : RelV (V.int m.2) y.2 := z3
      obtain ⟨u, hu⟩ : ∃ u, y.2 = Value.int m.2 u := z3'
      exact ⟨m, t, u, rfl, q2, by rw [y3, hu]⟩
    · cases q1
/-- a pair as the heap has it -/
def prOf (h : Heap) : Value → Int × Int
  | .ref b => (match h.get? b with
    | some o => (match o.data with
      | .seq its _ => (match its.toList with
        | [.int x _, .int y _] => (x, y)
        | _ => (0, 0))
      | _ => (0, 0))
    | none => (0, 0))
  | _ => (0, 0)
theorem prOf_at {h : Heap} {b : Addr} {x y : Int} {t u : Tok} (e : h.get? b = some { cls := .type "tuple", data := .seq #[Value.int x t, Value.int y u] }) : prOf h (.ref b) = (x, y) := by
  unfold prOf
  simp only [e]
def rSortII : List V → Hp → VK → Prop := fun vs H Q => ∃ (p a : Addr) (ks : List (Int × Int)), vs = [.ref p] ∧ H p = some (DX.itemsO p a) ∧ H a = some (.dK (ks.map entI)) ∧
  ∀ (H' : Hp) (l : Addr) (zs : List (Addr × (Int × Int))), (∀ b o, H b = some o → H' b = some o) → (zs.map (·.2)).Perm ks → (zs.map (·.2)).Pairwise (fun e f => SrtO.lexB f e = false) → H l = none → H' l = some (.lst (zs.map fun z => V.ref z.1)) →
    (∀ z ∈ zs, H z.1 = none ∧ H' z.1 = some (.tup [.int z.2.1, .int z.2.2])) → Q (.ref l) H'
theorem cr_sortII (hc : X.calm = true) : CallR X (.builtin "sorted") rSortII := by
  intro pins s σ H xs us Q I rr h
  obtain ⟨p, a, ks, rfl, hp, ha, q⟩ := h
  obtain rfl := Vals.ref1 rr
  have view : s.heap.IsItemsView p a := (show ObjOk X.prog X.w H s.heap p (DX.itemsO p a) from I.hok p _ hp).1
  obtain ⟨z, hd, xs, kv, o, es, ep, ho, hx, hdat, _, hP, _⟩ := dk_of I.hok ha
  have n1 : es.size = xs.length := by
    have := Pairs.length hP
    rw [← this]
    rfl
  have n2 : ks.length = xs.length := by
    have := Paired.length kv
    rw [List.length_map] at this
    exact this
  rw [List.length_map] at z
  refine DT.sortedI (es := es) (ep := ep) (I.ok.hd hc) view ⟨o, ho, hx, hdat⟩ (by omega) fun h' tk as keep big hl made => ?_
  -- what was made
  have it : ∀ (j : Nat) (b : Addr), as[j]? = some b → ∃ (m : Int × Int) (t u : Tok), ks[j]? = some m ∧ h'.get? b = some { cls := .type "tuple", data := .seq #[Value.int m.1 t, Value.int m.2 u] } := fun j b hj => by
    obtain ⟨e, he, hg⟩ := made.pairs j b hj
    obtain ⟨m, t, u, m1, m2, m3⟩ := ent_int (X := X) (h := h') kv hP he
    exact ⟨m, t, u, m1, by rw [hg, m2, m3]⟩
  have la : as.length = ks.length := by omega
  have new : ∀ b ∈ as, b < h'.objs.size ∧ s.heap.objs.size ≤ b := fun b hb => ⟨made.there hb, Nat.le_of_lt (made.above b hb)⟩
  -- the list that is sorted
  generalize hh : h'.push { cls := .type "list", data := .seq (as.map Value.ref).toArray } = h2
  have l0 : h2.get? h'.objs.size = some (seqObj "list" (as.map Value.ref).toArray 0) := by rw [← hh]; exact Heap.get?_push_size _ rfl
  have up : ∀ b ob, h'.get? b = some ob → h2.get? b = some ob := fun b ob e => by rw [← hh]; exact Heap.get?_push_of_some _ e
  have off : ∀ b ob, h'.get? b = some ob → b ≠ h'.objs.size := fun b ob e => Nat.ne_of_lt (Heap.lt_size e)
  have it2 : ∀ (j : Nat) (b : Addr), as[j]? = some b → ∃ (m : Int × Int) (t u : Tok), ks[j]? = some m ∧ prOf h2 (.ref b) = m ∧ h'.get? b = some { cls := .type "tuple", data := .seq #[Value.int m.1 t, Value.int m.2 u] } := fun j b hj => by
    obtain ⟨m, t, u, m1, hg⟩ := it j b hj
    exact ⟨m, t, u, m1, prOf_at (up _ _ hg), hg⟩
  have pairs : ∀ v ∈ as.map Value.ref, Srt.IsPair h2 v (prOf h2 v).1 (prOf h2 v).2 := fun v hv => by
    obtain ⟨b, hb, e0⟩ := List.mem_map.mp hv
    obtain ⟨j, hj⟩ := List.mem_iff_getElem?.mp hb
    obtain ⟨m, t, u, _, m2, hg⟩ := it2 j b hj
    rw [← e0, m2]
    exact ⟨b, _, t, u, 0, rfl, up _ _ hg, rfl, rfl⟩
  have zz : ∀ z ∈ as.zip ks, z.1 ∈ as ∧ prOf h2 (.ref z.1) = z.2 := fun z hz => by
    obtain ⟨j, hj⟩ := List.mem_iff_getElem?.mp hz
    obtain ⟨j1, j2⟩ := List.getElem?_zip_eq_some.mp hj
    obtain ⟨m, _, _, m1, m2, _⟩ := it2 j z.1 j1
    exact ⟨List.mem_of_getElem? j1, m2.trans (Option.some.inj (m1.symm.trans j2))⟩
  have lenr : (as.map Value.ref).length ≤ sizeLine := by rw [List.length_map]; omega
  refine wpAny_call_entry slot_list_sort ⟨_, l0, rfl⟩ entry_list_sort (SrtO.list_sort_ord (s := { s with heap := h2, toks := tk }) (SrtO.swo_lex (prOf h2)) l0 lenr (fun two => SrtO.pairs_sortableO (by omega) pairs fun ob e c => ?_) fun out hs hb => ⟨.none, rfl, ?_⟩) (args_list_sort _)
  · have e' : some ob = some (seqObj "list" (as.map Value.ref).toArray 0) := e.symm.trans l0
    cases e'
    exact absurd (Value.type.inj c) (by decide)
  obtain ⟨zs, pz, ez⟩ := perm_lift (fun z : Addr × (Int × Int) => Value.ref z.1) hb.perm (as.zip ks) (by
    have e : (as.zip ks).map (fun z => Value.ref z.1) = ((as.zip ks).map Prod.fst).map Value.ref := by rw [List.map_map]; rfl
    rw [e, List.map_fst_zip (by omega)])
  have zz' : ∀ z ∈ zs, z.1 ∈ as ∧ prOf h2 (.ref z.1) = z.2 := fun z hz => zz z (pz.mem_iff.mp hz)
  have perm : (zs.map (·.2)).Perm ks := by
    have e := pz.map (·.2)
    rw [show (as.zip ks).map (·.2) = ks from List.map_snd_zip (by omega)] at e
    exact e
  have ord : (zs.map (·.2)).Pairwise (fun e f => SrtO.lexB f e = false) := by
    have hs' : out.Pairwise fun x y => SrtO.lexB (prOf h2 y) (prOf h2 x) = false := hs
    rw [← ez, List.pairwise_map] at hs'
    rw [List.pairwise_map]
    exact List.Pairwise.imp_of_mem (fun {x y} hx hy hxy => by rw [← (zz' x hx).2, ← (zz' y hy).2]; exact hxy) hs'
  -- behind it
  show EP X pins σ Q (.ref h'.objs.size) { s with heap := sortedHeap h2 h'.objs.size (as.map Value.ref) out.toArray, toks := tk }
  generalize hE : sortedHeap h2 h'.objs.size (as.map Value.ref) out.toArray = hF
  have old : ∀ b ob, h'.get? b = some ob → hF.get? b = some ob := fun b ob e => by
    rw [← hE]
    exact (sortedHeap_old (off b ob e) (Heap.lt_size (up b ob e))).trans (up b ob e)
  obtain ⟨ee, hee⟩ := sortedHeap_at (vs := as.map Value.ref) (out := out.toArray) l0
  rw [hE] at hee
  have I1 : Inv X pins σ H { s with heap := hF, toks := tk } := I.kept (t' := tk) fun b ob e => old b ob (keep b ob e)
  have nl : H h'.objs.size = none := I.hok.fresh (Nat.le_of_lt big)
  have lz : zs.length = ks.length := by
    have := perm.length_eq
    rw [List.length_map] at this
    exact this
  have rv : Vals (zs.map fun z => V.ref z.1) out := by
    rw [← ez]
    exact vals_maps (fun z : Addr × (Int × Int) => V.ref z.1) (fun z => Value.ref z.1) zs fun _ _ => rfl
  have I2 : Inv X pins σ (upd H h'.objs.size (.lst (zs.map fun z => V.ref z.1))) { s with heap := hF, toks := tk } := I1.take (h' := hF) (t' := tk) (fun b ob _ e => e) (I.fpOk (Nat.le_of_lt big) nl) ⟨by rw [List.length_map]; omega, out, ee, rv, hee⟩
  obtain ⟨H2, I3, g, tups⟩ := DX.takeT (P := fun b vs => vs = [V.int (prOf h2 (.ref b)).1, V.int (prOf h2 (.ref b)).2]) I as _ I2 (List.Pairwise.imp (fun h => Nat.ne_of_lt h) made.rise) fun b hb => by
    obtain ⟨j, hj⟩ := List.mem_iff_getElem?.mp hb
    obtain ⟨m, t, u, _, m2, hg⟩ := it2 j b hj
    refine ⟨(new b hb).2, ?_, _, rfl, fun H3 => ?_⟩
    · rw [upd_ne (off b _ hg)]
      exact I.hok.fresh (new b hb).2
    · rw [m2]
      exact ⟨(by rw [sizeLine_eq]; show 2 ≤ 16777216; omega), [Value.int m.1 t, Value.int m.2 u], .cons ⟨t, rfl⟩ (.cons ⟨u, rfl⟩ .nil), ⟨_, old _ _ hg, rfl, 0, rfl⟩⟩
  have keepH : ∀ b ob, H b = some ob → H2 b = some ob := fun b ob e => g b ob (by rw [upd_ne (ne_of_none e nl)]; exact e)
  refine ⟨.ref h'.objs.size, H2, I3, rfl, q H2 h'.objs.size zs keepH perm ord nl (g _ _ upd_same) fun z hz => ?_⟩
  obtain ⟨z1, z2⟩ := zz' z hz
  obtain ⟨vs, ev, hv⟩ := tups z.1 z1
  refine ⟨I.hok.fresh (new z.1 z1).2, ?_⟩
  rw [hv, ev, z2]
end
end Wk

set_option Elab.async false
set_option linter.all false
set_option maxRecDepth 100000
set_option maxHeartbeats 3999999
/-! ### sorted of a tuple whose items are three ints each -/
namespace Wk
open PySem PySem.Spec PyProof.Rows L2 Evl
section
variable {prog : Program} {w : World} {A : Around} {E : Value → Shared → Prop} {s : Shared}
/-- a tuple's items as a list of their own -/
theorem collectT {l : Addr} {vs : List Value} {Q : List Value → Shared → Prop} (tp : IsTup s.heap l vs.toArray) (hz : vs.length ≤ sizeLine) (fin : Q vs { s with heap := (s.heap.push (seqObj "list" #[] 0)).update s.heap.objs.size (Obj.mapSeq (· ++ vs.toArray)) }) : wpAny (model prog w) A (collect (.ref l)) Q E s := by
  obtain ⟨o, ho, hc, n, hd⟩ := tp
  have got : (s.heap.push (seqObj "list" #[] 0)).get? l = some o := Heap.get?_push_of_some _ ho
  have new : (s.heap.push (seqObj "list" #[] 0)).get? s.heap.objs.size = some (seqObj "list" #[] 0) := Heap.get?_push_size _ rfl
  unfold collect
  refine wpAny_bind (wpAny_runValue (codeAny_builtin entry_proto_collect' (?_ : wpAny _ _ (do again (.builtin "list.__iadd__" ⟨[← newList [], .ref l], []⟩)) _ _ s)))
  refine wpAny_bind (wpAny_newList (wpAny_pure ⟨Code.quiet_builtin _ (by decide +kernel), codeAny_builtin entry_list_iadd' (?_ : wpAny _ _ (Builtin.List.listExtendWith (.ref s.heap.objs.size) (.ref l) (.ref s.heap.objs.size)) _ _ { s with heap := s.heap.push (seqObj "list" #[] 0) })⟩))
  unfold Builtin.List.listExtendWith
  refine wpAny_bind (wpAny_typeOf (T := "tuple") ⟨o, got, hc⟩ ?_)
  rw [if_pos (by rw [show (Value.type "tuple" == Value.type "tuple") = true from rfl]; simp)]
  refine wpAny_bind (listItems_at got hd (wpAny_bind (listItems_at (xs := #[]) (n := 0) new rfl ?_)))
  rw [if_neg (by simp)]
  refine wpAny_bind (listUpdate_at (xs := #[]) (n := 0) new rfl ?_ (Nat.zero_le _) (by show (#[] ++ vs.toArray).size ≤ sizeLine + 1; simp only [Array.size_append, List.size_toArray, List.length_nil]; omega))
  refine wpAny_pure (wpAny_bind (wpAny_load (get?_update_seq new _) ?_))
  have e : ((#[] : Array Value) ++ vs.toArray).toList = vs := by simp
  show wpAny _ _ (pure ((#[] : Array Value) ++ vs.toArray).toList) Q E _
  rw [e]
  exact wpAny_pure fin
/-- by the first, the second, the third -/
def lx (p q : Int × Int × Int) : Bool := decide (p.1 < q.1 ∨ (p.1 = q.1 ∧ (p.2.1 < q.2.1 ∨ (p.2.1 = q.2.1 ∧ p.2.2 < q.2.2))))
theorem lx_iff {p q : Int × Int × Int} : lx p q = true ↔ (p.1 < q.1 ∨ (p.1 = q.1 ∧ (p.2.1 < q.2.1 ∨ (p.2.1 = q.2.1 ∧ p.2.2 < q.2.2)))) := decide_eq_true_iff
theorem lx_no {p q : Int × Int × Int} : lx p q = false ↔ ¬ (p.1 < q.1 ∨ (p.1 = q.1 ∧ (p.2.1 < q.2.1 ∨ (p.2.1 = q.2.1 ∧ p.2.2 < q.2.2)))) := decide_eq_false_iff_not
theorem swo_lx {α : Type} (k : α → Int × Int × Int) : SrtO.Swo fun v u => lx (k v) (k u) := by
  refine ⟨fun x y a => lx_no.mpr ?_, fun x y z a b => lx_no.mpr ?_⟩
  · have := lx_iff.mp a
    omega
  · have := lx_no.mp a
    have := lx_no.mp b
    omega
/-- a tuple of three ints in the heap -/
def TriAt (h : Heap) (v : Value) (m : Int × Int × Int) : Prop := ∃ a o t u r n, v = .ref a ∧ h.get? a = some o ∧ o.cls = .type "tuple" ∧ o.data = .seq #[.int m.1 t, .int m.2.1 u, .int m.2.2 r] n
theorem tri_cmp {vs : List Value} {k : Value → Int × Int × Int} (all : ∀ v ∈ vs, TriAt s.heap v (k v)) : SrtO.Cmp prog w A s (tuples' true) (fun p => p.1 ∈ vs) (SrtO.lt2 fun v u => lx (k v) (k u)) := by
  intro p q hp hq
  have P := all _ hp
  have R := all _ hq
  show wpAny (model prog w) A (keyLt' (tuples' true) p.1 q.1) (fun r s' => s' = s ∧ r = lx (k p.1) (k q.1)) (fun _ _ => False) s
  generalize k p.1 = m at P ⊢
  generalize k q.1 = l at R ⊢
  obtain ⟨x1, x2, x3⟩ := m
  obtain ⟨y1, y2, y3⟩ := l
  obtain ⟨a, o, t1, t2, t3, n, e, ho, hc, hd⟩ := P
  obtain ⟨b, o', u1, u2, u3, n', e', ho', hc', hd'⟩ := R
  rw [e, e']
  refine PySem.W.kat_lt ho hd ho' hd' (?_ : PySem.W.KatLex prog w A true (decide (3 < 3)) _ [(.int x1 t1, .int y1 u1), (.int x2 t2, .int y2 u2), (.int x3 t3, .int y3 u3)] 0 s)
  have done : ∀ {c : Bool}, (c = lx (x1, x2, x3) (y1, y2, y3)) → (s = s ∧ c = lx (x1, x2, x3) (y1, y2, y3)) := fun e => ⟨rfl, e⟩
  refine PySem.W.kat_cons (SeqAt.EqAt.int_int x1 t1 y1 u1 prog w _ _ (PySem.W.kat_go (fun c1 => PySem.W.kat_yes ?_) fun c1 => PySem.W.kat_no ?_))
  · have f1 : x1 = y1 := by simpa using c1
    refine PySem.W.kat_cons (SeqAt.EqAt.int_int x2 t2 y2 u2 prog w _ _ (PySem.W.kat_go (fun c2 => PySem.W.kat_yes ?_) fun c2 => PySem.W.kat_no (PySem.W.kat_one _ _ (lt_int ?_))))
    · have f2 : x2 = y2 := by simpa using c2
      refine PySem.W.kat_cons (SeqAt.EqAt.int_int x3 t3 y3 u3 prog w _ _ (PySem.W.kat_go (fun c3 => PySem.W.kat_yes (PySem.W.kat_nil (done ?_))) fun c3 => PySem.W.kat_no (PySem.W.kat_one _ _ (lt_int (done ?_)))))
      · have f3 : x3 = y3 := by simpa using c3
        exact (lx_no.mpr (by simp only; omega)).symm
      · exact decide_eq_decide.mpr (by simp only; omega)
    · have f2 : ¬ x2 = y2 := by simpa using c2
      exact done (decide_eq_decide.mpr (by simp only; omega))
  · have f1 : ¬ x1 = y1 := by simpa using c1
    exact oneLt_int (done (decide_eq_decide.mpr (by simp only; omega)))
theorem TriAt.keeps {h h' : Heap} {v : Value} {m : Int × Int × Int} (x : TriAt h v m) (k : ∀ b o, h.get? b = some o → o.cls = .type "tuple" → h'.get? b = some o) : TriAt h' v m := by
  obtain ⟨a, o, t, u, r, n, e, ho, hc, hd⟩ := x
  exact ⟨a, o, t, u, r, n, e, k a o ho hc, hc, hd⟩
theorem tri_firsts {h : Heap} {k : Value → Int × Int × Int} : ∀ vs : List Value, (∀ v ∈ vs, TriAt h v (k v)) → ∃ fs, PySem.W.KatTups h vs fs ∧ fs.length = vs.length ∧ ∀ f ∈ fs, ∃ i t, f = Value.int i t
  | [], _ => ⟨[], .nil, rfl, fun f hf => nomatch hf⟩
  | v :: vs, all => by
    obtain ⟨fs, k1, k2, k3⟩ := tri_firsts (k := k) vs fun u hu => all u (.tail _ hu)
    obtain ⟨a, o, t, u, r, n, rfl, ho, hc, hd⟩ := all v (.head _)
    exact ⟨_ :: fs, .cons ho hc hd rfl k1, congrArg (· + 1) k2, fun f hf => by
      cases hf with
      | head => exact ⟨_, _, rfl⟩
      | tail _ hf => exact k3 f hf⟩
theorem tri_sortable {a : Addr} {vs : List Value} {k : Value → Int × Int × Int} (two : 2 ≤ vs.length) (all : ∀ v ∈ vs, TriAt s.heap v (k v)) (na : ∀ o, s.heap.get? a = some o → o.cls ≠ .type "tuple") : SrtO.SortableO prog w A s a vs fun v u => lx (k v) (k u) := by
  intro h' kp
  have all' : ∀ v ∈ vs, TriAt h' v (k v) := fun v hv => (all v hv).keeps fun b o e c => kp b o (fun z => na o (z ▸ e) c) e
  obtain ⟨fs, k1, k2, k3⟩ := tri_firsts vs all'
  exact ⟨tuples' true, fun Q E hq => PySem.W.kat_kind (T := .type "int") k1 (by omega) (fun f hf => by
    obtain ⟨i, t, rfl⟩ := k3 f hf
    exact PySem.W.Looks.now) (by rfl) (by rw [show (Value.type "int" != Value.type "tuple") = true by first | rfl | decide | decide +kernel]; exact hq), tri_cmp all'⟩
/-- sorted(t) -/
theorem sortedT {l : Addr} {vs : List Value} {k : Value → Int × Int × Int} {Q : Value → Shared → Prop} (tp : IsTup s.heap l vs.toArray) (hz : vs.length ≤ sizeLine) (all : ∀ v ∈ vs, TriAt s.heap v (k v))
    (fin : ∀ (h' : Heap) (d : Addr) (out : List Value), out.Perm vs → (out.Pairwise fun x y => lx (k y) (k x) = false) → (∀ b o, s.heap.get? b = some o → h'.get? b = some o) → s.heap.objs.size ≤ d → (∃ n, h'.get? d = some (seqObj "list" out.toArray n)) → Q (.ref d) { s with heap := h' }) : wpAny (model prog w) A (call (.builtin "sorted") [.ref l]) Q E s := by
  refine Calls.call_function_entry kind_sorted plain_sorted entry_sorted (args_sorted1 _) (?_ : wpAny _ _ (Builtin.«sorted» _) _ _ _)
  unfold Builtin.«sorted»
  refine wpAny_bind (m := checkCount "sorted" 1 1 _) (wpAny_pure (wpAny_bind (collectT tp hz (wpAny_bind (wpAny_newList ?_ hz)))))
  have big : ((s.heap.push (seqObj "list" #[] 0)).update s.heap.objs.size (Obj.mapSeq (· ++ vs.toArray))).objs.size = s.heap.objs.size + 1 := by rw [Heap.size_update, size_push']
  generalize hm : (s.heap.push (seqObj "list" #[] 0)).update s.heap.objs.size (Obj.mapSeq (· ++ vs.toArray)) = mid at big ⊢
  have kmid : ∀ b o, s.heap.get? b = some o → mid.get? b = some o := fun b o e => by
    rw [← hm, Heap.get?_update_ne _ _ _ _ (Nat.ne_of_lt (Heap.lt_size e))]
    exact Heap.get?_push_of_some _ e
  have here : (mid.push (seqObj "list" vs.toArray 0)).get? mid.objs.size = some (seqObj "list" vs.toArray 0) := Heap.get?_push_size _ rfl
  have kall : ∀ b o, s.heap.get? b = some o → (mid.push (seqObj "list" vs.toArray 0)).get? b = some o := fun b o e => Heap.get?_push_of_some _ (kmid b o e)
  show wpAny _ _ _ _ _ { s with heap := mid.push (seqObj "list" vs.toArray 0) }
  refine wpAny_bind (wpAny_holding (wpAny_call_entry slot_list_sort ⟨_, here, rfl⟩ entry_list_sort (SrtO.list_sort_ord (s := { s with heap := mid.push (seqObj "list" vs.toArray 0) }) (swo_lx k) here hz (fun two => tri_sortable two (fun v hv => (all v hv).keeps fun b o e _ => kall b o e) fun o e c => ?_) fun out hs hb => ⟨_, rfl, wpAny_pure ⟨_, rfl, ?_⟩⟩) (args_list_sort _)))
  · cases e.symm.trans here
    exact absurd (Value.type.inj c) (by decide)
  · obtain ⟨n, hn⟩ := sortedHeap_at (vs := vs) (out := out.toArray) here
    refine fin _ mid.objs.size out hb.perm hs (fun b o e => ?_) (by omega) ⟨n, hn⟩
    exact (sortedHeap_old (Nat.ne_of_lt (Heap.lt_size (kmid b o e))) (Heap.lt_size (kall b o e))).trans (kall b o e)
end
/-! ### as a rule -/
section
variable {X : Cx}
/-- a triple as the heap has it -/
def triOf (h : Heap) : Value → Int × Int × Int
  | .ref b => (match h.get? b with
    | some o => (match o.data with
      | .seq its _ => (match its.toList with
        | [.int x _, .int y _, .int z _] => (x, y, z)
        | _ => (0, 0, 0))
      | _ => (0, 0, 0))
    | none => (0, 0, 0))
  | _ => (0, 0, 0)
theorem triOf_at {h : Heap} {v : Value} {m : Int × Int × Int} (x : TriAt h v m) : triOf h v = m := by
  obtain ⟨a, o, t, u, r, n, rfl, ho, _, hd⟩ := x
  unfold triOf
  simp only [ho, hd]
def valOf : V → Value
  | .ref t => .ref t
  | _ => .none
def rSortT3 (K : PySem.W.Frag) : List V → Hp → VK → Prop := fun vs H Q => ∃ (a : Addr) (ms : List (V × (Int × Int × Int))), vs = [V.ref a] ∧ SqT K H a (ms.map (·.1)) ∧ (∀ m ∈ ms, ∃ t, m.1 = V.ref t ∧ SqT K H t [.int m.2.1, .int m.2.2.1, .int m.2.2.2]) ∧
  ∀ (zs : List (V × (Int × Int × Int))) (p : Addr), zs.Perm ms → (zs.Pairwise fun x y => lx y.2 x.2 = false) → H p = none → Q (.ref p) (upd H p (.lst (zs.map (·.1))))
theorem cr_sortT3 : CallR X (.builtin "sorted") (rSortT3 X.K) := by
  intro pins s σ H vs us Q I rv0 h
  obtain ⟨a, ms, rfl, hs, hx, q⟩ := h
  obtain rfl := Vals.ref1 rv0
  obtain ⟨its, rv, hl, hz⟩ := I.tuple hs
  have tri : ∀ m ∈ ms, TriAt s.heap (valOf m.1) m.2 := fun m hm => by
    obtain ⟨t, e, ht⟩ := hx m hm
    obtain ⟨js, r2, ⟨o, ho, hc, n, hd⟩, _⟩ := I.tuple ht
    rw [e]
    cases r2 with
    | cons p1 r2 =>
      cases r2 with
      | cons p2 r2 =>
        cases r2 with
        | cons p3 r2 =>
          cases r2
          obtain ⟨t1, rfl⟩ := p1
          obtain ⟨t2, rfl⟩ := p2
          obtain ⟨t3, rfl⟩ := p3
          exact ⟨t, o, t1, t2, t3, n, rfl, ho, hc, hd⟩
  have eits : its = ms.map fun m => valOf m.1 := by
    clear hl hs hz tri q
    induction ms generalizing its with
    | nil => cases rv; rfl
    | cons m ms ih =>
      cases rv with
      | cons p r =>
        obtain ⟨t, e, _⟩ := hx m (.head _)
        replace p : RelV m.1 _ := p
        rw [e] at p
        rw [List.map_cons, ← ih (fun m hm => hx m (.tail _ hm)) _ r, e]
        exact congrArg (· :: _) p
  have len : its.length = ms.length := by rw [eits, List.length_map]
  rw [List.length_map] at hz
  refine sortedT (k := triOf s.heap) hl (by omega) (fun v hv => ?_) fun h' d out h1 h2 kp hd hn => ?_
  · rw [eits] at hv
    obtain ⟨m, hm, rfl⟩ := List.mem_map.mp hv
    rw [triOf_at (tri m hm)]
    exact tri m hm
  · obtain ⟨n, hn⟩ := hn
    obtain ⟨zs, pz, ez⟩ := perm_lift (fun m : V × (Int × Int × Int) => valOf m.1) h1 ms eits.symm
    have mem : ∀ z ∈ zs, z ∈ ms := fun z hz => pz.mem_iff.mp hz
    have rel : Vals (zs.map (·.1)) out := by
      rw [← ez]
      refine vals_maps (fun z : V × (Int × Int × Int) => z.1) (fun z => valOf z.1) zs fun z hz => ?_
      obtain ⟨t, e, _⟩ := hx z (mem z hz)
      rw [e]
      rfl
    have ord : zs.Pairwise fun x y => lx y.2 x.2 = false := by
      rw [← ez, List.pairwise_map] at h2
      exact List.Pairwise.imp_of_mem (fun {x y} hx hy hxy => by rw [triOf_at (tri x (mem x hx)), triOf_at (tri y (mem y hy))] at hxy; exact hxy) h2
    have lz : (zs.map (·.1)).length ≤ sizeLine := by rw [List.length_map, pz.length_eq]; exact hz
    exact ⟨.ref d, upd H d (.lst (zs.map (·.1))), I.laid (t' := s.toks) kp hd ⟨lz, out, n, rel, hn⟩, rfl, q zs d pz ord (I.hok.fresh hd)⟩
end
end Wk

set_option Elab.async false
set_option linter.all false
set_option maxRecDepth 100000
set_option maxHeartbeats 3999999
/-! ### dicts of ints as data: put, read, sorted -/
namespace Wk
open PySem L2 Evl
def putI (m : List (Int × Int)) (k v : Int) : List (Int × Int) := if (m.any fun e => decide (e.1 = k)) = true then m.map (fun e => if e.1 = k then (e.1, v) else e) else m ++ [(k, v)]
def valI (m : List (Int × Int)) (k : Int) : Option Int := (m.find? fun e => decide (e.1 = k)).map (·.2)
theorem entI_key (e : Int × Int) (k : Int) : decide ((entI e).1 = (Sum.inl k : L2.Key)) = decide (e.1 = k) := decide_eq_decide.mpr ⟨fun h => Sum.inl.inj h, fun h => congrArg Sum.inl h⟩
theorem putK_ent (m : List (Int × Int)) (k v : Int) : putK (m.map entI) (Sum.inl k : L2.Key) (V.int v) = (putI m k v).map entI := by
  unfold putK putI
  rw [List.any_map]
  have e : ((fun kv : L2.Key × V => decide (kv.1 = Sum.inl k)) ∘ entI) = fun e => decide (e.1 = k) := funext fun e => entI_key e k
  rw [e]
  by_cases h : (m.any fun e => decide (e.1 = k)) = true
  · rw [if_pos h, if_pos h, List.map_map, List.map_map]
    refine List.map_congr_left fun x _ => ?_
    show (if (entI x).1 = Sum.inl k then ((entI x).1, V.int v) else entI x) = entI (if x.1 = k then (x.1, v) else x)
    by_cases q : x.1 = k
    · rw [if_pos q, if_pos (congrArg Sum.inl q)]
    · rw [if_neg q, if_neg fun z => q (Sum.inl.inj z)]
  · rw [if_neg h, if_neg h, List.map_append]
    rfl
theorem valV_ent (m : List (Int × Int)) (k : Int) : valV (m.map entI) (Sum.inl k : L2.Key) = (valI m k).map V.int := by
  unfold valV valI
  rw [List.find?_map]
  have e : ((fun kv : L2.Key × V => decide (kv.1 = Sum.inl k)) ∘ entI) = fun e => decide (e.1 = k) := funext fun e => entI_key e k
  rw [e, Option.map_map, Option.map_map]
  rfl
/-- sorted in, by a relation -/
def insS {α : Type} (lt : α → α → Bool) (x : α) : List α → List α
  | [] => [x]
  | y :: l => bif lt y x then y :: insS lt x l else x :: y :: l
def sortB {α : Type} (lt : α → α → Bool) : List α → List α
  | [] => []
  | x :: l => insS lt x (sortB lt l)
theorem insS_perm {α : Type} (lt : α → α → Bool) (x : α) : ∀ l : List α, (insS lt x l).Perm (x :: l)
  | [] => List.Perm.refl _
  | y :: l => by
    unfold insS
    cases lt y x with
    | true => exact ((insS_perm lt x l).cons y).trans (List.Perm.swap x y l)
    | false => exact List.Perm.refl _
theorem sortB_perm {α : Type} (lt : α → α → Bool) : ∀ l : List α, (sortB lt l).Perm l
  | [] => List.Perm.refl _
  | x :: l => (insS_perm lt x _).trans ((sortB_perm lt l).cons x)
theorem insS_srt {α : Type} {lt : α → α → Bool} (O : SrtO.Swo lt) (x : α) : ∀ l : List α, (l.Pairwise fun a b => lt b a = false) → (insS lt x l).Pairwise fun a b => lt b a = false
  | [], _ => List.pairwise_singleton ..
  | y :: l, h => by
    obtain ⟨h1, h2⟩ := List.pairwise_cons.mp h
    unfold insS
    cases q : lt y x with
    | true =>
      refine List.pairwise_cons.mpr ⟨fun z hz => ?_, insS_srt O x l h2⟩
      rcases List.mem_cons.mp ((insS_perm lt x l).mem_iff.mp hz) with e | hz
      · rw [e]
        exact O.asym _ _ q
      · exact h1 z hz
    | false =>
      refine List.pairwise_cons.mpr ⟨fun z hz => ?_, h⟩
      rcases List.mem_cons.mp hz with e | hz
      · rw [e]
        exact q
      · exact O.tr _ _ _ q (h1 z hz)
theorem sortB_srt {α : Type} {lt : α → α → Bool} (O : SrtO.Swo lt) : ∀ l : List α, (sortB lt l).Pairwise fun a b => lt b a = false
  | [] => List.Pairwise.nil
  | x :: l => insS_srt O x _ (sortB_srt O l)
/-- just one sorted list -/
theorem sortB_one {α : Type} {lt : α → α → Bool} (O : SrtO.Swo lt) (one : ∀ a b, lt a b = false → lt b a = false → a = b) {l m : List α} (p : l.Perm m) (h : l.Pairwise fun a b => lt b a = false) : l = sortB lt m :=
  List.Perm.eq_of_pairwise (fun a b _ _ h1 h2 => one a b h2 h1) h (sortB_srt O m) (p.trans (sortB_perm lt m).symm)
theorem lexB_one (a b : Int × Int) (h1 : SrtO.lexB a b = false) (h2 : SrtO.lexB b a = false) : a = b := by
  have p := SrtO.lexB_no.mp h1
  have q := SrtO.lexB_no.mp h2
  exact Prod.ext (by omega) (by omega)
theorem lx_one (a b : Int × Int × Int) (h1 : lx a b = false) (h2 : lx b a = false) : a = b := by
  have p := lx_no.mp h1
  have q := lx_no.mp h2
  exact Prod.ext (by omega) (Prod.ext (by omega) (by omega))
theorem swo_id : SrtO.Swo SrtO.lexB := by
  refine ⟨fun x y h => ?_, fun x y z h1 h2 => ?_⟩
  · have a := SrtO.lexB_iff.mp h
    exact SrtO.lexB_no.mpr (by omega)
  · have a := SrtO.lexB_no.mp h1
    have b := SrtO.lexB_no.mp h2
    exact SrtO.lexB_no.mpr (by omega)
/-- all that is new -/
theorem Gm.grow {M : List Addr} {F H H' : Hp} (e : Ex F H) (k : ∀ b o, H b = some o → H' b = some o) : Gm M F H (fun a => match H a with | none => H' a | some _ => F a) H' := by
  refine ⟨fun a o h => ?_, fun a o h => ?_, fun a o _ h => k a o h, fun a o h f => ?_, fun a o h => ⟨o, k a o h⟩⟩
  · have := e a o h
    show (match H a with | none => H' a | some _ => F a) = some o
    rw [this]
    exact h
  · replace h : (match H a with | none => H' a | some _ => F a) = some o := h
    cases q : H a with
    | none => rw [q] at h; exact h
    | some u =>
      rw [q] at h
      exact k a o (e a o h)
  · show (match H a with | none => H' a | some _ => F a) = none
    rw [h]
    exact f
section
variable {K : PySem.W.Frag} {M : List Addr} {F H : Hp} {Q : VK} {p : Addr} {ks : List (Int × Int)}
/-- sorted(d.items()) -/
theorem sorted_items {q : Addr} (e : Ex F H) (hp : H q = some (DX.itemsO q p)) (hd : H p = some (.dK (ks.map entI))) (k : Ret M F H (fun F' _ v => Dq K F' v (eL (e2 PyData.int PyData.int) (sortB SrtO.lexB ks))) Q) : rSortII [.ref q] H Q := by
  refine ⟨q, p, ks, rfl, hp, hd, fun H' l zs keep perm ord nl hl tups => k _ _ _ (Gm.grow e keep) ?_⟩
  have one := sortB_one swo_id lexB_one perm ord
  have at_ : ∀ b, H b = none → (fun a => match H a with | none => H' a | some _ => F a) b = H' b := fun b hb => by
    show (match H b with | none => H' b | some _ => F b) = H' b
    rw [hb]
  rw [← one]
  refine .lst ((at_ l nl).trans hl) ?_
  clear perm ord one hl
  induction zs with
  | nil => exact .nil
  | cons z zs ih =>
    obtain ⟨t1, t2⟩ := tups z (.head _)
    exact .cons (.tup (st_of ((at_ z.1 t1).trans t2)) (.cons (.int z.2.1) (.cons (.int z.2.2) .nil))) (ih fun y hy => tups y (.tail _ hy))
/-- sorted(t), t a tuple of triples -/
theorem tri_list {l : List (Int × Int × Int)} : ∀ {xs : List V}, DqAll K F xs (l.map (e3 PyData.int PyData.int PyData.int)) → ∃ ms : List (V × (Int × Int × Int)), ms.map (·.1) = xs ∧ ms.map (·.2) = l ∧ ∀ m ∈ ms, (∃ t, m.1 = V.ref t ∧ SqT K F t [.int m.2.1, .int m.2.2.1, .int m.2.2.2]) ∧ Dq K F m.1 (e3 PyData.int PyData.int PyData.int m.2) := by
  induction l with
  | nil => intro xs h; cases h; exact ⟨[], rfl, rfl, fun m hm => nomatch hm⟩
  | cons y l ih =>
    intro xs h
    cases h with
    | cons a b =>
      obtain ⟨ms, m1, m2, m3⟩ := ih b
      obtain ⟨t, x1, x2, x3, e1, s1, d1, d2, d3⟩ := dp_tup3 a
      obtain rfl := dp_int d1
      obtain rfl := dp_int d2
      obtain rfl := dp_int d3
      refine ⟨(_, y) :: ms, by rw [List.map_cons, m1], by rw [List.map_cons, m2], fun m hm => ?_⟩
      cases hm with
      | head => exact ⟨⟨t, e1, s1⟩, a⟩
      | tail _ hm => exact m3 m hm
theorem sorted_tri {a : Addr} {xs : List V} {l : List (Int × Int × Int)} (e : Ex F H) (s : SqT K F a xs) (h : DqAll K F xs (l.map (e3 PyData.int PyData.int PyData.int))) (k : Ret M F H (fun F' _ v => Dq K F' v (eL (e3 PyData.int PyData.int PyData.int) (sortB lx l))) Q) : rSortT3 K [.ref a] H Q := by
  obtain ⟨ms, rfl, rfl, m3⟩ := tri_list h
  refine ⟨a, ms, rfl, ex_t e s, fun m hm => ?_, fun zs p perm ord np => ?_⟩
  · obtain ⟨⟨t, e1, s1⟩, _⟩ := m3 m hm
    exact ⟨t, e1, ex_t e s1⟩
  · have g : Gm M F H (upd F p (.lst (zs.map (·.1)))) (upd H p (.lst (zs.map (·.1)))) := Gm.new e np
    refine k _ _ _ g ?_
    have one : zs.map (·.2) = sortB lx (ms.map (·.2)) := sortB_one (swo_lx id) lx_one (perm.map _) (List.pairwise_map.mpr ord)
    rw [← one]
    have all : ∀ z ∈ zs, Dq K F z.1 (e3 PyData.int PyData.int PyData.int z.2) := fun z hz => (m3 z (perm.mem_iff.mp hz)).2
    have dq : DqAll K F (zs.map (·.1)) ((zs.map (·.2)).map (e3 PyData.int PyData.int PyData.int)) := by
      clear perm ord one g k
      induction zs with
      | nil => exact .nil
      | cons z zs ih => exact .cons (all z (.head _)) (ih fun y hy => all y (.tail _ hy))
    exact .lst upd_same (dq.up g.f)
end
end Wk

set_option Elab.async false
set_option linter.all false
set_option maxRecDepth 100000
set_option maxHeartbeats 3999998
/-! ### dicts whose values are data; readers -/
namespace Wk
open PySem PySem.Spec PyProof.Rows L2 Evl
section
variable {X : Cx} {e : Expr} {te : TE} {p apos cpos pos : Pos}
/-- list(d.values()) -/
def rValsL : V → Hp → VK → Prop := fun x H Q => ∃ (d : Addr) (kvs : List (L2.Key × V)), x = .ref d ∧ H d = some (.dK kvs) ∧ ∀ q, H q = none → Q (.ref q) (upd H q (.lst (kvs.map fun kv => kv.2)))
theorem list_vals {pins : List (Addr × Obj)} {σ : L2.St} {H : Hp} {s : Shared} {Q : VK} {d : Addr} {kvs : List (L2.Key × V)} (hc : X.calm = true) (I : Inv X pins σ H s) (hd : H d = some (.dK kvs)) (q : ∀ q, H q = none → Q (.ref q) (upd H q (.lst (kvs.map fun kv => kv.2)))) :
    wpAny (model X.prog X.w) X.A (call (.type "list") [.ref s.heap.objs.size]) (EP X pins σ Q) X.xe { s with heap := s.heap.push { cls := .type "dict_values", data := .fields #[.ref d] } } := by
  obtain ⟨hz, low, us, kv, ho⟩ := I.hok d _ hd
  obtain ⟨ep, at_⟩ := ho.dictAt
  have n : kvs.length = us.length := Paired.length kv
  generalize hs : ({ s with heap := s.heap.push { cls := .type "dict_values", data := .fields #[.ref d] } } : Shared) = s'
  have J : Inv X pins σ H s' := by
    rw [← hs]
    exact I.kept (t' := s.toks) fun b ob z => Heap.get?_push_of_some _ z
  have view : s'.heap.IsValuesView s.heap.objs.size d := by
    rw [← hs]
    exact ⟨_, Heap.get?_push_size _ rfl, rfl, rfl⟩
  have at' : s'.heap.DictAt (mixKind X.prog X.w) d us ep := by
    rw [← hs]
    exact at_.push _
  refine PySem.W.kdl_call (PySem.W.kdl_values (knd := mixKind X.prog X.w) (kvs := us) (ep := ep)) (I.ok.hd hc) ⟨view, at'⟩ (by omega) fun h' tk acc c keep hS its => ?_
  have el : acc.toList.length = acc.size := by simp
  have new : H s'.heap.objs.size = none := J.hok.fresh (Nat.le_refl _)
  have rel : Vals (kvs.map fun kv => kv.2) acc.toList := vals_of_at (by rw [List.length_map, el, its.1, n]) fun j x w h1 h2 => by
    obtain ⟨k, hk⟩ := its.2 j w (by rw [← Array.getElem?_toList]; exact h2)
    rw [List.getElem?_map] at h1
    cases hj : kvs[j]? with
    | none => rw [hj] at h1; cases h1
    | some e =>
      rw [hj] at h1
      cases h1
      obtain ⟨k1, v1⟩ := e
      obtain ⟨u, hu, ru⟩ := kv_get kv hj
      rw [hk] at hu
      cases hu
      exact ru
  exact ⟨.ref _, _, J.laid keep (Nat.le_refl _) (show ObjOk X.prog X.w _ _ _ (.lst (kvs.map fun kv => kv.2)) from ⟨by rw [List.length_map]; exact hz, acc.toList, c, rel, by rw [Array.toArray_toList]; exact hS⟩), rfl, q _ new⟩
theorem pe_listVals (hc : X.calm = true) (he : PE X e te) (hg : Gl X "list") (hm : X.mg "list" = none) (hv : bootBuiltins "list" = some (.type "list")) (hbase : attributeBase e "values" X.env (eval e X.env) = eval e X.env := by rfl) (hline : (apos.endLine == cpos.line) = true := by rfl)
    (hs : starEach [.Call (.Attribute e "values" apos) [] [] cpos] X.env = (false, eval (.Call (.Attribute e "values" apos) [] [] cpos) X.env) :: starEach [] X.env := by rfl) : PE X (.Call (.Name "list" p) [.Call (.Attribute e "values" apos) [] [] cpos] [] pos) (fun σ H Q => te σ H fun x H1 => rValsL x H1 Q) := by
  constructor
  intro pins s σ H Q I h
  refine wpAny_Call_Name_kw (ld_blt I hg hm hv (callWith_type1 ?_ hs rfl))
  rw [hs]
  refine Calls.spliced_cons ?_
  refine wpAny_Call_method (T := "dict") (id := "dict.values") hbase rfl hline F.plainAttrs_dict F.slot_dict_values F.type_dict_values ?_
  refine thn (he.run pins s σ H _ I h) fun u t hh => ?_
  obtain ⟨x, H1, J, rx, d, kvs, ex, hd, q⟩ := hh
  subst ex
  obtain rfl : u = Value.ref d := rx
  obtain ⟨hz, low, us, kv, ho⟩ := J.hok d _ hd
  refine ⟨ho.typeIs, ho.mapOf.noDict, ?_⟩
  show wpAny _ _ (callWith cpos (.builtin "dict.values") [.ref d] [] []) _ X.xe t
  refine method_meetsIn F.slot_dict_values F.entry_dict_values rfl ?_
  exact PySem.evalArgs_none ⟨rfl, ho.typeIs, F.args_dict_values_1 _, _, meets_dict_values (mixKind X.prog X.w) d low, ⟨us, ho⟩, Calls.spliced_nil (list_vals hc J hd q)⟩
end
/-! ### keys are ints, values data -/
abbrev entV (e : Int × V) : L2.Key × V := (Sum.inl e.1, e.2)
def putA {β : Type} (m : List (Int × β)) (k : Int) (v : β) : List (Int × β) := if (m.any fun e => decide (e.1 = k)) = true then m.map (fun e => if e.1 = k then (e.1, v) else e) else m ++ [(k, v)]
def valA {β : Type} (m : List (Int × β)) (k : Int) : Option β := (m.find? fun e => decide (e.1 = k)).map (·.2)
theorem entV_key (e : Int × V) (k : Int) : decide ((entV e).1 = (Sum.inl k : L2.Key)) = decide (e.1 = k) := decide_eq_decide.mpr ⟨Sum.inl.inj, congrArg Sum.inl⟩
theorem putK_entV (m : List (Int × V)) (k : Int) (v : V) : putK (m.map entV) (Sum.inl k : L2.Key) v = (putA m k v).map entV := by
  unfold putK putA
  rw [List.any_map, show ((fun kv : L2.Key × V => decide (kv.1 = Sum.inl k)) ∘ entV) = fun e => decide (e.1 = k) from funext fun e => entV_key e k]
  by_cases h : (m.any fun e => decide (e.1 = k)) = true
  · rw [if_pos h, if_pos h, List.map_map, List.map_map]
    refine List.map_congr_left fun x _ => ?_
    show (if (entV x).1 = Sum.inl k then ((entV x).1, v) else entV x) = entV (if x.1 = k then (x.1, v) else x)
    by_cases q : x.1 = k
    · rw [if_pos q, if_pos (congrArg Sum.inl q)]
    · rw [if_neg q, if_neg fun z => q (Sum.inl.inj z)]
  · rw [if_neg h, if_neg h, List.map_append]
    rfl
theorem valV_entV (m : List (Int × V)) (k : Int) : valV (m.map entV) (Sum.inl k : L2.Key) = valA m k := by
  unfold valV valA
  rw [List.find?_map, show ((fun kv : L2.Key × V => decide (kv.1 = Sum.inl k)) ∘ entV) = fun e => decide (e.1 = k) from funext fun e => entV_key e k, Option.map_map]
  rfl
/-- what a dict holds, item by item -/
inductive Ents {β : Type} (en : β → PyData) (K : PySem.W.Frag) (F : Hp) : List (Int × V) → List (Int × β) → Prop
  | nil : Ents en K F [] []
  | cons {i : Int} {v : V} {b : β} {es : List (Int × V)} {rs : List (Int × β)} : Dq K F v (en b) → Ents en K F es rs → Ents en K F ((i, v) :: es) ((i, b) :: rs)
section
variable {β : Type} {en : β → PyData} {K : PySem.W.Frag} {F F' H : Hp} {es : List (Int × V)} {rs : List (Int × β)}
theorem Ents.up (h : Ents en K F es rs) (e : Ex F F') : Ents en K F' es rs := by
  induction h with
  | nil => exact .nil
  | cons d _ ih => exact .cons (d.up e) ih
theorem Ents.len (h : Ents en K F es rs) : es.length = rs.length := by
  induction h with
  | nil => rfl
  | cons _ _ ih => rw [List.length_cons, List.length_cons, ih]
theorem Ents.keys (h : Ents en K F es rs) : (es.map entV).map (fun kv => kV kv.1) = (rs.map (·.1)).map V.int := by
  induction h with
  | nil => rfl
  | cons _ _ ih =>
    rw [List.map_cons, List.map_cons, ih]
    rfl
theorem Ents.vals (h : Ents en K F es rs) : DqAll K F ((es.map entV).map fun kv => kv.2) ((rs.map (·.2)).map en) := by
  induction h with
  | nil => exact .nil
  | cons d _ ih => exact .cons d ih
theorem Ents.val (h : Ents en K F es rs) (k : Int) : Dq K F ((valA es k).getD .non) (eO en (valA rs k)) := by
  induction h with
  | nil => exact .non
  | @cons i v b es rs d _ ih =>
    unfold valA at ih ⊢
    rw [List.find?_cons, List.find?_cons]
    by_cases q : i = k
    · rw [show decide (((i, v) : Int × V).1 = k) = true from decide_eq_true q]
      exact d
    · rw [show decide (((i, v) : Int × V).1 = k) = false from decide_eq_false q]
      exact ih
theorem Ents.val2 (h : Ents en K F es rs) (k : Int) {x : V} {b : β} (d : Dq K F x (en b)) : Dq K F ((valA es k).getD x) (en ((valA rs k).getD b)) := by
  induction h with
  | nil => exact d
  | @cons i v c es rs d' _ ih =>
    unfold valA at ih ⊢
    rw [List.find?_cons, List.find?_cons]
    by_cases q : i = k
    · rw [show decide (((i, v) : Int × V).1 = k) = true from decide_eq_true q]
      exact d'
    · rw [show decide (((i, v) : Int × V).1 = k) = false from decide_eq_false q]
      exact ih
theorem Ents.get (h : Ents en K F es rs) {k : Int} {b : β} (e : valA rs k = some b) : ∃ v, valA es k = some v ∧ Dq K F v (en b) := by
  induction h with
  | nil => cases e
  | @cons i v c es rs d' _ ih =>
    unfold valA at ih e ⊢
    rw [List.find?_cons] at e ⊢
    by_cases q : i = k
    · rw [show decide (((i, c) : Int × β).1 = k) = true from decide_eq_true q] at e
      rw [show decide (((i, v) : Int × V).1 = k) = true from decide_eq_true q]
      cases e
      exact ⟨v, rfl, d'⟩
    · rw [show decide (((i, c) : Int × β).1 = k) = false from decide_eq_false q] at e
      rw [show decide (((i, v) : Int × V).1 = k) = false from decide_eq_false q]
      exact ih e
theorem Ents.any (h : Ents en K F es rs) (k : Int) : (es.any fun e => decide (e.1 = k)) = (rs.any fun e => decide (e.1 = k)) := by
  induction h with
  | nil => rfl
  | cons _ _ ih => rw [List.any_cons, List.any_cons, ih]
theorem Ents.app {v : V} {b : β} {k : Int} (h : Ents en K F es rs) (d : Dq K F v (en b)) : Ents en K F (es ++ [(k, v)]) (rs ++ [(k, b)]) := by
  induction h with
  | nil => exact .cons d .nil
  | cons d' _ ih => exact .cons d' ih
theorem Ents.put {v : V} {b : β} (h : Ents en K F es rs) (k : Int) (d : Dq K F v (en b)) : Ents en K F (putA es k v) (putA rs k b) := by
  unfold putA
  rw [h.any k]
  by_cases q : (rs.any fun e => decide (e.1 = k)) = true
  · rw [if_pos q, if_pos q]
    clear q
    induction h with
    | nil => exact .nil
    | @cons i v' c es rs d' _ ih =>
      rw [List.map_cons, List.map_cons]
      by_cases z : i = k
      · rw [show (if ((i, v') : Int × V).1 = k then (((i, v') : Int × V).1, v) else (i, v')) = (i, v) from if_pos z, show (if ((i, c) : Int × β).1 = k then (((i, c) : Int × β).1, b) else (i, c)) = (i, b) from if_pos z]
        exact .cons d ih
      · rw [show (if ((i, v') : Int × V).1 = k then (((i, v') : Int × V).1, v) else (i, v')) = (i, v') from if_neg z, show (if ((i, c) : Int × β).1 = k then (((i, c) : Int × β).1, b) else (i, c)) = (i, c) from if_neg z]
        exact .cons d' ih
  · rw [if_neg q, if_neg q]
    exact h.app d
theorem ents_len (h : Ents en K F es rs) : ((es.map entV).length : Int) = (rs.length : Int) := by rw [List.length_map, h.len]
/-- d.get(i) -/
theorem get_ent {pd : Addr} {i : Int} {Q : VK} (hd : H pd = some (.dK (es.map entV))) (h : Ents en K F es rs) (k : ∀ v, Dq K F v (eO en (valA rs i)) → Q v H) : ∃ o, DGet H pd (V.int i) o ∧ Q (o.getD .non) H :=
  ⟨_, DGet.k (k := Sum.inl i) hd, k _ (by rw [valV_entV]; exact h.val i)⟩
theorem get_ent2 {pd : Addr} {i : Int} {Q : VK} {x : V} {b : β} (hd : H pd = some (.dK (es.map entV))) (h : Ents en K F es rs) (d : Dq K F x (en b)) (k : ∀ v, Dq K F v (en ((valA rs i).getD b)) → Q v H) : ∃ o, DGet H pd (V.int i) o ∧ Q (o.getD x) H :=
  ⟨_, DGet.k (k := Sum.inl i) hd, k _ (by rw [valV_entV]; exact h.val2 i d)⟩
/-- list(d) -/
theorem lst_keys {M : List Addr} {pd : Addr} {Q : VK} (e : Ex F H) (hd : H pd = some (.dK (es.map entV))) (h : Ents en K F es rs) (k : Ret M F H (fun F' _ v => Dq K F' v (eL PyData.int (rs.map Prod.fst))) Q) : rListD [.ref pd] H Q := by
  refine ⟨pd, _, rfl, hd, fun q hq => ?_⟩
  have g : Gm M F H (upd F q (.lst ((es.map entV).map fun kv => kV kv.1))) (upd H q (.lst ((es.map entV).map fun kv => kV kv.1))) := Gm.new e hq
  refine k _ _ _ g (.lst upd_same ?_)
  rw [h.keys]
  exact ints_all _
theorem lst_vals {M : List Addr} {pd : Addr} {Q : VK} (e : Ex F H) (hd : H pd = some (.dK (es.map entV))) (h : Ents en K F es rs) (k : Ret M F H (fun F' _ v => Dq K F' v (eL en (rs.map Prod.snd))) Q) : rValsL (.ref pd) H Q := by
  refine ⟨pd, _, rfl, hd, fun q hq => ?_⟩
  have g : Gm M F H (upd F q (.lst ((es.map entV).map fun kv => kv.2))) (upd H q (.lst ((es.map entV).map fun kv => kv.2))) := Gm.new e hq
  exact k _ _ _ g (.lst upd_same (h.vals.up g.f))
end
/-! ### sorted(list of ints) -/
def sortZ : List Int → List Int := sortB fun a b => decide (a < b)
theorem swo_z : SrtO.Swo (fun a b : Int => decide (a < b)) := by
  refine ⟨fun x y h => ?_, fun x y z h1 h2 => ?_⟩
  · have := of_decide_eq_true h
    exact decide_eq_false (by omega)
  · have := of_decide_eq_false h1
    have := of_decide_eq_false h2
    exact decide_eq_false (by omega)
theorem sortZ_one {l m : List Int} (p : l.Perm m) (h : l.Pairwise (· ≤ ·)) : l = sortZ m :=
  sortB_one swo_z (fun a b h1 h2 => by have := of_decide_eq_false h1; have := of_decide_eq_false h2; omega) p (h.imp fun q => decide_eq_false (by omega))
theorem sorted_lst {K : PySem.W.Frag} {M : List Addr} {F H : Hp} {Q : VK} {a : Addr} {l : List Int} (e : Ex F H) (s : H a = some (.lst (l.map V.int))) (k : Ret M F H (fun F' _ v => Dq K F' v (eL PyData.int (sortZ l))) Q) : rSortedI K [.ref a] H Q := by
  refine ⟨a, l, rfl, sq_of s, fun m p perm ord hp => ?_⟩
  have g : Gm M F H (upd F p (.lst (m.map V.int))) (upd H p (.lst (m.map V.int))) := Gm.new e hp
  refine k _ _ _ g ?_
  rw [← sortZ_one perm ord]
  exact .lst upd_same (ints_all _)
/-! ### xs.pop(i) -/
def popM {α : Type} (l : List α) (i : Int) : Mm (α × List α) := match ixN l.length i with
  | some j => (match l[j]? with
    | some a => if -(2 ^ 63) ≤ i ∧ i < 2 ^ 63 then .ok (a, l.eraseIdx j) else .bad
    | none => .bad)
  | none => .bad
theorem post_popM {α β : Type} {l : List α} {i : Int} {f : α × List α → Mm β} {r : β → Prop} {q : Er → Prop} (h : Post ((popM l i).bd f) r q) : ∃ a j, ixN l.length i = some j ∧ l[j]? = some a ∧ -(2 ^ 63) ≤ i ∧ i < 2 ^ 63 ∧ Post (f (a, l.eraseIdx j)) r q := by
  unfold popM at h
  cases e : ixN l.length i with
  | none => rw [e] at h; exact h.h.elim
  | some j =>
    rw [e] at h
    dsimp only at h
    cases e2 : l[j]? with
    | none => rw [e2] at h; exact h.h.elim
    | some a =>
      rw [e2] at h
      dsimp only at h
      by_cases c : -(2 ^ 63) ≤ i ∧ i < 2 ^ 63
      · rw [if_pos c] at h
        exact ⟨a, j, rfl, e2, c.1, c.2, ⟨h.h⟩⟩
      · rw [if_neg c] at h
        exact h.h.elim
theorem all_erase {α : Type} {K : PySem.W.Frag} {F : Hp} {en : α → PyData} : ∀ {l : List α} {xs : List V} (j : Nat), DqAll K F xs (l.map en) → DqAll K F (xs.eraseIdx j) ((l.eraseIdx j).map en)
  | [], _, j, h => by cases h; cases j <;> exact .nil
  | a :: l, _, j, h => by
    cases h with
    | cons d t =>
      cases j with
      | zero => exact t
      | succ j => exact .cons d (all_erase j t)
/-! ### x in a tuple of data -/
section
variable {X : Cx} {α : Type} [DecidableEq α] {f : α → PyData} {n : Nat}
def rInT (K : PySem.W.Frag) (neg : Bool) (f : α → PyData) : R2 := fun x y H Q => ∃ (a : α) (l : List α), Dp K H x (f a) ∧ Dp K H y (eV f l) ∧ Q (.bl (if neg = true then !hasM l a else hasM l a)) H
theorem op_inT (s : Sh f n) (hu : X.A.units + 65 < cLine) (hn : n + 1 ≤ 64 := by decide) : OpR X (compareOp .In) (rInT X.K false f) := by
  intro pins st σ H x y v u Q I rx ry h
  obtain ⟨a, l, ha, hl, q⟩ := h
  obtain ⟨as, r1⟩ := Dp.reads I (f a) x v ha rx
  obtain ⟨bs, r2⟩ := Dp.reads I (.tuple (l.map f)) y u hl ry
  have z1 : SeqAt.shaped (f a) = true := s.shaped (by omega) a
  have z2 : SeqAt.shaped (.tuple (l.map f)) = true := (sh_eV s).shaped hn l
  refine SeqAt.in_tuple_reads r2 r1 (SeqAt.canLay_of_shaped z2) (SeqAt.canLay_of_shaped z1) (room_in_shaped z1 hu) ?_
  rw [any_eqv s]
  exact ⟨.bl _, H, I, rfl, q⟩
theorem op_notInT (s : Sh f n) (hu : X.A.units + 65 < cLine) (hn : n + 1 ≤ 64 := by decide) : OpR X (compareOp .NotIn) (rInT X.K true f) := by
  intro pins st σ H x y v u Q I rx ry h
  obtain ⟨a, l, ha, hl, q⟩ := h
  obtain ⟨as, r1⟩ := Dp.reads I (f a) x v ha rx
  obtain ⟨bs, r2⟩ := Dp.reads I (.tuple (l.map f)) y u hl ry
  have z1 : SeqAt.shaped (f a) = true := s.shaped (by omega) a
  have z2 : SeqAt.shaped (.tuple (l.map f)) = true := (sh_eV s).shaped hn l
  refine SeqAt.notIn_tuple_reads r2 r1 (SeqAt.canLay_of_shaped z2) (SeqAt.canLay_of_shaped z1) (room_in_shaped z1 hu) ?_
  rw [any_eqv s]
  exact ⟨.bl _, H, I, rfl, q⟩
end
theorem dq_mapsome {α : Type} {en : α → PyData} {K : PySem.W.Frag} {F : Hp} {v : V} {l : List α} (h : Dq K F v (eV en l)) : Dq K F v (eV (eO en) (l.map some)) := by
  have e : (l.map some).map (eO en) = l.map en := by rw [List.map_map]; rfl
  show Dq K F v (.tuple ((l.map some).map (eO en)))
  rw [e]
  exact h
end Wk

set_option Elab.async false
set_option linter.all false
set_option maxRecDepth 100000
set_option maxHeartbeats 3999997
/-! ### methods and properties that are defs; readers -/
namespace Wk
open PySem PySem.Spec PyProof.Rows L2 Evl
/-- a method by its name -/
structure KnM (P : Program) (w : World) (K : PySem.W.Frag) (mg : Str → Option Value) (base : Heap) (C : Addr) (m : Str) (k : Nat) (ps : List Str) (sp : Sp) : Prop where
  ex : ∃ f fd, Meth K C m f ∧ FnOk P w K mg base CX0 k f fd ps sp ∧ Binds K fd ps []
  cl : Cls K C
/-- a property by its name -/
structure KnG (P : Program) (w : World) (K : PySem.W.Frag) (mg : Str → Option Value) (base : Heap) (C : Addr) (m : Str) (k : Nat) (sp : Sp) : Prop where
  ex : ∃ p g fd, PropOf K C m p g ∧ FnOk P w K mg base CX0 k g fd ["self"] sp ∧ Binds K fd ["self"] []
  cl : Cls K C
section
variable {X : Cx} {C : Addr} {m : Str} {k : Nat} {ps : List Str} {sp : Sp} {o e : Expr} {es : List Expr} {ta : TE} {t : TA} {apos pos : Pos}
theorem pe_knM {pl : Sem Bool} (G : KnM X.prog X.w X.K X.mg X.base C m k ps sp) (hr : Room k X.A) (he : PE X o ta) (ha : PA X (e :: es) t) (hst : starEach (e :: es) X.env = (false, eval e X.env) :: starEach es X.env := by rfl)
    (hpl : (backTo pos (starEach es X.env)).any (·.1) = false := by rfl) (ht : eval (.Call (.Attribute o m apos) (e :: es) [] pos) X.env = (do
      let ov ← eval o X.env
      standAt apos.atName
      let (f, first) ← holding [ov] (getMethod ov m pl)
      callWith pos f first (backTo pos (starEach (e :: es) X.env)) (backToKw pos (keywordEach [] X.env))) := by rfl) : PE X (.Call (.Attribute o m apos) (e :: es) [] pos) (tMeth C m sp [] E0 ta t) := by
  obtain ⟨f, fd, M, F, hb⟩ := G.ex
  exact pe_meth he G.cl M F hr hb .nil pass0 ha hst hpl ht
theorem pe_knM0 {pl : Sem Bool} (G : KnM X.prog X.w X.K X.mg X.base C m k ps sp) (hr : Room k X.A) (he : PE X o ta) (ht : eval (.Call (.Attribute o m apos) [] [] pos) X.env = (do
      let ov ← eval o X.env
      standAt apos.atName
      let (f, first) ← holding [ov] (getMethod ov m pl)
      callWith pos f first (backTo pos (starEach [] X.env)) (backToKw pos (keywordEach [] X.env))) := by rfl) : PE X (.Call (.Attribute o m apos) [] [] pos) (tMeth C m sp [] E0 ta tNil) := by
  obtain ⟨f, fd, M, F, hb⟩ := G.ex
  exact pe_meth0 he G.cl M F hr hb .nil pass0 ht
theorem pe_knG (G : KnG X.prog X.w X.K X.mg X.base C m k sp) (hr : Room (k + 1) X.A) (he : PE X e ta) (hab : attributeBase e m X.env (eval e X.env) = eval e X.env := by rfl) : PE X (.Attribute e m pos) (tProp C sp [] E0 ta) := by
  obtain ⟨p, g, fd, hp, F, hb⟩ := G.ex
  exact pe_prop he G.cl hp F hr hb .nil pass0 hab
end
/-! ### readers -/
abbrev eF : Int × Int → PyData := e2 PyData.int PyData.int
/-- what a reader is: its weighting, its places, its degree, its readings, what it accepted -/
structure Rdr where
  w : Wt
  ps : List (Int × Int)
  dg : Int
  rs : List (Int × (Int × Int))
  ac : List (Int × (Int × Int))
def rf (vw vp : V) (dg : Int) (pd pa : Addr) : List (Str × V) := putF "_accepted" (.ref pa) (putF "_readings" (.ref pd) (putF "_degree" (.int dg) (putF "_places" vp (putF "_weighting" vw []))))
section
variable (vw vp : V) (dg : Int) (pd pa : Addr)
theorem rf_w : (rf vw vp dg pd pa).lookup ("_weighting" : Str) = some vw := by
  unfold rf
  rw [lookup_putF, if_neg (by decide +kernel), lookup_putF, if_neg (by decide +kernel), lookup_putF, if_neg (by decide +kernel), lookup_putF, if_neg (by decide +kernel), lookup_putF, if_pos rfl]
theorem rf_p : (rf vw vp dg pd pa).lookup ("_places" : Str) = some vp := by
  unfold rf
  rw [lookup_putF, if_neg (by decide +kernel), lookup_putF, if_neg (by decide +kernel), lookup_putF, if_neg (by decide +kernel), lookup_putF, if_pos rfl]
theorem rf_d : (rf vw vp dg pd pa).lookup ("_degree" : Str) = some (.int dg) := by
  unfold rf
  rw [lookup_putF, if_neg (by decide +kernel), lookup_putF, if_neg (by decide +kernel), lookup_putF, if_pos rfl]
theorem rf_r : (rf vw vp dg pd pa).lookup ("_readings" : Str) = some (.ref pd) := by
  unfold rf
  rw [lookup_putF, if_neg (by decide +kernel), lookup_putF, if_pos rfl]
theorem rf_a : (rf vw vp dg pd pa).lookup ("_accepted" : Str) = some (.ref pa) := by
  unfold rf
  rw [lookup_putF, if_pos rfl]
theorem rf_no {m : Str} (h : (decide (m = "_accepted") || (decide (m = "_readings") || (decide (m = "_degree") || (decide (m = "_places") || decide (m = "_weighting"))))) = false) : (rf vw vp dg pd pa).lookup m = none := by
  obtain ⟨h1, h⟩ := Bool.or_eq_false_iff.mp h
  obtain ⟨h2, h⟩ := Bool.or_eq_false_iff.mp h
  obtain ⟨h3, h⟩ := Bool.or_eq_false_iff.mp h
  obtain ⟨h4, h5⟩ := Bool.or_eq_false_iff.mp h
  unfold rf
  rw [lookup_putF, if_neg (of_decide_eq_false h1), lookup_putF, if_neg (of_decide_eq_false h2), lookup_putF, if_neg (of_decide_eq_false h3), lookup_putF, if_neg (of_decide_eq_false h4), lookup_putF, if_neg (of_decide_eq_false h5)]
  rfl
end
/-- a reader stands at rd, its readings at pd, what it accepted at pa -/
structure RdAt (K : PySem.W.Frag) (C CR : Addr) (F H : Hp) (rd pd pa : Addr) (st : Rdr) : Prop where
  ins : ∃ dx vw vp, F rd = some (.ins CR dx (rf vw vp st.dg pd pa)) ∧ IsW K C F vw st.w ∧ Dq K F vp (eL eF st.ps)
  dic : ∃ es, H pd = some (.dK (es.map entV)) ∧ Ents eF K F es st.rs
  dn : F pd = none
  lst : ∃ xs, H pa = some (.lst xs) ∧ DqAll K F xs (st.ac.map (e2 PyData.int eF))
  ln : F pa = none
section
variable {K : PySem.W.Frag} {C CR : Addr} {F H F' H' : Hp} {rd pd pa p : Addr} {st : Rdr} {M : List Addr} {o : HO} {Q : VK}
theorem RdAt.hd (w : RdAt K C CR F H rd pd pa st) : ∃ o, H pd = some o := by
  obtain ⟨es, h, _⟩ := w.dic
  exact ⟨_, h⟩
theorem RdAt.ha (w : RdAt K C CR F H rd pd pa st) : ∃ o, H pa = some o := by
  obtain ⟨es, h, _⟩ := w.lst
  exact ⟨_, h⟩
theorem RdAt.nd (w : RdAt K C CR F H rd pd pa st) (h : H p = none) : pd ≠ p := fun z => by
  obtain ⟨o, e⟩ := w.hd
  rw [z, h] at e
  cases e
theorem RdAt.na (w : RdAt K C CR F H rd pd pa st) (h : H p = none) : pa ≠ p := fun z => by
  obtain ⟨o, e⟩ := w.ha
  rw [z, h] at e
  cases e
theorem RdAt.dif (w : RdAt K C CR F H rd pd pa st) : pd ≠ pa := fun z => by
  obtain ⟨es, h, _⟩ := w.dic
  obtain ⟨xs, h2, _⟩ := w.lst
  rw [z, h2] at h
  cases h
theorem RdAt.keep (w : RdAt K C CR F H rd pd pa st) (g : Gm M F H F' H') (n1 : pd ∉ M) (n2 : pa ∉ M) : RdAt K C CR F' H' rd pd pa st := by
  obtain ⟨dx, vw, vp, h1, h2, h3⟩ := w.ins
  obtain ⟨es, h4, h5⟩ := w.dic
  obtain ⟨xs, h6, h7⟩ := w.lst
  exact ⟨⟨dx, vw, vp, g.f _ _ h1, h2.up g.f, h3.up g.f⟩, ⟨es, (g.own n1 h4 w.dn).1, h5.up g.f⟩, (g.own n1 h4 w.dn).2, ⟨xs, (g.own n2 h6 w.ln).1, h7.up g.f⟩, (g.own n2 h6 w.ln).2⟩
theorem RdAt.put (w : RdAt K C CR F H rd pd pa st) (n1 : pd ≠ p) (n2 : pa ≠ p) : RdAt K C CR F (upd H p o) rd pd pa st := by
  obtain ⟨es, h4, h5⟩ := w.dic
  obtain ⟨xs, h6, h7⟩ := w.lst
  exact ⟨w.ins, ⟨es, (upd_ne n1).trans h4, h5⟩, w.dn, ⟨xs, (upd_ne n2).trans h6, h7⟩, w.ln⟩
theorem RdAt.fixd (w : RdAt K C CR F H rd pd pa st) (n1 : pd ≠ p) (n2 : pa ≠ p) (u : Ex F (upd F p o)) : RdAt K C CR (upd F p o) H rd pd pa st := by
  obtain ⟨dx, vw, vp, h1, h2, h3⟩ := w.ins
  obtain ⟨es, h4, h5⟩ := w.dic
  obtain ⟨xs, h6, h7⟩ := w.lst
  exact ⟨⟨dx, vw, vp, u _ _ h1, h2.up u, h3.up u⟩, ⟨es, h4, h5.up u⟩, (upd_ne n1).trans w.dn, ⟨xs, h6, h7.up u⟩, (upd_ne n2).trans w.ln⟩
/-- self._readings[i] = v -/
theorem RdAt.dput {es : List (Int × V)} {i : Int} {v : V} {f : Int × Int} (w : RdAt K C CR F H rd pd pa st) (he : H pd = some (.dK (es.map entV))) (en : Ents eF K F es st.rs) (d : Dq K F v (eF f)) :
    RdAt K C CR F (upd H pd (.dK (putK (es.map entV) (Sum.inl i : L2.Key) v))) rd pd pa { st with rs := putA st.rs i f } := by
  obtain ⟨xs, h6, h7⟩ := w.lst
  exact ⟨w.ins, ⟨putA es i v, by rw [upd_same, putK_entV], en.put i d⟩, w.dn, ⟨xs, (upd_ne w.dif.symm).trans h6, h7⟩, w.ln⟩
/-- self._accepted.append(..) -/
theorem RdAt.lapp {xs : List V} {v : V} {f : Int × (Int × Int)} (w : RdAt K C CR F H rd pd pa st) (hx : H pa = some (.lst xs)) (dx : DqAll K F xs (st.ac.map (e2 PyData.int eF))) (d : Dq K F v (e2 PyData.int eF f)) :
    RdAt K C CR F (upd H pa (.lst (xs ++ [v]))) rd pd pa { st with ac := st.ac ++ [f] } := by
  obtain ⟨es, h4, h5⟩ := w.dic
  exact ⟨w.ins, ⟨es, (upd_ne w.dif).trans h4, h5⟩, w.dn, ⟨xs ++ [v], upd_same, by rw [List.map_append]; exact dx.app (.cons d .nil)⟩, w.ln⟩
/-- Reader.__init__ -/
def spR0 (chk : Wt → List (Int × Int) → Int → Mm Rdr) (K : PySem.W.Frag) (C CR : Addr) : Sp := fun vs H Q _ => ∃ (F : Hp) (x dx : Addr) (vw vp : V) (w : Wt) (ps : List (Int × Int)) (dg : Int), vs = [.ref x, vw, vp, .int dg] ∧ Ex F H ∧ H x = some (.ins CR dx []) ∧ F x = none ∧
  IsW K C F vw w ∧ Dq K F vp (eV eF ps) ∧ Post (chk w ps dg) (fun st => ∀ F' H' vw' vp' pd pa, Gm [x] F H F' H' → H pd = none → H pa = none → H' x = some (.ins CR dx (rf vw' vp' st.dg pd pa)) → F' x = none → IsW K C F' vw' st.w → Dq K F' vp' (eL eF st.ps) →
    H' pd = some (.dK []) → F' pd = none → H' pa = some (.lst []) → F' pa = none → st.rs = [] → st.ac = [] → Q .non H') (fun _ => False)
theorem make_R {chk : Wt → List (Int × Int) → Int → Mm Rdr} {vw vp : V} {w : Wt} {ps : List (Int × Int)} {dg : Int} {E : XK} (e : Ex F H) (hw : IsW K C F vw w) (hp : Dq K F vp (eV eF ps))
    (k : Post (chk w ps dg) (fun st => ∀ rd pd pa F' H', Gm [] F H F' H' → H pd = none → H pa = none → RdAt K C CR F' H' rd pd pa st → Q (.ref rd) H') (fun _ => False)) :
    ∀ x dx, H x = none → H dx = none → dx ≠ x → spR0 chk K C CR (.ref x :: ([vw, vp, .int dg] ++ [])) (upd (upd H dx (.own x)) x (.ins CR dx [])) (fun v H2 => v = .non ∧ Q (.ref x) H2) E := by
  intro x dx hx hdx hne
  have g1 : Gm [] F H (upd F dx (.own x)) (upd H dx (.own x)) := Gm.new e hdx
  have hx1 : (upd H dx (.own x)) x = none := by rw [upd_ne hne.symm]; exact hx
  have g2 : Gm [] (upd F dx (.own x)) (upd H dx (.own x)) (upd F dx (.own x)) (upd (upd H dx (.own x)) x (.ins CR dx [])) := Gm.newM g1.s hx1
  have fx : (upd F dx (.own x)) x = none := by
    cases q : (upd F dx (.own x)) x with
    | none => rfl
    | some u => rw [g1.s _ _ q] at hx1; cases hx1
  refine ⟨_, x, dx, vw, vp, w, ps, dg, rfl, g2.s, upd_same, fx, hw.up g1.f, hp.up g1.f, k.mono (fun st k F' H' vw' vp' pd pa g yd ya h1 h2 h3 h4 h5 h6 h7 h8 r1 r2 => ⟨rfl, ?_⟩) (fun _ z => z)⟩
  have gg : Gm [] F H F' H' := Gm.young (g1.trans g2) hx g
  have low : ∀ {b : Addr}, (upd (upd H dx (.own x)) x (.ins CR dx [])) b = none → H b = none := fun {b} z => (g1.trans g2).fresh z
  have nx : ∀ {b : Addr} {o : HO}, H' b = some o → o ≠ .ins CR dx (rf vw' vp' st.dg pd pa) → b ≠ x := fun {b o} z n q => by
    rw [q, h1] at z
    exact n (Option.some.inj z).symm
  have g3 := gg.fix h1 h2 hx
  have up : Ex F' (upd F' x (.ins CR dx (rf vw' vp' st.dg pd pa))) := Ex.new h2
  refine k x pd pa _ _ g3 (low yd) (low ya) ⟨⟨dx, vw', vp', upd_same, h3.up up, h4.up up⟩, ⟨[], h5, ?_⟩, (upd_ne (nx h5 fun z => nomatch z)).trans h6, ⟨[], h7, ?_⟩, (upd_ne (nx h7 fun z => nomatch z)).trans h8⟩
  · rw [r1]
    exact .nil
  · rw [r2]
    exact .nil
end
/-! ### a property told by a def -/
theorem knG_of {P : Program} {w : World} {K : PySem.W.Frag} {mg : Str → Option Value} {base : Heap} {x f : Str} {k : Nat} {fd : FuncData} {sp : Sp} (hp : propB x f K = true) (cl : Cls K (He.ga K x)) (F : FnOk P w K mg base CX0 k (propG x f K) fd ["self"] sp) (b : Binds K fd ["self"] []) :
    KnG P w K mg base (He.ga K x) f k sp := ⟨⟨_, _, _, propB_ok hp, F, b⟩, cl⟩
end Wk
namespace Wk
open PySem PySem.Spec PyProof.Rows L2 Evl
theorem hy_two {M : List Addr} {H0 : Hp} {a b : Addr} (ha : a ∈ M ∨ H0 a = none) (hb : b ∈ M ∨ H0 b = none) : ∀ q ∈ [a, b], q ∈ M ∨ H0 q = none := fun q hq => by
  rcases List.mem_cons.mp hq with z | hq
  · rw [z]
    exact ha
  · rw [List.mem_singleton.mp hq]
    exact hb
theorem row_keep2 {K : PySem.W.Frag} {sc ra : Addr} {scr : List Int} {F H F' H' : Hp} {st : Rw} {M : List Addr} (w : RowAt K sc ra scr F H st) (g : Gm M F H F' H') (n : ra ∉ M) : RowAt K sc ra scr F' H' st :=
  ⟨(g.own n w.1 w.2.1).1, (g.own n w.1 w.2.1).2, ex_l g.f w.2.2⟩
theorem all_rg {K : PySem.W.Frag} {F : Hp} (j : Int) : DqAll K F (rgV 0 j) (List.map PyData.int (rangeL 0 j.toNat)) := by
  have e1 : rgV 0 j = (rangeL 0 j.toNat).map V.int := by
    unfold rgV rangeL
    rw [List.map_map, Int.sub_zero]
    rfl
  rw [e1]
  exact ints_all _
/-- xs.pop(i): the item, its place -/
def popX {α β : Type} (l : List α) (i : Int) (f : α → Nat → Mm β) : Mm β := match ixN l.length i with
  | some j => (match l[j]? with
    | some a => if -(2 ^ 63) ≤ i ∧ i < 2 ^ 63 then f a j else .bad
    | none => .bad)
  | none => .bad
theorem post_popX {α β : Type} {l : List α} {i : Int} {f : α → Nat → Mm β} {r : β → Prop} {q : Er → Prop} (h : Post (popX l i f) r q) : ∃ a j, ixN l.length i = some j ∧ l[j]? = some a ∧ -(2 ^ 63) ≤ i ∧ i < 2 ^ 63 ∧ Post (f a j) r q := by
  unfold popX at h
  cases e : ixN l.length i with
  | none => rw [e] at h; exact h.h.elim
  | some j =>
    rw [e] at h
    dsimp only at h
    cases e2 : l[j]? with
    | none => rw [e2] at h; exact h.h.elim
    | some a =>
      rw [e2] at h
      dsimp only at h
      by_cases c : -(2 ^ 63) ≤ i ∧ i < 2 ^ 63
      · rw [if_pos c] at h
        exact ⟨a, j, rfl, e2, c.1, c.2, ⟨h.h⟩⟩
      · rw [if_neg c] at h
        exact h.h.elim
end Wk
namespace Wk
open PySem PySem.Spec PyProof.Rows L2 Evl
theorem none_of_ex {F H : Hp} {p : Addr} (e : Ex F H) (h : H p = none) : F p = none := by
  cases q : F p with
  | none => rfl
  | some u => rw [e p u q] at h; cases h
end Wk
namespace Wk
open PySem L2 Evl
/-- a while that may be left -/
def foldWL {S R : Type} (c : S → Mm Bool) (f : S → Mm (Fl R S)) : Nat → S → Mm (Fl R S)
  | 0, _ => .bad
  | n + 1, s => (c s).bd fun b => match b with
    | true => (f s).bd fun o => match o with
      | .go s' => foldWL c f n s'
      | .brk s' => .ok (.go s')
      | .ret r => .ok (.ret r)
    | false => .ok (.go s)
section
variable {M : List Addr} {F H : Hp} {σ : L2.St} {D : Ends} {S R β : Type} {s0 : S} {rest : S → Mm β} {ret : R → Mm β} {ok : β → Prop} {ex : Er → Prop} {tb : TS}
theorem while_mirL {c : TT} {cM : S → Mm Bool} {bM : S → Mm (Fl R S)} {N : Nat} (I : S → Hp → Hp → L2.St → Prop) (k : Post ((foldWL cM bM N s0).bd fun o => o.el rest ret) ok ex) (e : Ex F H) (h0 : I s0 F H σ)
    (hc : ∀ s σ' F' H', Gm M F H F' H' → I s F' H' σ' → ∀ Q : Bool → Hp → Prop, Post (cM s) (fun b => ∀ F2 H2, Gm M F H F2 H2 → I s F2 H2 σ' → Q b H2) ex → c σ' H' Q)
    (hb : ∀ s σ' F' H', Gm M F H F' H' → I s F' H' σ' → ∀ nx : L2.St → Hp → Prop, Post (bM s) (fun o => match o with
        | .go s' => ∀ σ2 F2 H2, Gm M F H F2 H2 → I s' F2 H2 σ2 → nx σ2 H2
        | .brk s' => ∀ σ2 F2 H2, Gm M F H F2 H2 → I s' F2 H2 σ2 → D.nx σ2 H2
        | .ret r => Post (ret r) ok ex) ex → tb { D with nx := nx, ct := nx, bk := D.nx } σ' H')
    (kk : ∀ s σ' F' H', Gm M F H F' H' → I s F' H' σ' → Post (rest s) ok ex → D.nx σ' H') : tWhile c tb D σ H := by
  refine ⟨fun m σ' H' => ∃ s F', Gm M F H F' H' ∧ I s F' H' σ' ∧ Post ((foldWL cM bM m s).bd fun o => o.el rest ret) ok ex, ⟨N, s0, F, Gm.refl e, h0, k⟩, ?_⟩
  rintro m σ' H' ⟨s, F', g', i', k'⟩
  cases m with
  | zero => exact k'.h.elim
  | succ m =>
    have k2 : Post ((cM s).bd fun b => (match b with
      | true => (bM s).bd fun o => (match o with
        | .go s' => foldWL cM bM m s'
        | .brk s' => Mm.ok (.go s')
        | .ret r => Mm.ok (.ret r) : Mm (Fl R S))
      | false => (Mm.ok (.go s) : Mm (Fl R S))).bd fun o => o.el rest ret) ok ex := post_assoc k'
    refine hc s σ' F' H' g' i' _ ((post_bd k2).mono (fun b q F2 H2 g2 i2 => ?_) fun _ z => z)
    cases b with
    | false => exact kk s σ' F2 H2 g2 i2 ⟨q.h⟩
    | true =>
      refine ⟨fun σ2 H2 => ∃ s F', Gm M F H F' H2 ∧ I s F' H2 σ2 ∧ Post ((foldWL cM bM m s).bd fun o => o.el rest ret) ok ex, fun σ2 H2 ⟨s', F3, z⟩ => ⟨m, Nat.lt_succ_self _, s', F3, z⟩, ?_⟩
      refine hb s σ' F2 H2 g2 i2 _ ((post_bd (post_assoc (Post.mk q.h))).mono (fun o q' => ?_) fun _ z => z)
      cases o with
      | go s' => exact fun σ2 F3 H3 g3 i3 => ⟨s', F3, g3, i3, q'⟩
      | brk s' => exact fun σ2 F3 H3 g3 i3 => kk s' σ2 F3 H3 g3 i3 ⟨q'.h⟩
      | ret r => exact ⟨q'.h⟩
end
end Wk
namespace Wk
open PySem L2 Evl
/-- e.f, the text seen late -/
theorem pe_fldR {X : Cx} {e : Expr} {ta : TE} {f : Str} {pos : Pos} (he : PE X e ta) (hb : attributeBase e f X.env (eval e X.env) = eval e X.env := by rfl) : PE X (.Attribute e f pos) (tFld X.K ta f) := pe_fld he hb
theorem to_LO {K : PySem.W.Frag} {M : List Addr} {F H : Hp} {Q : VK} {a : Addr} {xs : List V} {α : Type} {l : List α} {en : α → PyData} (e : Ex F H) (o : H a = some (.lst xs)) (h : DqAll K F xs (l.map en)) (k : Ret M F H (fun F' _ v => Dq K F' v (eL en l)) Q) :
    ∃ p ys, [V.ref a] = [.ref p] ∧ (SqL K H p ys ∨ SqT K H p ys) ∧ ∀ l, H l = none → Q (.ref l) (upd H l (.lst ys)) := by
  refine ⟨a, xs, rfl, .inl (sq_of o), fun p hp => ?_⟩
  have g : Gm M F H (upd F p (.lst xs)) (upd H p (.lst xs)) := Gm.new e hp
  exact k _ _ _ g (.lst upd_same (h.up g.f))
end Wk
namespace Wk
open PySem L2 Evl
/-- e.f where the slots of a comprehension stand around -/
theorem pe_fldK {X : Cx} {e : Expr} {ta : TE} {f : Str} {pos : Pos} (K : PySem.W.Frag) (he : PE X e ta) (hK : X.K = K := by rfl) (hb : attributeBase e f X.env (eval e X.env) = eval e X.env := by rfl) : PE X (.Attribute e f pos) (tFld K ta f) := by
  subst hK
  exact pe_fld he hb
end Wk

set_option Elab.async false
set_option linter.all false
set_option maxRecDepth 100000
set_option maxHeartbeats 3999996
/-! ### methods that may raise; dicts of ints to data as values -/
namespace Wk
open PySem PySem.Spec PyProof.Rows L2 Evl
/-- a method that may raise -/
structure KxM (P : Program) (w : World) (K : PySem.W.Frag) (mg : Str → Option Value) (base : Heap) (C : Addr) (m : Str) (k : Nat) (ps : List Str) (sp : Sp) : Prop where
  ex : ∃ f fd, Meth K C m f ∧ FnOk P w K mg base (L2.CX P w) k f fd ps sp ∧ Binds K fd ps []
  cl : Cls K C
def tMethX (C : Addr) (m : Str) (sp : Sp) (E : L2.St → XK) (ta : TE) (t : TA) : TE := fun σ H Q => ta σ H fun x G => ∃ a dx fs, x = .ref a ∧ G a = some (.ins C dx fs) ∧ fs.lookup m = none ∧ t σ G fun vs J => sp (x :: vs) J Q (E σ)
section
variable {X : Cx} {W : WX} {C : Addr} {m : Str} {k : Nat} {ps : List Str} {sp : Sp} {o e : Expr} {es : List Expr} {ta : TE} {t : TA} {apos pos : Pos}
theorem pe_kxM {pl : Sem Bool} (G : KxM X.prog X.w X.K X.mg X.base C m k ps sp) (hr : Room k X.A) (tk : Takes X W) (he : PE X o ta) (ha : PA X (e :: es) t) (hst : starEach (e :: es) X.env = (false, eval e X.env) :: starEach es X.env := by rfl)
    (hpl : (backTo pos (starEach es X.env)).any (·.1) = false := by rfl) (ht : eval (.Call (.Attribute o m apos) (e :: es) [] pos) X.env = (do
      let ov ← eval o X.env
      standAt apos.atName
      let (f, first) ← holding [ov] (getMethod ov m pl)
      callWith pos f first (backTo pos (starEach (e :: es) X.env)) (backToKw pos (keywordEach [] X.env))) := by rfl) : PE X (.Call (.Attribute o m apos) (e :: es) [] pos) (tMethX C m sp (WE W) ta t) := by
  obtain ⟨f, fd, M, F, hb⟩ := G.ex
  constructor
  intro pins s σ H Q I h
  refine PySem.W.methodCall_KW (pl := pl) (thn (he.run pins s σ H _ I h) fun u s1 hu => ?_) ht
  obtain ⟨x, G1, I1, rx, a, dx, fs, rfl, ea, l, q⟩ := hu
  obtain rfl : u = Value.ref a := rx
  refine getmeth_ok I1 ea G.cl M l ?_
  refine PySem.W.callWith_K (first := [.ref a]) (h₀ := X.base) I.ok.mod.kin M.kp (thn (ha.run pos pins s1 σ G1 _ I1 q) fun us s2 hu2 => ?_) hst hpl
  obtain ⟨vs, J, I2, r, q2⟩ := hu2
  exact ⟨I2.kIn, run_fnS (us := .ref a :: us) (vs := .ref a :: vs) F hr hb (passAt tk σ) I2 (.cons rfl r) q2⟩
end
/-- what follows an exception, R told of the heap then -/
def RetXR (M : List Addr) (K : PySem.W.Frag) (F H : Hp) (e : Er) (R : Hp → Hp → Prop) (E : XK) : Prop := ∀ cls d F' H', Gm M F H F' H' → XD K F' cls d e → R F' H' → E cls d H'
theorem xd0 {K : PySem.W.Frag} {F : Hp} {cls : Value} {d : Option Addr} {e : Er} {c : Nat} (h : XD K F cls d e) (hc : e.c = c) : cls = .ref (He.ga K (exN c)) := by
  rw [← hc]
  exact h.1
/-! ### a dict that is never changed again -/
def IsM {β : Type} (en : β → PyData) (K : PySem.W.Frag) (F : Hp) (v : V) (m : List (Int × β)) : Prop := ∃ p es, v = .ref p ∧ F p = some (.dK (es.map entV)) ∧ Ents en K F es m
section
variable {X : Cx} {β : Type} {en : β → PyData} {K : PySem.W.Frag} {F F' H : Hp} {M : List Addr} {v : V} {m : List (Int × β)} {Q : VK}
theorem IsM.ex (h : IsM en K F v m) : ∃ p es, v = .ref p ∧ F p = some (.dK (es.map entV)) ∧ Ents en K F es m := h
theorem IsM.up (h : IsM en K F v m) (e : Ex F F') : IsM en K F' v m := by
  obtain ⟨p, es, rfl, h1, h2⟩ := h
  exact ⟨p, es, rfl, e _ _ h1, h2.up e⟩
theorem dic_nil (en : β → PyData) (K : PySem.W.Frag) (e : Ex F H) (k : Ret M F H (fun F' _ v => IsM en K F' v ([] : List (Int × β))) Q) : ∀ p, H p = none → Q (.ref p) (upd H p (.dK [])) := fun p hp =>
  k _ _ _ (Gm.new e hp) ⟨p, [], rfl, upd_same, .nil⟩
/-- dict(d) -/
def rDictC : List V → Hp → VK → Prop := fun xs H Q => ∃ (a : Addr) (kvs : List (L2.Key × V)), xs = [.ref a] ∧ H a = some (.dK kvs) ∧ ∀ p, H p = none → Q (.ref p) (upd H p (.dK kvs))
theorem cr_dictC : CallR X (.type "dict") rDictC := by
  intro pins s σ H xs us Q I r h
  obtain ⟨a, kvs, rfl, ha, q⟩ := h
  obtain rfl := Vals.ref1 r
  exact d_copyOf I (.inl ha) fun p s' hp J => ⟨.ref p, _, J, rfl, q p hp⟩
theorem dic_own {a : Addr} {es : List (Int × V)} (e : Ex F H) (h : F a = some (.dK (es.map entV))) (k : ∀ p H1, Gm M F H F H1 → H p = none → (H1 p = some (.dK (es.map entV)) ∧ F p = none) → Q (.ref p) H1) : rDictC [.ref a] H Q := by
  refine ⟨a, _, rfl, e _ _ h, fun p hp => ?_⟩
  have g : Gm M F H F (upd H p (.dK (es.map entV))) := Gm.newM e hp
  refine k p _ g hp ⟨upd_same, ?_⟩
  cases q : F p with
  | none => rfl
  | some u => rw [e _ _ q] at hp; cases hp
/-- len(d) -/
theorem dic_len {a : Addr} {es : List (Int × V)} (e : Ex F H) (h : F a = some (.dK (es.map entV))) (he : Ents en K F es m) (k : Q (.int m.length) H) : ∃ (b : Addr) (kvs : List (L2.Key × V)), [V.ref a] = [V.ref b] ∧ H b = some (.dK kvs) ∧ Q (.int kvs.length) H := by
  refine ⟨a, _, rfl, e _ _ h, ?_⟩
  rw [ents_len he]
  exact k
theorem ents_fst (h : Ents en K F es m) : (es.map entV).map (·.1) = (m.map (·.1)).map (Sum.inl : Int → L2.Key) := by
  induction h with
  | nil => rfl
  | cons _ _ ih =>
    rw [List.map_cons, List.map_cons, List.map_cons, ih]
    rfl
/-- sorted(d) -/
theorem dic_sorted {a : Addr} {es : List (Int × V)} (e : Ex F H) (h : F a = some (.dK (es.map entV))) (he : Ents en K F es m) (c : m.length < 64) (k : Ret M F H (fun F' _ v => Dq K F' v (eL PyData.int (sortZ (m.map Prod.fst)))) Q) :
    ∃ (b : Addr) (kvs : List (L2.Key × V)) (ks : List Int), [V.ref a] = [.ref b] ∧ Rd H b (.dK kvs) ∧ kvs.map (·.1) = ks.map Sum.inl ∧ ks.length < 64 ∧ ∀ (ys : List Int) (p : Addr), ys.Perm ks → ys.Pairwise (· ≤ ·) → H p = none → Q (.ref p) (upd H p (.lst (ys.map V.int))) := by
  refine ⟨a, _, m.map Prod.fst, rfl, .inl (e _ _ h), ents_fst he, by rw [List.length_map]; exact c, fun ys p perm ord hp => ?_⟩
  have g : Gm M F H (upd F p (.lst (ys.map V.int))) (upd H p (.lst (ys.map V.int))) := Gm.new e hp
  refine k _ _ _ g ?_
  rw [← sortZ_one perm ord]
  exact .lst upd_same (ints_all _)
/-- d[i] -/
theorem dic_at {a : Addr} {es : List (Int × V)} {i : Int} {b : β} (e : Ex F H) (h : F a = some (.dK (es.map entV))) (he : Ents en K F es m) (hb : valA m i = some b) (k : ∀ v, Dq K F v (en b) → Q v H) : ∃ (q : Addr) (v : V), V.ref a = .ref q ∧ DGet H q (V.int i) (some v) ∧ Q v H := by
  obtain ⟨v, h1, h2⟩ := he.get hb
  refine ⟨a, v, rfl, ?_, k v h2⟩
  have z := DGet.k (k := (Sum.inl i : L2.Key)) (e _ _ h)
  rw [valV_entV, h1] at z
  exact z
end
end Wk

set_option Elab.async false
set_option linter.all false
set_option maxRecDepth 100000
set_option maxHeartbeats 3999995
/-! ### a tuple of a weighting, places, a number -/
namespace Wk
open PySem PySem.Spec PyProof.Rows L2 Evl
def IsZ (K : PySem.W.Frag) (C : Addr) (F : Hp) (v : V) (m : Wt × List (Int × Int) × Int) : Prop := ∃ p x y, v = .ref p ∧ SqT K F p [x, y, .int m.2.2] ∧ IsW K C F x m.1 ∧ Dq K F y (eL eF m.2.1)
section
variable {K : PySem.W.Frag} {C : Addr} {F F' : Hp} {v : V} {m : Wt × List (Int × Int) × Int}
theorem IsZ.ex (h : IsZ K C F v m) : ∃ p x y, v = .ref p ∧ SqT K F p [x, y, .int m.2.2] ∧ IsW K C F x m.1 ∧ Dq K F y (eL eF m.2.1) := h
theorem IsZ.up (h : IsZ K C F v m) (e : Ex F F') : IsZ K C F' v m := by
  obtain ⟨p, x, y, rfl, h1, h2, h3⟩ := h
  exact ⟨p, x, y, rfl, ex_t e h1, h2.up e, h3.up e⟩
end
/-! ### the same where other slots stand around: K is named -/
def rLenK (K : PySem.W.Frag) : List V → Hp → VK → Prop := fun xs H Q => ∃ (p : Addr) (ys : List V) (n : Int), xs = [V.ref p] ∧ (SqL K H p ys ∨ SqT K H p ys) ∧ (ys.length : Int) = n ∧ Q (.int n) H
theorem call_lenK {X : Cx} (K : PySem.W.Frag) (hK : X.K = K := by rfl) : CallR X (.builtin "len") (rLenK K) := by
  subst hK
  exact call_lenM
end Wk

set_option Elab.async false
set_option linter.all false
set_option maxRecDepth 100000
set_option maxHeartbeats 3999994
/-! ### t[::-1] of a tuple -/
namespace Wk
open PySem PySem.Spec PyProof.Rows L2 Evl
section
variable {pg : Program} {wd : World} {A : Around} {E : Value → Shared → Prop} {s : Shared}
theorem places_back (n : Nat) : Builtin.Slice.slicePlaces ((n : Int) - 1) (-1) (-1) = n := by
  rw [Builtin.Slice.slicePlaces, if_neg (by decide)]
  by_cases z : n = 0
  · subst z
    rfl
  · rw [if_pos (by omega)]
    simp only [Int.neg_neg, Int.ediv_one]
    omega
theorem slice_back {sl : Addr} {vl vu vs : Value} {n : Nat} {Q : Int × Int × Nat → Shared → Prop} (hs : s.heap.IsSliceOf sl vl vu vs) (pl : IsPart vl none) (pu : IsPart vu none) (ps : IsPart vs (some (-1))) (h : Q ((n : Int) - 1, -1, n) s) :
    wpAny (model pg wd) A (Builtin.Slice.sliceApplied (.ref sl) (pure (n : Int))) Q E s := by
  obtain ⟨o, e, _, dd⟩ := hs
  have z : Builtin.Slice.sliceAdjust none none (-1) (n : Int) = ((n : Int) - 1, -1) := rfl
  rw [Builtin.Slice.sliceApplied, Builtin.Slice.sliceFields]
  refine wpAny_bind (wpAny_bind (wpAny_field e dd (x := vl) rfl (wpAny_bind (wpAny_field e dd (x := vu) rfl (wpAny_bind (wpAny_field e dd (x := vs) rfl (wpAny_pure ?_)))))))
  refine wpAny_bind (HT.slicePart_ ps ?_)
  show wpAny _ _ (if ((-1 : Int) == 0) = true then _ else _) _ _ s
  rw [if_neg (by decide)]
  refine wpAny_bind (HT.slicePart_ pl (wpAny_bind (HT.slicePart_ pu (wpAny_bind (wpAny_pure ?_)))))
  show wpAny _ _ (match Builtin.Slice.sliceAdjust none none (-1) (n : Int) with | (a, b) => pure (a, (-1 : Int), Builtin.Slice.slicePlaces a b (-1))) _ _ s
  rw [z]
  show wpAny _ _ (pure ((n : Int) - 1, (-1 : Int), Builtin.Slice.slicePlaces ((n : Int) - 1) (-1) (-1))) _ _ s
  rw [places_back]
  exact wpAny_pure h
theorem fm_same {α β : Type} {f g : α → Option β} : ∀ l : List α, (∀ x ∈ l, f x = g x) → l.filterMap f = l.filterMap g
  | [], _ => rfl
  | x :: l, h => by rw [List.filterMap_cons, List.filterMap_cons, h x (List.mem_cons_self ..), fm_same l fun y hy => h y (List.mem_cons_of_mem _ hy)]
theorem pick_back (xs : List Value) : ((List.range xs.length).filterMap fun (m : Nat) => xs.toArray[(((xs.length : Int) - 1) + (m : Int) * (-1)).toNat]?) = xs.reverse := by
  have e : ∀ m ∈ List.range xs.length, xs.toArray[(((xs.length : Int) - 1) + (m : Int) * (-1)).toNat]? = xs.reverse[m]? := fun m hm => by
    have l := List.mem_range.mp hm
    rw [List.getElem?_reverse l, show (((xs.length : Int) - 1) + (m : Int) * (-1)).toNat = xs.length - 1 - m by omega]
    exact List.getElem?_toArray
  rw [fm_same _ e, ← List.length_reverse]
  generalize xs.reverse = ys
  clear e
  induction ys with
  | nil => rfl
  | cons y ys ih =>
    rw [List.length_cons, List.range_succ_eq_map, List.filterMap_cons, List.filterMap_map]
    show y :: _ = y :: ys
    congr 1
theorem get_back {t sl : Addr} {items : List Value} {vl vu vs : Value} {Q : Value → Shared → Prop} (ht : IsTup s.heap t items.toArray) (hs : s.heap.IsSliceOf sl vl vu vs) (pl : IsPart vl none) (pu : IsPart vu none) (ps : IsPart vs (some (-1)))
    (hz : items.length ≤ sizeLine) (h : Q (.ref s.heap.objs.size) { s with heap := s.heap.push { cls := .type "tuple", data := .seq items.reverse.toArray } }) : wpAny (model pg wd) A (getItem (.ref t) (.ref sl)) Q E s := by
  have ts : s.TypeIs (.ref sl) "slice" := by
    obtain ⟨o, e, c, _⟩ := hs
    exact ⟨o, e, c⟩
  have sz : sizeOk (.seq items.reverse.toArray) := by
    show items.reverse.toArray.size ≤ sizeLine
    rw [List.size_toArray, List.length_reverse]
    exact hz
  have no : (((items.toArray.size : Int) - 1) == 0 && (-1 : Int) == 1 && items.toArray.size == items.toArray.size) = false := by simp
  have pk : ((List.range items.toArray.size).filterMap fun (m : Nat) => items.toArray[(((items.toArray.size : Int) - 1) + (m : Int) * (-1)).toNat]?).toArray = items.reverse.toArray := by
    rw [List.size_toArray, pick_back]
  unfold getItem
  refine wpAny_holding ?_
  refine wpAny_bind (wpAny_sequenceKey ht.typeIs (by decide) (wpAny_bind (wpAny_callSpecial?_slot (name := Str.ofString "__getitem__") ht.typeIs slot_tuple_getitem (wpAny_call_entry slot_tuple_getitem ht.typeIs entry_tuple_getitem ?_ (args_tuple_getitem _ _)))))
  show wpAny (model pg wd) A.in1 (Builtin.Tuple.tupleItemsOf (.ref t) >>= _) _ _ s
  refine wpAny_bind (tupleItemsOf_ ht (wpAny_bind (wpAny_typeOf ts ?_)))
  rw [if_pos (by decide)]
  refine wpAny_bind (slice_back hs pl pu ps ?_)
  show wpAny _ _ (if (((items.toArray.size : Int) - 1) == 0 && (-1 : Int) == 1 && items.toArray.size == items.toArray.size) = true then _ else _) _ _ s
  rw [if_neg (by rw [no]; decide), pk]
  first
    | exact wpAny_bind (m := Builtin.Tuple.tupleExact _) (wpAny_newObj_type (wpAny_pure ⟨_, rfl, wpAny_pure h⟩) sz)
    | exact wpAny_bind (m := Builtin.Tuple.tupleExact _) (wpAny_newObj_type (wpAny_bind (wpAny_pure (wpAny_pure ⟨_, rfl, wpAny_pure h⟩))) sz)
end
def tRevA (K : PySem.W.Frag) (te : TE) : TE := fun σ H Q => te σ H fun x G => ∃ (a : Addr) (xs : List V), x = .ref a ∧ SqT K G a xs ∧ ∀ p, G p = none → Q (.ref p) (upd G p (.tup xs.reverse))
theorem pe_revA {X : Cx} {e : Expr} {te : TE} {k : Nat} {p1 p2 p3 pos : Pos} (he : PE X e te) : PE X (.Subscript e (.Slice none none (some (.UnaryOp .USub (.Constant (.int 1) k p1) p2)) p3) pos) (tRevA X.K te) := by
  constructor
  intro pins s σ H Q I h
  refine Subscript_ (thn (he.run pins s σ H _ I h) fun v t hv => ?_)
  obtain ⟨x, G, J, rx, a, xs, rfl, hx, q⟩ := hv
  obtain rfl : v = Value.ref a := rx
  refine wpAny_Slice (thn (po_none.run pins t σ G (fun o G' => o = none ∧ G' = G) J ⟨rfl, rfl⟩) fun v1 t1 h1 => ?_)
  obtain ⟨_, _, J1, b1, rfl, rfl⟩ := h1
  refine thn (po_none.run pins t1 σ _ (fun o G' => o = none ∧ G' = _) J1 ⟨rfl, rfl⟩) fun v2 t2 h2 => ?_
  obtain ⟨_, _, J2, b2, rfl, rfl⟩ := h2
  refine thn ((po_some (pe_un un_neg pe_int)).run pins t2 σ _ (fun o G' => o = some (-1) ∧ G' = _) J2 ⟨1, rfl, -1, rfl, rfl, rfl⟩) fun v3 t3 h3 => ?_
  obtain ⟨_, _, J3, b3, rfl, rfl⟩ := h3
  generalize hob : ({ cls := .type "slice", data := .fields #[v1, v2, v3] } : Obj) = ob
  have J4 : Inv X pins σ _ { t3 with heap := t3.heap.push ob } := J3.kept (t' := t3.toks) fun _ _ z => Heap.get?_push_of_some _ z
  obtain ⟨its, r, ht, hz⟩ := J4.tuple hx
  have lr := r.length
  show wpAny (model X.prog X.w) X.A (subscriptTail e _ (.ref a) (.ref t3.heap.objs.size)) (EP X pins σ Q) X.xe { t3 with heap := t3.heap.push ob }
  refine tail_any (ops := [.ref a, .ref t3.heap.objs.size]) ht.typeIs slot_tuple_getitem.lookup ?_ (by with_unfolding_all rfl)
  refine get_back ht (by rw [← hob]; exact Heap.IsSliceOf.new _ v1 v2 v3) b1 b2 b3 (by omega) ?_
  refine ⟨.ref _, _, J4.laid (t' := t3.toks) (o := .tup xs.reverse) (fun _ _ z => Heap.get?_push_of_some _ z) (Nat.le_refl _) ?_, rfl, q _ (J4.hok.fresh (Nat.le_refl _))⟩
  exact ⟨by rw [List.length_reverse]; omega, its.reverse, r.reverse, ⟨_, Heap.get?_push_size _ rfl, rfl, 0, rfl⟩⟩
theorem rev_tup {K : PySem.W.Frag} {M : List Addr} {F H : Hp} {Q : VK} {α : Type} {en : α → PyData} {l : List α} {xs : List V} {a : Addr} (e : Ex F H) (s : SqT K F a xs) (h : DqAll K F xs (l.map en)) (k : Ret M F H (fun F' _ v => Dq K F' v (eV en l.reverse)) Q) :
    ∃ (b : Addr) (ys : List V), V.ref a = V.ref b ∧ SqT K H b ys ∧ ∀ p, H p = none → Q (.ref p) (upd H p (.tup ys.reverse)) :=
  ⟨a, xs, rfl, ex_t e s, fun p hp => by
    have g : Gm M F H (upd F p (.tup xs.reverse)) (upd H p (.tup xs.reverse)) := Gm.new e hp
    exact k _ _ _ g (.tup (st_of upd_same) ((rev_all h).up g.f))⟩
end Wk

set_option Elab.async false
set_option linter.all false
set_option maxRecDepth 100000
set_option maxHeartbeats 3999993
/-! ### except clauses, some with a name, some without -/
namespace Wk
open PySem L2 Evl PySem.Spec PyProof.Rows
def wMix (K : PySem.W.Frag) (n : Nat) (Wout : WX) (D : Ends) : List (Value × Option Nat × SuiteR) → WX
  | [] => Wout
  | (c, some i, ts) :: r => fun cls d σ H => ∃ b, PySem.W.exmOne K cls c = some b ∧ (b = true → ∀ a, H a = none → σ.length = n → ts a cls d (endsAs D i) (σ.set i (some (.ref a))) H) ∧ (b = false → wMix K n Wout D r cls d σ H)
  | (c, none, ts) :: r => fun cls d σ H => ∃ b, PySem.W.exmOne K cls c = some b ∧ (b = true → ∀ a, H a = none → ts a cls d D σ H) ∧ (b = false → wMix K n Wout D r cls d σ H)
inductive HdsX (X : Cx) : List ExceptHandler → List (Value × Option Nat × SuiteR) → Prop
  | nil : HdsX X [] []
  | cons {x n : Str} {c : Value} {i : Nat} {ts : SuiteR} {b₀ : Stmt} {suite : List Stmt} {np q : Pos} {hs : List ExceptHandler} {l : List (Value × Option Nat × SuiteR)} (hc : Names X x c) (hi : X.N[i]? = some n) (hk : X.env.kindOf n = some .local)
      (hsu : ∀ a oe cls d pn, Zc cls d oe → (∃ vs, oe.data = .fields vs) → PSs (X.suite a ((a, oe) :: pn)) (b₀ :: suite) (ts a cls d)) (r : HdsX X hs l) :
      HdsX X (.ExceptHandler (some (.Name x np)) (some n) (b₀ :: suite) q :: hs) ((c, some i, ts) :: l)
  | bare {x : Str} {c : Value} {ts : SuiteR} {b₀ : Stmt} {suite : List Stmt} {np q : Pos} {hs : List ExceptHandler} {l : List (Value × Option Nat × SuiteR)} (hc : Names X x c)
      (hsu : ∀ a oe cls d pn, Zc cls d oe → (∃ vs, oe.data = .fields vs) → PSs (X.suite a ((a, oe) :: pn)) (b₀ :: suite) (ts a cls d)) (r : HdsX X hs l) :
      HdsX X (.ExceptHandler (some (.Name x np)) none (b₀ :: suite) q :: hs) ((c, none, ts) :: l)
section
variable {X : Cx} {pins : List (Addr × Obj)} {σ : L2.St} {H : Hp} {a : Addr} {cls : Value} {d : Option Addr} {s : Shared}
theorem Met.goesX (hs : X.stack = X.env :: X.outer) (hf : X.env.frame = some X.env.locals) (hN : X.N.Nodup) {W : WX} (tk : Takes X W) {D : Ends} : ∀ {hds : List ExceptHandler} {l : List (Value × Option Nat × SuiteR)}, HdsX X hds l → Met X pins σ H a cls d s → wMix X.K X.N.length W D l cls d σ H →
    wpAny (model X.prog X.w) X.A (handleBy (.ref a) X.env hds) (SP X pins D) X.xe s
  | _, _, .nil, m, w => m.none_ hs hf tk w
  | _, _, .cons (i := i) (n := n) (q := q) hc hi hk hsu r, m, w => by
    obtain ⟨b, hb, yes, no⟩ := w
    obtain ⟨oe, vs, o1, o2, o3, o4, o5⟩ := m.obj hf
    have I0 := m.inv
    have ask := PySem.W.exm_one (M := model X.prog X.w) I0.kIn (fun A Q E s k q => wpAny_typeOf_ref (k _ _ o1) (by rw [o2.1]; exact q)) hb
    refine wpAny_handleBy_cons (codeAny_handlers_test (m.asks hf hc (ask.here ?_))) (fun z => nomatch z)
    cases b with
    | false => exact Met.goesX hs hf hN tk r m (no rfl)
    | true =>
      obtain ⟨⟨B, sI, J, nb, up, os, ag, fl⟩, fr⟩ := id m
      refine codeAny_handlers_suite_as (HandSPX.lands_againZ fl fun h4 f4 u4 => ?_)
      have m4 : Met X pins σ H a cls d { s with heap := h4 } := ⟨⟨B, sI, J, nb, up.trans u4, os, ag, f4⟩, fr⟩
      obtain ⟨o, vs, p1, p2, p3, p4, p5⟩ := m4.obj hf
      have ok := I0.ok
      refine store_ok (X := X.suite a ((a, o) :: (X.pn ++ pins))) (v := .ref a) (m4.inv.suite p1 p3 fr p4 p5) hN hi (.inl hk) rfl (fun t St => ?_) (.inr hk)
      refine wpAny_mono ((hsu a o cls d (X.pn ++ pins) p2 ⟨_, p3⟩).run [] t _ H _ St (yes rfl a fr J.len)) (fun fl2 u end2 => ?_) (fun _ _ z => z.elim)
      have leave : ∀ {τ : L2.St} {G : Hp} {Q : Shared → Prop}, Inv (X.suite a ((a, o) :: (X.pn ++ pins))) [] τ G u → (∀ u', Inv X pins (τ.set i none) G u' → Q u') → wpAny (model X.prog X.w) X.A (do bindName X.env n .none; unbindBehindTheSuite X.env n q) (fun _ u' => Q u') X.xe u :=
        fun I6 k => gone_ok (I6.unsuite ok) hN hi hk k
      cases fl2 <;> (first
        | (obtain ⟨τ, G, I6, k⟩ := end2; exact leave I6 fun u' J6 => ⟨_, _, J6, k⟩)
        | (obtain ⟨v, τ, G, I6, r6, k⟩ := end2; exact leave I6 fun u' J6 => ⟨_, _, _, J6, r6, k⟩))
  | _, _, .bare hc hsu r, m, w => by
    obtain ⟨b, hb, yes, no⟩ := w
    obtain ⟨oe, vs, o1, o2, o3, o4, o5⟩ := m.obj hf
    have I0 := m.inv
    have ask := PySem.W.exm_one (M := model X.prog X.w) I0.kIn (fun A Q E s k q => wpAny_typeOf_ref (k _ _ o1) (by rw [o2.1]; exact q)) hb
    refine wpAny_handleBy_cons (codeAny_handlers_test (m.asks hf hc (ask.here ?_))) (fun z => nomatch z)
    cases b with
    | false => exact Met.goesX hs hf hN tk r m (no rfl)
    | true =>
      obtain ⟨⟨B, sI, J, nb, up, os, ag, fl⟩, fr⟩ := id m
      refine codeAny_handlers_suite (HandSPX.lands_againZ fl fun h4 f4 u4 => ?_)
      have m4 : Met X pins σ H a cls d { s with heap := h4 } := ⟨⟨B, sI, J, nb, up.trans u4, os, ag, f4⟩, fr⟩
      obtain ⟨o, vs, p1, p2, p3, p4, p5⟩ := m4.obj hf
      have ok := I0.ok
      refine wpAny_mono ((hsu a o cls d (X.pn ++ pins) p2 ⟨_, p3⟩).run [] _ _ H _ (m4.inv.suite p1 p3 fr p4 p5) (yes rfl a fr)) (fun fl2 u end2 => ?_) (fun _ _ z => z.elim)
      cases fl2 <;> (first
        | (obtain ⟨τ, G, I6, k⟩ := end2; exact ⟨τ, G, I6.unsuite ok, k⟩)
        | (obtain ⟨v, τ, G, I6, r6, k⟩ := end2; exact ⟨v, τ, G, I6.unsuite ok, r6, k⟩))
end
/-- try, its clauses with names or without -/
theorem ps_try_mix {X : Cx} {body : List Stmt} {h₀ : ExceptHandler} {hds : List ExceptHandler} {l : List (Value × Option Nat × SuiteR)} {pos : Pos} {tb : WX → TS} {Wout : WX} (hs : X.stack = X.env :: X.outer) (hf : X.env.frame = some X.env.locals) (hN : X.N.Nodup) (tk : Takes X Wout)
    (hb : ∀ W pn xe, Takes (X.tr pn xe) W → PassesOwn (model X.prog X.w) X.A X.env xe → PSs (X.tr pn xe) body (tb W)) (hh : HdsX X (h₀ :: hds) l) : PS X (.Try body (h₀ :: hds) [] [] pos) (fun D σ H => tb (wMix X.K X.N.length Wout D l) D σ H) := by
  constructor
  intro pins s σ H D I h
  have ok := I.ok
  have fr : X.A.frames = some (X.env :: X.outer) := ok.frames.trans (by rw [hs])
  have B := hb (wMix X.K X.N.length Wout D l) (X.pn ++ pins) (fun e t => wpAny (model X.prog X.w) X.A (noteFrame e X.env) (fun _ t => wpAny (model X.prog X.w) X.A (setFlight e none) (fun _ t => wpAny (model X.prog X.w) X.A (handleBy e X.env (h₀ :: hds)) (SP X pins D) X.xe t) X.xe t) X.xe t) ?_ PassesOwn.looking
  · refine wpAny_Try_except (wpAny_mono (B.run [] s σ H D (I.toTry _) h) (fun f t e => ?_) fun _ _ z => z)
    have e' := sp_out ok e
    cases f with
    | next => exact wpAny_execs_nil e'
    | _ => exact e'
  · rintro u t ⟨a, G, sI, pins', τ, H', cls, d, rfl, J', nb, up, sky, na, os, ag, w⟩
    have J : Inv X pins τ H' sI := J'.ofTry ok
    have sky2 : Sky G (X.env :: X.outer) a (Zc cls d) X.env.locals t.heap := hs ▸ sky
    exact Sky.land Zc.steady fr hf sky2 fun h3 fl u3 => Met.goesX hs hf hN tk hh ⟨⟨G, sI, J, nb, up.trans u3, os, ag, fl⟩, na⟩ w
/-- a lambda handed to an asker, whatever it answers -/
theorem lam_jR {α β : Type} {K : PySem.W.Frag} {F H : Hp} {Q : VK} {t : XK → Hp → VK → Prop} {rX : Er → Mm Xr} {m : Mm β} {rest : Xr → Mm α} {ok : α → Prop} {ex : Er → Prop} (nx : ∀ {e : Er} {p : Xr → Prop} {q : Er → Prop}, Post (rX e) p q → Post (rX e) p (fun _ => False))
    (k : Post ((m.tr rX fun _ => Mm.ok Xr.non).bd rest) ok ex) (hb : ∀ (Q' : VK) (E' : XK), Post m (fun _ => ∀ v F' H', Gm [] F H F' H' → Q' v H') (fun e => RetX [] K F H e E') → t E' H Q')
    (kk : ∀ x v F' H', Gm [] F H F' H' → Dq K F' v (eX x) → Post (rest x) ok ex → Q v H') : TTr K rX t H Q := by
  refine hb _ _ ((post_tr (post_bd k)).mono (fun a h v F' H' g => kk .non .non F' H' g Dq.non h.h) fun e h cls d F' H' g xd => ?_)
  exact ⟨e, F', g.s, xd, (nx h).mono (fun r p v F2 H2 g2 dq => kk r v F2 H2 (g.trans g2) dq p) fun _ z => z⟩
end Wk

set_option Elab.async false
set_option linter.all false
set_option maxRecDepth 100000
set_option maxHeartbeats 3999992
/-! ### tuples of four; a list of three, taken apart -/
namespace Wk
open PySem L2 Evl
def e4 {α β γ δ : Type} (f : α → PyData) (g : β → PyData) (h : γ → PyData) (i : δ → PyData) (p : α × β × γ × δ) : PyData := .tuple [f p.1, g p.2.1, h p.2.2.1, i p.2.2.2]
theorem dp_tup4 {K : PySem.W.Frag} {F : Hp} {v : V} {d e f g : PyData} (h : Dq K F v (.tuple [d, e, f, g])) : ∃ p x y z t, v = .ref p ∧ SqT K F p [x, y, z, t] ∧ Dq K F x d ∧ Dq K F y e ∧ Dq K F z f ∧ Dq K F t g := by
  obtain ⟨p, xs, rfl, hs, a⟩ := dp_tup h
  cases a with | cons h1 a => cases a with | cons h2 a => cases a with | cons h3 a => cases a with | cons h4 a => cases a; exact ⟨p, _, _, _, _, rfl, hs, h1, h2, h3, h4⟩
def un3 {α : Type} : List α → Mm (α × α × α)
  | [a, b, c] => .ok (a, b, c)
  | _ => .bad
theorem post_un3 {α β : Type} {l : List α} {f : α × α × α → Mm β} {r : β → Prop} {q : Er → Prop} (h : Post ((un3 l).bd f) r q) : ∃ a b c, l = [a, b, c] ∧ Post (f (a, b, c)) r q := by
  unfold un3 at h
  split at h
  · exact ⟨_, _, _, rfl, ⟨h.h⟩⟩
  · exact h.h.elim
/-! ### a reader that is made where an exception may leave -/
def spRX (chk : Wt → List (Int × Int) → Int → Mm Rdr) (K : PySem.W.Frag) (C CR : Addr) : Sp := fun vs H Q E => ∃ (F : Hp) (x dx : Addr) (vw vp : V) (w : Wt) (ps : List (Int × Int)) (dg : Int), vs = [.ref x, vw, vp, .int dg] ∧ Ex F H ∧ H x = some (.ins CR dx []) ∧ F x = none ∧
  IsW K C F vw w ∧ Dq K F vp (eV eF ps) ∧ Post (chk w ps dg) (fun st => ∀ F' H' vw' vp' pd pa, Gm [x] F H F' H' → H pd = none → H pa = none → H' x = some (.ins CR dx (rf vw' vp' st.dg pd pa)) → F' x = none → IsW K C F' vw' st.w → Dq K F' vp' (eL eF st.ps) →
    H' pd = some (.dK []) → F' pd = none → H' pa = some (.lst []) → F' pa = none → st.rs = [] → st.ac = [] → Q .non H') (fun e_ => RetX [x] K F H e_ E)
theorem make_RX {K : PySem.W.Frag} {C CR : Addr} {F H : Hp} {Q : VK} {chk : Wt → List (Int × Int) → Int → Mm Rdr} {vw vp : V} {w : Wt} {ps : List (Int × Int)} {dg : Int} {E : XK} (e : Ex F H) (hw : IsW K C F vw w) (hp : Dq K F vp (eV eF ps))
    (k : Post (chk w ps dg) (fun st => ∀ rd pd pa F' H', Gm [] F H F' H' → H pd = none → H pa = none → RdAt K C CR F' H' rd pd pa st → Q (.ref rd) H') (fun e_ => RetX [] K F H e_ E)) :
    ∀ x dx, H x = none → H dx = none → dx ≠ x → spRX chk K C CR (.ref x :: ([vw, vp, .int dg] ++ [])) (upd (upd H dx (.own x)) x (.ins CR dx [])) (fun v H2 => v = .non ∧ Q (.ref x) H2) E := by
  intro x dx hx hdx hne
  have g1 : Gm [] F H (upd F dx (.own x)) (upd H dx (.own x)) := Gm.new e hdx
  have hx1 : (upd H dx (.own x)) x = none := by rw [upd_ne hne.symm]; exact hx
  have g2 : Gm [] (upd F dx (.own x)) (upd H dx (.own x)) (upd F dx (.own x)) (upd (upd H dx (.own x)) x (.ins CR dx [])) := Gm.newM g1.s hx1
  have fx : (upd F dx (.own x)) x = none := none_of_ex g1.s hx1
  refine ⟨_, x, dx, vw, vp, w, ps, dg, rfl, g2.s, upd_same, fx, hw.up g1.f, hp.up g1.f, k.mono (fun st k F' H' vw' vp' pd pa g yd ya h1 h2 h3 h4 h5 h6 h7 h8 r1 r2 => ⟨rfl, ?_⟩) (fun e_ z cls d F' H' g y => z cls d F' H' (Gm.young (g1.trans g2) hx g) y)⟩
  have gg : Gm [] F H F' H' := Gm.young (g1.trans g2) hx g
  have low : ∀ {b : Addr}, (upd (upd H dx (.own x)) x (.ins CR dx [])) b = none → H b = none := fun {b} z => (g1.trans g2).fresh z
  have nx : ∀ {b : Addr} {o : HO}, H' b = some o → o ≠ .ins CR dx (rf vw' vp' st.dg pd pa) → b ≠ x := fun {b o} z n q => by
    rw [q, h1] at z
    exact n (Option.some.inj z).symm
  have g3 := gg.fix h1 h2 hx
  have up : Ex F' (upd F' x (.ins CR dx (rf vw' vp' st.dg pd pa))) := Ex.new h2
  refine k x pd pa _ _ g3 (low yd) (low ya) ⟨⟨dx, vw', vp', upd_same, h3.up up, h4.up up⟩, ⟨[], h5, ?_⟩, (upd_ne (nx h5 fun z => nomatch z)).trans h6, ⟨[], h7, ?_⟩, (upd_ne (nx h7 fun z => nomatch z)).trans h8⟩
  · rw [r1]
    exact .nil
  · rw [r2]
    exact .nil
end Wk

set_option Elab.async false
set_option linter.all false
set_option maxRecDepth 100000
set_option maxHeartbeats 4000000
/-! ### comprehensions whose items may raise -/
namespace Wk
open PySem L2 Evl PySem.Spec PyProof.Rows
section
variable {M : Model} {A : Around} {E : Value → Shared → Prop} {s : Shared} {env : Env}
theorem note_like {e : Value} {e1 e2 : Env} (h : e1.frame = e2.frame) : noteFrame e e1 = noteFrame e e2 := by
  unfold noteFrame PySem.frameOf
  rw [h]
/-- what a comprehension's block comes to, its exceptions told -/
def EndC (M : Model) (A : Around) (E : Value → Shared → Prop) (use : Option (Value → Sem Unit)) (Q : Value → Shared → Prop) (acc : Value) (ce : Env) (r : Result) (t : Shared) : Prop :=
  match r, use with
    | .ok _, none => ∃ m, t.heap.Ns ce.locals m ∧ ∀ h2, Heap.SameBut ce.locals t.heap h2 → Q acc { t with heap := h2 }
    | .ok _, some f => wpAny M A (f acc) (fun _ t2 => ∃ m, t2.heap.Ns ce.locals m ∧ ∀ h2, Heap.SameBut ce.locals t2.heap h2 → Q .none { t2 with heap := h2 }) E t
    | .error x, _ => ∃ m, t.heap.Ns ce.locals m ∧ ∀ h2, Heap.SameBut ce.locals t.heap h2 → wpAny M A (passOn "comprehension.variables-let-go" x ce : Sem Value) Q E { t with heap := h2 }
theorem comp_raising {e : Expr} {scope : Scope} {pos : Pos} {newAcc first : Sem Value} {g : Comprehension} {gs : List Comprehension} {cl : List (Str × Addr)} {Q : Value → Shared → Prop} {use : Option (Value → Sem Unit)}
    (c1 : clausesOf e = g :: gs) (c2 : ∀ v, foldedSetIterable g.iter env v = pure v) (c3 : closureFor scope env = pure cl) (c4 : scope.kind = .function) (c5 : ∀ y ∈ scope.names, y.2 = .local → scope.names.lookup y.1 = some .local)
    (h : wpAny M A first (fun v t1 => wpAny M A (pyIter v) (fun it t2 => wpAny M A newAcc (fun acc t3 => wpAny M A (newFunctionEnv scope env.globals cl [] env.qual none .none (some env))
      (fun ce t4 => codeAny M A (.compStart e 0 it acc { ce with scope := relabel scope env }) (EndC M A E use Q acc { ce with scope := relabel scope env }) t4) E t3) E t2) E t1) E s) :
    wpAny M A (comprehension e scope env pos newAcc false first use) Q E s := by
  have id2 : ∀ (x : Value) (t : Shared), E x t → E x t := fun _ _ z => z
  unfold comprehension
  rw [c3, c1]
  refine wpAny_bind (wpAny_mono h (fun v t1 h1 => ?_) id2)
  refine wpAny_bind (wpAny_standAt ?_)
  refine wpAny_bind (wpAny_of_eq (c2 v) ?_)
  refine wpAny_bind (wpAny_holding (wpAny_mono h1 (fun it t2 h2 => ?_) id2))
  refine wpAny_standIf ?_
  refine wpAny_bind (wpAny_mono h2 (fun acc t3 h3 => ?_) id2)
  refine wpAny_bind (wpAny_pure ?_)
  refine wpAny_bind (wpAny_mono h3 (fun ce t4 h4 => ?_) id2)
  dsimp only
  have loc : ∀ y ∈ (scope.names.filter fun y => (y.2 == .local || y.2 == .cell) && y.1 != (".0" : Str)).reverse, y.2 = .local → Env.kindOf { ce with scope := relabel scope env } y.1 = some .local :=
    fun y hy z => lookup_relabel_local (c5 y (List.mem_filter.mp (List.mem_reverse.mp hy)).1 z)
  have loc2 : ∀ y ∈ (scope.names.filter fun y => (y.2 == .local || y.2 == .cell) && y.1 != (".0" : Str)).reverse.drop 1 ++ (scope.names.filter fun y => (y.2 == .local || y.2 == .cell) && y.1 != (".0" : Str)).reverse.take 1, y.2 = .local →
      Env.kindOf { ce with scope := relabel scope env } y.1 = some .local := fun y hy => loc y ((List.mem_append.mp hy).elim List.mem_of_mem_drop List.mem_of_mem_take)
  refine wpAny_holding (wpAny_bind (wpAny_attempt ?_))
  refine wpAny_holding (wpAny_run (codeAny_mono h4 fun r t5 q => ?_))
  cases r with
  | ok f =>
    cases use with
    | none =>
      obtain ⟨m, hn, q⟩ := q
      refine wpAny_bind (wpAny_holding ?_)
      exact wpAny_comp_letGo (cenv := { ce with scope := relabel scope env }) c4 _ t5 m loc hn fun h6 _ _ b => wpAny_pure (q h6 b)
    | some u =>
      refine wpAny_bind (wpAny_rule (wpAny_bind (wpAny_holding (wpAny_mono q (fun _ t6 q6 => ?_) id2))))
      obtain ⟨m, hn, q6⟩ := q6
      refine wpAny_bind ?_
      exact wpAny_comp_letGo (cenv := { ce with scope := relabel scope env }) c4 _ t6 m loc2 hn fun h7 _ _ b => wpAny_pure (q6 h7 b)
  | error x =>
    have q2 : ∃ m, t5.heap.Ns ce.locals m ∧ ∀ h2, Heap.SameBut ce.locals t5.heap h2 → wpAny M A (passOn "comprehension.variables-let-go" x { ce with scope := relabel scope env } : Sem Value) Q E { t5 with heap := h2 } := by cases use <;> exact q
    obtain ⟨m, hn, q⟩ := q2
    refine wpAny_bind (wpAny_holding ?_)
    exact wpAny_comp_letGo (cenv := { ce with scope := relabel scope env }) c4 _ t5 m loc hn fun h6 _ _ b => q h6 b
end
/-- in a block: behind a call that let an exception out -/
def XB (Y : Cx) (E : XK) (u : Value) (t : Shared) : Prop := ∃ (pins : List (Addr × Obj)) (σ : L2.St) (H : Hp) (s : Shared), Inv Y pins σ H s ∧ L2.CX Y.prog Y.w Y.stack H s E u t
/-- the context of a block whose items may raise -/
abbrev blkB (X : Cx) (s : Shared) (H : Hp) (scope : Scope) (ce : Env) (fp : List Addr) (E : XK) : Cx := { X.blk s H scope ce fp with xe := XB (X.blk s H scope ce fp) E }
section
variable {X : Cx} {pins : List (Addr × Obj)} {σ : L2.St} {H H3 : Hp} {s s3 : Shared} {scope : Scope} {ce : Env} {fp : List Addr} {E : XK}
theorem inv_b (I : Inv (X.blk s3 H3 scope ce fp) pins σ H s) : Inv (blkB X s3 H3 scope ce fp E) pins σ H s :=
  ⟨⟨I.ok.mod, I.ok.kind, I.ok.glob, I.ok.blt, I.ok.above, I.ok.inj, I.ok.has, I.ok.cab, I.ok.hd, I.ok.frames, I.ok.stk, I.ok.exf, I.ok.bs, I.ok.bsz, I.ok.noex, I.ok.exfs, I.ok.funs, I.ok.frf⟩, I.os, I.bare, I.base, I.loc, I.cell, I.free, I.freeC, I.pin, I.hok, I.len⟩
theorem inv_of (I : Inv (blkB X s3 H3 scope ce fp E) pins σ H s) : Inv (X.blk s3 H3 scope ce fp) pins σ H s :=
  ⟨⟨I.ok.mod, I.ok.kind, I.ok.glob, I.ok.blt, I.ok.above, I.ok.inj, I.ok.has, I.ok.cab, I.ok.hd, I.ok.frames, I.ok.stk, I.ok.exf, I.ok.bs, I.ok.bsz, I.ok.noex, I.ok.exfs, I.ok.funs, I.ok.frf⟩, I.os, I.bare, I.base, I.loc, I.cell, I.free, I.freeC, I.pin, I.hok, I.len⟩
theorem passB (σ : L2.St) : PassesAt (L2.CX X.prog X.w) (blkB X s3 H3 scope ce fp E) σ E := fun pins H s _ _ I c => ⟨pins, σ, H, s, inv_of I, c⟩
end
section
variable {X : Cx} {pins : List (Addr × Obj)} {σ : L2.St} {H : Hp} {s t : Shared} {E : XK} {u : Value}
/-- behind the call: the exception flies over a state that is as it must be -/
theorem fly_of (I : Inv X pins σ H s) (c : L2.CX X.prog X.w X.stack H s E u t) : ∃ (a : Addr) (B : Heap) (r : Shared) (H' : Hp) (cls : Value) (d : Option Addr), u = .ref a ∧ Inv X pins σ H' r ∧ (∀ b o, r.heap.get? b = some o → b ∉ frs X.stack → B.get? b = some o) ∧
    r.heap.UpToSlots t.heap ∧ HandSPX.FlyingZ B X.stack a (Zc cls d) t.heap ∧ H' a = none ∧ t.os = r.os ∧ AllBare t.gens ∧ E cls d H' := by
  obtain ⟨a, B, H', cls, d, rfl, fl, hok, ub, na, os, ag, he⟩ := c
  obtain ⟨G, in_, out⟩ := L2.restrict t.heap fun b => (B.get? b).isSome || decide (b ∈ frs X.stack)
  have low : ∀ b o, B.get? b = some o → G.get? b = some o := fun b o z => (in_ b (by simp [z])).trans (fl.1 b o z)
  have fra : ∀ b, b ∈ frs X.stack → G.get? b = t.heap.get? b := fun b z => in_ b (by simp [z])
  have und : ∀ b o, G.get? b = some o → t.heap.get? b = some o ∧ (b ∉ frs X.stack → B.get? b = some o) := by
    intro b o z
    cases w : ((B.get? b).isSome || decide (b ∈ frs X.stack)) with
    | false => exact nomatch (out b w).symm.trans z
    | true =>
      have z2 := (in_ b w).symm.trans z
      refine ⟨z2, fun nb => ?_⟩
      rw [Bool.or_eq_true, decide_eq_true_iff] at w
      obtain ⟨o2, w⟩ := Option.isSome_iff_exists.mp (w.resolve_right nb)
      exact w.trans ((fl.1 b o2 w).symm.trans z2)
  have J : Inv X pins σ H' { s with heap := G, gens := t.gens, drawn := t.drawn, toks := t.toks } := by
    refine I.call (ch := []) ⟨fun b o z n nb _ => low b o (ub.keep b o z n nb), fun b o z n nb _ => ?_, fun b o z n _ => ub.free b o z n, fun b o z _ => ?_, ub.tups, ub.frzs, ub.tbls⟩ (hok.kept low) ag (fun _ z => nomatch z)
    · exact (ub.slot b o z nb).imp fun sl w => (fra b nb).trans w
    · by_cases nb : b ∈ frs X.stack
      · obtain ⟨sl, w⟩ := ub.slot b o z nb
        exact ⟨_, (fra b nb).trans w⟩
      · obtain ⟨o2, w⟩ := ub.there b o z nb
        exact ⟨o2, low b o2 w⟩
  exact ⟨a, B, _, H', cls, d, rfl, J, fun b o z nb => (und b o z).2 nb, Heap.UpToSlots.of_keeps fun b o z => (und b o z).1, fl, na, os, ag, he⟩
theorem frames_less {h B B2 : Heap} (k : ∀ b, B.get? b = none → B2.get? b = none) : ∀ {l : List Env}, h.FunFrames B l → h.FunFrames B2 l
  | [], _ => trivial
  | _ :: _, ⟨k1, ⟨L, o, k2, k3, k4⟩, r⟩ => ⟨k1, ⟨L, o, k2, k _ k3, k4⟩, frames_less k r⟩
theorem frames_but {h h2 B : Heap} {C : Addr} : ∀ {l : List Env}, h.FunFrames B l → (∀ L, L ∈ frs l → L ≠ C) → (∀ b, b ≠ C → h2.get? b = h.get? b) → h2.FunFrames B l
  | [], _, _, _ => trivial
  | e :: l, ⟨k1, ⟨L, o, k2, k3, k4, k5⟩, r⟩, n, k => by
    refine ⟨k1, ⟨L, o, k2, k3, (k L (n L ?_)).trans k4, k5⟩, frames_but r (fun b hb => n b ?_) k⟩
    · simp [frs, k2]
    · unfold frs at hb ⊢
      rw [List.filterMap_cons, k2]
      exact List.mem_cons_of_mem _ hb
/-- the frames on the stack are older than a new object -/
theorem lt_frames {X : Cx} {pins : List (Addr × Obj)} {σ : L2.St} {H : Hp} {s : Shared} {c : Addr} (I : Inv X pins σ H s) (hc : c ∈ frs X.stack) (z : c = s.heap.objs.size) : False := by
  rcases List.mem_cons.mp (I.stkSub c hc) with e | e
  · exact absurd (e ▸ I.lt) (by rw [z]; exact Nat.lt_irrefl _)
  · exact I.nofs (by rw [z]; exact Nat.le_refl _) e
theorem ns_slots {h h2 : Heap} {a : Addr} {m : Str → Option Value} (hn : h.Ns a m) (u : h.UpToSlots h2) : h2.Ns a m := by
  obtain ⟨o, es, ep, h1, h2, h3, h4⟩ := hn
  obtain ⟨sl, z⟩ := u a o h1 (fun vs q => by rw [h2] at q; cases q)
  exact ⟨_, es, ep, z, h2, h3, h4⟩
end
section
variable {X : Cx} {pins : List (Addr × Obj)} {σ : L2.St} {H3 : Hp} {s3 t : Shared} {scope : Scope} {ce : Env} {fp : List Addr} {E : XK} {u : Value}
/-- it leaves the block: noted by the frame, the block's names gone, it is in the def's air -/
theorem blk_out (hs : X.stack = X.env :: X.outer) (hf : X.env.frame = some X.env.locals) (tk : Takes X (fun cls d _ H => E cls d H)) (I3 : Inv X pins σ H3 s3) (f3 : ∀ b ∈ fp, FpOk X pins H3 b) (hC : ce.locals = s3.heap.objs.size) (hfr : ce.frame = X.env.frame)
    (x : XB (X.blk s3 H3 scope ce fp) E u t) {ce2 : Env} (hL2 : ce2.locals = ce.locals) (hfr2 : ce2.frame = X.env.frame) {use : Option (Value → Sem Unit)} {Q : Value → Shared → Prop} {acc : Value} :
    notedBy (model X.prog X.w) X.A ce (fun e t2 => EndC (model X.prog X.w) X.A X.xe use Q acc ce2 (.error e) t2) u t := by
  obtain ⟨pins5, σ5, H5, s5, I5, c⟩ := x
  obtain ⟨a, B, r, H', cls, d, rfl, I6, nb, up, fl, na, os, ag, he⟩ := fly_of I5 c
  have nC : H' ce.locals = none := I6.free
  have I7 : Inv X pins σ H' r := I3.call' (ch := fp) I6.os I6.base I6.hok I6.bare fun b hb => ⟨(f3 b hb).2.2.2.1, (f3 b hb).2.1, (f3 b hb).2.2.2.2.1, (f3 b hb).2.2.2.2.2⟩
  have FC : FpOk X pins H' ce.locals := by rw [hC] at nC ⊢; exact I3.fpOk (Nat.le_refl _) nC
  obtain ⟨m, hn, _⟩ := I6.loc
  have hfrm : X.A.frames = some (X.env :: X.outer) := by rw [← hs]; exact I3.ok.frames
  have fl' : HandSPX.FlyingZ B (X.env :: X.outer) a (Zc cls d) t.heap := by rw [← hs]; exact fl
  unfold notedBy
  rw [note_like hfr]
  refine HandSPX.looks_onZ Zc.steady hfrm hf fl' fun h1 held up1 => ?_
  have hn1 : h1.Ns ce.locals m := ns_slots hn (up.trans up1)
  have w : ∃ m, h1.Ns ce2.locals m ∧ ∀ h2, Heap.SameBut ce2.locals h1 h2 → wpAny (model X.prog X.w) X.A (passOn "comprehension.variables-let-go" (.ref a) ce2 : Sem Value) Q X.xe { t with heap := h2 } := ?_
  · cases use <;> exact w
  refine ⟨m, by rw [hL2]; exact hn1, fun h2 sb => ?_⟩
  rw [hL2] at sb
  obtain ⟨oC, es, ep, dC, dC2, _⟩ := hn1
  obtain ⟨k1, k2, k3, oe, vs, T, oT, ts, q1, q2, q3, q4, q5, q6, q7, q8, q9⟩ := held
  have naC : a ≠ ce.locals := by
    intro z
    rw [z] at q1
    cases q1.symm.trans dC
    cases q3.symm.trans dC2
  have nTC : T ≠ ce.locals := by
    intro z
    rw [z] at q7
    cases q7.symm.trans dC
    cases q8.symm.trans dC2
  obtain ⟨B2, b1, b2⟩ := L2.restrict B fun b => decide (b ≠ ce.locals)
  obtain ⟨G, g1, g2⟩ := L2.restrict r.heap fun b => decide (b ≠ ce.locals)
  have bo : ∀ b o, B2.get? b = some o → b ≠ ce.locals ∧ B.get? b = some o := by
    intro b o z
    by_cases w : b = ce.locals
    · exact nomatch (b2 b (by simp [w])).symm.trans z
    · exact ⟨w, (b1 b (by simp [w])).symm.trans z⟩
  have go : ∀ b o, G.get? b = some o → b ≠ ce.locals ∧ r.heap.get? b = some o := by
    intro b o z
    by_cases w : b = ce.locals
    · exact nomatch (g2 b (by simp [w])).symm.trans z
    · exact ⟨w, (g1 b (by simp [w])).symm.trans z⟩
  have bn : ∀ b, B.get? b = none → B2.get? b = none := by
    intro b z
    by_cases w : b = ce.locals
    · exact b2 b (by simp [w])
    · exact (b1 b (by simp [w])).trans z
  have held2 : HandSPX.HeldZ B2 (X.env :: X.outer) a (Zc cls d) X.env.locals h2 := by
    refine ⟨fun b o z => ?_, bn a k2, ?_, oe, vs, T, oT, ts, (sb.2 a naC).trans q1, q2, q3, q4, bn T q5, q6, (sb.2 T nTC).trans q7, q8, q9⟩
    · obtain ⟨z1, z2⟩ := bo b o z
      exact (sb.2 b z1).trans (k1 b o z2)
    · exact frames_less bn (frames_but k3 (fun L hL z => lt_frames I3 (c := ce.locals) (by rw [hs]; exact z ▸ hL) hC) sb.2)
  have J : Inv X pins σ H' { r with heap := G } := I7.turned (it := ce.locals) (t' := r.toks) (fun b o hb z => (g1 b (by simp [hb])).trans z) FC.1 FC.2.1 FC.2.2.2.1 FC.2.2.2.2.1 FC.2.2.2.2.2
  unfold PySem.passOn
  refine wpAny_bind (wpAny_field ((sb.2 a naC).trans q1) q3 q4 ?_)
  rw [if_neg (show ¬ ((Value.ref T == Value.none) = true) from by simp)]
  have fin : wpAny (model X.prog X.w) X.A (setFlight (.ref a) ce2.frame) (fun _ t2 => wpAny (model X.prog X.w) X.A (throw (.ref a) : Sem Value) Q X.xe t2) X.xe { t with heap := h2 } := by
    rw [hfr2, hf]
    refine HandSPX.setFlight_onZ held2 fun h3 hh up3 => wpAny_throw (tk _ _ ⟨a, B2, _, pins, σ, H', cls, d, rfl, J, fun b o z nf => ?_, fun b o z nf => ?_, .inr (.inr (by rw [hs]; exact hh)), na, os, ag, he⟩)
    · obtain ⟨z1, z2⟩ := go b o z
      exact (b1 b (by simp [z1])).trans (nb b o z2 nf)
    · obtain ⟨z1, z2⟩ := go b o z
      obtain ⟨sl, z3⟩ := (up.trans up1) b o z2 nf
      exact up3 b _ ((sb.2 b z1).trans z3) nf |>.imp fun _ w => w
  first | exact wpAny_bind (wpAny_pure (wpAny_bind fin)) | exact wpAny_bind fin
end
section
variable {X : Cx} {pins : List (Addr × Obj)} {σ : L2.St} {H : Hp} {s : Shared} {Q : VK} {elt tg iter : Expr} {ifs : List Expr} {scope : Scope} {own : List (Str × Nat)} {pos pos' : Pos} {wi : TI} {g : TG} {tt : TT} {te : TE} {E : XK}
theorem lc_coreB (hc : X.calm = true) (hN : X.N.Nodup) (hs : X.stack = X.env :: X.outer) (hf : X.env.frame = some X.env.locals) (tk : Takes X (fun cls d _ H => E cls d H)) (I : Inv X pins σ H s) (hi : PI X tg iter wi) (ok : BlkOk X.N X.env.scope scope own)
    (hg : ∀ s H C cl fp, PG (blkB X s H scope (compEnvC scope cl C X.env) fp E) tg g) (ht : ∀ s H C cl fp, PTs (blkB X s H scope (compEnvC scope cl C X.env) fp E) ifs tt)
    (he : ∀ s H C cl fp, Inv X pins σ H s → (∀ b ∈ fp, FpOk X pins H b) → PE (blkB X s H scope (compEnvC scope cl C X.env) fp E) elt te) (hb : ∀ v, foldedSetIterable iter X.env v = pure v) (h : tLc wi g tt te (own.map (·.2)) σ H Q)
    {use : Option (Value → Sem Unit)} {Qf : Value → Shared → Prop} (hR : ∀ D ce t m H', Inv X pins σ H' t → Q (.ref D) H' → t.heap.Ns ce.locals m → FpOk X pins H' ce.locals → EndC (model X.prog X.w) X.A X.xe use Qf (.ref D) ce (.ok .next) t) :
    wpAny (model X.prog X.w) X.A (comprehension (.ListComp elt [⟨tg, iter, ifs, 0⟩] scope pos) scope X.env pos' (newList []) false (eval iter X.env) use) Qf X.xe s := by
  have frees : ∀ y ∈ scope.names, y.2 = .free → ∃ c, X.env.cells.lookup y.1 = some c := fun y hy z => (ok.free y hy z).elim (fun k => I.ok.has _ (.inl k)) (fun k => I.ok.has _ (.inr k))
  refine comp_raising rfl hb (closure_ok frees) ok.kind (fun y hy z => by rw [ok.uniq y hy, z]) (thn (hi.run pins s σ H _ I h) fun v t1 h1 => thn h1 fun w t2 h2 => ?_)
  obtain ⟨it, fp, tn, J, H2, rfl, I2, T, st2, f2, q⟩ := h2
  refine wpAny_newObj_type (newEnv_comp ?_) (by show 0 ≤ sizeLine; decide)
  generalize hD : t2.heap.objs.size = D
  have free2 : H2 D = none := I2.hok.fresh (Nat.le_of_eq hD)
  obtain ⟨W, ⟨m0, w0⟩, turn⟩ := q D free2
  -- the list that is made
  generalize e3 : ({ t2 with heap := t2.heap.push { cls := .type "list", data := .seq ([] : List Value).toArray } } : Shared) = t3
  have p3 : t3.heap = t2.heap.push { cls := .type "list", data := .seq ([] : List Value).toArray } := by rw [← e3]
  have keep3 : ∀ b o, t2.heap.get? b = some o → t3.heap.get? b = some o := fun b o z => by rw [p3]; exact Heap.get?_push_of_some _ z
  have I3 : Inv X pins σ (upd H2 D (.lst [])) t3 := by
    subst e3
    refine I2.laid (t' := t2.toks) (fun b o z => Heap.get?_push_of_some _ z) (Nat.le_of_eq hD) ⟨Nat.zero_le _, [], 0, .nil, ?_⟩
    subst hD
    exact Heap.get?_push_size _ rfl
  have size2 : ∀ b ∈ fp, b < t2.heap.objs.size := fun b z => let ⟨o, k, _⟩ := T.obj _ _ st2 b z; Heap.lt_size k
  have f3 : ∀ b ∈ fp, FpOk X pins (upd H2 D (.lst [])) b ∧ b < t3.heap.objs.size := by
    intro b z
    have lt := size2 b z
    refine ⟨⟨(upd_ne (by rw [← hD]; exact Nat.ne_of_lt lt)).trans (f2 b z).1, (f2 b z).2⟩, ?_⟩
    rw [p3, Heap.size_push]
    exact Nat.lt_succ_of_lt lt
  have st3 : tn 0 t3.heap := T.keep _ _ _ st2 fun b _ o z => keep3 b o z
  have I4 := block_start I3 ok hN f3
  obtain ⟨cl, hcl⟩ : ∃ cl, cellsFrom (t3.heap.objs.size + 1) scope.names (cloFrom X.env.cells scope.names []) = cl := ⟨_, rfl⟩
  rw [hcl] at I4
  obtain ⟨ce, hce⟩ : ∃ ce, compEnvC scope cl t3.heap.objs.size X.env = ce := ⟨_, rfl⟩
  have pg := hg t3 (upd H2 D (.lst [])) t3.heap.objs.size cl fp
  have pt := ht t3 (upd H2 D (.lst [])) t3.heap.objs.size cl fp
  have pe := he t3 (upd H2 D (.lst [])) t3.heap.objs.size cl fp I3 fun b z => (f3 b z).1
  have ceL : ce.locals = t3.heap.objs.size := by rw [← hce]; rfl
  have ceF : ce.frame = X.env.frame := by rw [← hce]; rfl
  show codeAny _ _ (.compStart (.ListComp elt [⟨tg, iter, ifs, 0⟩] scope pos) 0 (.ref it) (.ref D) (compEnvC scope (cellsFrom (t3.heap.objs.size + 1) scope.names (cloFrom X.env.cells scope.names [])) t3.heap.objs.size X.env))
    (EndC (model X.prog X.w) X.A X.xe use Qf (.ref D) (compEnvC scope (cellsFrom (t3.heap.objs.size + 1) scope.names (cloFrom X.env.cells scope.names [])) t3.heap.objs.size X.env)) { t3 with heap := pushCells (t3.heap.push { cls := .type "dict", data := .dict #[] }) scope.names }
  rw [hcl, hce]
  rw [hce] at I4 pg pt pe
  have nfp : ∀ b ∈ fp, (upd H2 D (.lst [])) b = none := fun b z => (f3 b z).1.1
  obtain ⟨H3, hH3⟩ : ∃ H3, upd H2 D (.lst []) = H3 := ⟨_, rfl⟩
  rw [hH3] at I3 I4 pg pt pe w0 nfp f3
  obtain ⟨t4, ht4⟩ : ∃ t4 : Shared, ({ t3 with heap := pushCells (t3.heap.push { cls := .type "dict", data := .dict #[] }) scope.names } : Shared) = t4 := ⟨_, rfl⟩
  rw [ht4] at I4 ⊢
  have st4 : tn 0 t4.heap := T.keep _ _ _ st3 fun b _ o z => by rw [← ht4]; exact pushCells_keeps _ _ _ _ (Heap.get?_push_of_some _ z)
  have stat : ∀ {σ' : L2.St} {H' : Hp} {t : Shared}, Inv (X.blk t3 H3 scope ce fp) [] σ' H' t → (∀ b ∈ fp, H' b = none) → ∀ b ∈ fp, FpOk (X.blk t3 H3 scope ce fp) [] H' b := fun {σ' H' t} K n b z =>
    ⟨n b z, (K.ok.exf b z).1, K.ok.exfs b z, .inl z, fun x c k => (K.ok.exf b z).2 x c k, fun p hp => nomatch (show p ∈ ([] : List (Addr × Obj)) from hp)⟩
  have err : ∀ (u : Value) (t : Shared), XB (X.blk t3 H3 scope ce fp) E u t → notedBy (model X.prog X.w) X.A ce (fun e t' => EndC (model X.prog X.w) X.A X.xe use Qf (.ref D) ce (.error e) t') u t := fun u t x =>
    blk_out hs hf tk I3 (fun b z => (f3 b z).1) ceL ceF x rfl ceF
  have loop : codeAny (model X.prog X.w) X.A (.compLoop (.ListComp elt [⟨tg, iter, ifs, 0⟩] scope pos) 0 (.ref it) (.ref D) ce) (EndC (model X.prog X.w) X.A X.xe use Qf (.ref D) ce) t4 := by
    refine compLoop_any (fun n t => ∃ i H', Inv (X.blk t3 H3 scope ce fp) [] (wipe σ (own.map (·.2))) H' t ∧ tn i t.heap ∧ (∀ b ∈ fp, H' b = none) ∧ W i n H') ?_ m0 ⟨0, H3, I4, st4, nfp, w0⟩
    rintro n t5 ⟨i, H5, I5, st5, n5, w5⟩
    rcases turn i n H5 w5 with ⟨stop, qq⟩ | ⟨go, Nx, hNx, step⟩
    · refine thnF (T.done (X.blk t3 H3 scope ce fp) rfl rfl rfl hc i [] t5 _ H5 (fun _ _ => False) I5 (stat I5 n5) st5 stop) fun r t6 ⟨hr, I6⟩ => ?_
      subst hr
      have I7 : Inv X pins σ H5 t6 := I3.call' (ch := fp) I6.os I6.base I6.hok I6.bare fun b z => ⟨(f3 b z).1.2.2.2.1, (f3 b z).1.2.1, (f3 b z).1.2.2.2.2.1, (f3 b z).1.2.2.2.2.2⟩
      have nC : H5 ce.locals = none := I6.free
      obtain ⟨m, hn, _⟩ := I6.loc
      exact hR D ce t6 m H5 I7 qq hn (by rw [ceL] at nC ⊢; exact I3.fpOk (Nat.le_refl _) nC)
    · refine thnF (T.item (X.blk t3 H3 scope ce fp) rfl rfl rfl hc i [] t5 _ H5 (fun _ _ => False) I5 (stat I5 n5) st5 go) fun r t6 ⟨u, hr, h6⟩ => ?_
      subst hr
      refine thnF h6 fun _ t7 ⟨x, H7, I7, r7, y7, st7, n7⟩ => ?_
      have P7 := I7.pinned (stat I7 n7) (T.obj _ _ st7)
      refine wpAny_mono (pg.run _ t7 _ H7 x u _ (inv_b P7) r7 (step x H7 y7)) (fun _ t8 ⟨σ8, H8, I8, hw8, q8⟩ => ?_) err
      refine wpAny_mono (pt.run _ t8 σ8 H8 _ I8 q8) (fun b t9 ⟨H9, I9, q9⟩ => ?_) err
      have fin : ∀ {t : Shared} {H' : Hp}, Inv (X.blk t3 H3 scope ce fp) ([] ++ pinsAt fp t7.heap) σ8 H' t → Nx H' → ∃ m, m < n ∧ ∃ i H', Inv (X.blk t3 H3 scope ce fp) [] (wipe σ (own.map (·.2))) H' t ∧ tn i t.heap ∧ (∀ b ∈ fp, H' b = none) ∧ W i m H' := by
        intro t H' K nx
        obtain ⟨m', lt, w'⟩ := hNx H' nx
        have pin : ∀ b ∈ fp, ∀ o, t7.heap.get? b = some o → t.heap.get? b = some o ∧ H' b = none := fun b z o k =>
          let p := K.pin (b, o) (List.mem_append_right _ (List.mem_append_right _ (mem_pinsAt z k)))
          ⟨p.1, p.2.1⟩
        refine ⟨m', lt, i + 1, H', (K.unpinned (pins := [])).weak (by rw [← hw8, wipe_length]) (fun j v k => ?_), T.keep _ _ _ st7 fun b z o k => (pin b z o k).1, fun b z => ?_, w'⟩
        · rw [← hw8] at k
          exact (wipe_some k).1
        · obtain ⟨o, k, _⟩ := T.obj _ _ st7 b z
          exact (pin b z o k).2
      cases b with
      | false => exact fin (inv_of I9) q9
      | true =>
        rw [if_pos rfl] at q9 ⊢
        refine wpAny_mono (pe.run _ t9 σ8 H9 _ I9 q9) (fun z t10 ⟨yv, H10, I10, r10, acc, hD10, hz10, nx⟩ => ?_) err
        exact app_ok (X := X.blk t3 H3 scope ce fp) (inv_of I10) hD10 hz10 r10 fun t11 I11 => fin I11 nx
  exact codeAny_compStart_list loop (T.self X.A 0 _ _ _ st4 loop)
theorem pe_lcB (hc : X.calm = true) (hN : X.N.Nodup) (hs : X.stack = X.env :: X.outer) (hf : X.env.frame = some X.env.locals) (tk : Takes X (fun cls d _ H => E cls d H)) (hi : PI X tg iter wi) (ok : BlkOk X.N X.env.scope scope own)
    (hg : ∀ s H C cl fp, PG (blkB X s H scope (compEnvC scope cl C X.env) fp E) tg g) (ht : ∀ s H C cl fp, PTs (blkB X s H scope (compEnvC scope cl C X.env) fp E) ifs tt)
    (he : ∀ s H C cl fp, PE (blkB X s H scope (compEnvC scope cl C X.env) fp E) elt te) (hb : ∀ v, foldedSetIterable iter X.env v = pure v := by intro _; rfl) :
    PE X (.ListComp elt [⟨tg, iter, ifs, 0⟩] scope pos) (tLc wi g tt te (own.map (·.2))) := by
  refine ⟨fun pins s σ H Q I h => ?_⟩
  rw [eval_ListComp]
  refine lc_coreB hc hN hs hf tk I hi ok hg ht (fun s H C cl fp _ _ => he s H C cl fp) hb h fun D ce t m H' I' q hn f => ⟨m, hn, fun h2 sb => ?_⟩
  obtain ⟨f0, f1, f2, f3, f4, f5⟩ := f
  exact ⟨.ref D, H', I'.turned (t' := t.toks) (fun b o z k => (sb.2 b z).trans k) f0 f1 f3 f4 f5, rfl, q⟩
/-- the items know the state at which the block began -/
def tLcS (wi : TI) (g : TG) (tt : TT) (te : L2.St → TE) (vs : List Nat) : TE := fun σ H Q => tLc wi g tt (te σ) vs σ H Q
theorem pe_lcS {te : L2.St → TE} (hc : X.calm = true) (hN : X.N.Nodup) (hs : X.stack = X.env :: X.outer) (hf : X.env.frame = some X.env.locals) (tk : Takes X (fun cls d _ H => E cls d H)) (hi : PI X tg iter wi) (ok : BlkOk X.N X.env.scope scope own)
    (hg : ∀ s H C cl fp, PG (blkB X s H scope (compEnvC scope cl C X.env) fp E) tg g) (ht : ∀ s H C cl fp, PTs (blkB X s H scope (compEnvC scope cl C X.env) fp E) ifs tt)
    (he : ∀ pins σ s H C cl fp, Inv X pins σ H s → (∀ b ∈ fp, FpOk X pins H b) → PE (blkB X s H scope (compEnvC scope cl C X.env) fp E) elt (te σ)) (hb : ∀ v, foldedSetIterable iter X.env v = pure v := by intro _; rfl) :
    PE X (.ListComp elt [⟨tg, iter, ifs, 0⟩] scope pos) (tLcS wi g tt te (own.map (·.2))) := by
  refine ⟨fun pins s σ H Q I h => ?_⟩
  rw [eval_ListComp]
  refine lc_coreB hc hN hs hf tk I hi ok hg ht (fun s H C cl fp => he pins σ s H C cl fp) hb h fun D ce t m H' I' q hn f => ⟨m, hn, fun h2 sb => ?_⟩
  obtain ⟨f0, f1, f2, f3, f4, f5⟩ := f
  exact ⟨.ref D, H', I'.turned (t' := t.toks) (fun b o z k => (sb.2 b z).trans k) f0 f1 f3 f4 f5, rfl, q⟩
/-- name = [..] on one line, the name a local -/
theorem ps_setLcB {i : Nat} {y : Str} {py spos : Pos} (hc : X.calm = true) (hN : X.N.Nodup) (hy : X.N[i]? = some y) (hyl : X.env.scope.names.lookup y = some .local) (hsw : swapsWith (.ListComp elt [⟨tg, iter, ifs, 0⟩] scope pos) (some (.Name y py)) spos.line X.env = pure true)
    (hs : X.stack = X.env :: X.outer) (hf : X.env.frame = some X.env.locals) (tk : Takes X (fun cls d _ H => E cls d H)) (hi : PI X tg iter wi) (ok : BlkOk X.N X.env.scope scope own)
    (hg : ∀ s H C cl fp, PG (blkB X s H scope (compEnvC scope cl C X.env) fp E) tg g) (ht : ∀ s H C cl fp, PTs (blkB X s H scope (compEnvC scope cl C X.env) fp E) ifs tt)
    (he : ∀ s H C cl fp, PE (blkB X s H scope (compEnvC scope cl C X.env) fp E) elt te) (hb : ∀ v, foldedSetIterable iter X.env v = pure v := by intro _; rfl) :
    PS X (.Assign [.Name y py] (.ListComp elt [⟨tg, iter, ifs, 0⟩] scope pos) spos) (tAsg (tLc wi g tt te (own.map (·.2))) (gName i)) := by
  constructor
  intro pins s σ H D I h
  rw [exec_Assign_Name_used _ _ _ _ hsw]
  refine wpAny_bind (wpAny_standAt ?_)
  refine wpAny_bind ?_
  have h2 : tLc wi g tt te (own.map (·.2)) σ H (fun x H1 => gName i x σ H1 D.nx) := h
  show wpAny _ X.A (do
    let _ ← comprehension (.ListComp elt [⟨tg, iter, ifs, 0⟩] scope pos) scope X.env (firstIterPos [⟨tg, iter, ifs, 0⟩] pos) (newList []) false (eval iter X.env) (some (assign (.Name y py) X.env))) _ _ s
  refine wpAny_bind (wpAny_mono (lc_coreB (Qf := fun _ t => SP X pins D .next t) hc hN hs hf tk I hi ok hg ht (fun s H C cl fp _ _ => he s H C cl fp) hb h2 fun L ce t m H' I' q hn f => ?_) (fun _ t w => wpAny_pure (wpAny_pure w)) fun _ _ z => z)
  show wpAny _ _ (assign (.Name y py) X.env (.ref L)) _ _ _
  obtain ⟨f0, f1, f2, f3, f4, f5⟩ := f
  refine wpAny_assign_Name (store_ok2 (v := V.ref L) I' hN hy (.inl hyl) rfl (fun t2 I2 ⟨a, sb, ha⟩ => ?_) (.inr hyl))
  have ne : ce.locals ≠ a := by
    rcases ha with z | z
    · rw [z]
      exact f1
    · exact fun w => f4 y a z w.symm
  refine ⟨m, hn.sameBut sb ne, fun h3 sb3 => ?_⟩
  exact ⟨_, H', I2.turned (t' := t2.toks) (fun b o z k => (sb3.2 b z).trans k) f0 f1 f3 f4 f5, q⟩
end
section
variable {X : Cx} {H3 : Hp} {s3 : Shared} {scope : Scope} {ce : Env} {fp : List Addr} {E : XK} {x m : Str} {k : Nat} {ps : List Str} {sp : Sp} {C : Addr} {o e : Expr} {es : List Expr} {ta : TE} {t : TA} {p pos apos : Pos}
/-- a def that may raise, called in such a block -/
theorem pe_kxB (G : Kx X.prog X.w X.K X.mg X.base x k ps sp) (hr : Room k X.A) (ha : PA (blkB X s3 H3 scope ce fp E) (e :: es) t) (hg : Gl (blkB X s3 H3 scope ce fp E) x := by rfl) (hdb : (x == ("__debug__" : Str)) = false := by decide)
    (he : starEach (e :: es) ce = (false, eval e ce) :: starEach es ce := by rfl) (hpl : (backTo pos (starEach es ce)).any (·.1) = false := by rfl) : PE (blkB X s3 H3 scope ce fp E) (.Call (.Name x p) (e :: es) [] pos) (tCallS sp (fun _ => E) t) := by
  obtain ⟨f, fd, F, hm, hk, hb⟩ := G.ex
  exact pe_callS (X := blkB X s3 H3 scope ce fp E) F hr hg hm hk hb passB ha hdb he hpl
/-- a method that may raise -/
theorem pe_kxMB {pl : Sem Bool} (G : KxM X.prog X.w X.K X.mg X.base C m k ps sp) (hr : Room k X.A) (he : PE (blkB X s3 H3 scope ce fp E) o ta) (ha : PA (blkB X s3 H3 scope ce fp E) (e :: es) t) (hst : starEach (e :: es) ce = (false, eval e ce) :: starEach es ce := by rfl)
    (hpl : (backTo pos (starEach es ce)).any (·.1) = false := by rfl) (ht : eval (.Call (.Attribute o m apos) (e :: es) [] pos) ce = (do
      let ov ← eval o ce
      standAt apos.atName
      let (f, first) ← holding [ov] (getMethod ov m pl)
      callWith pos f first (backTo pos (starEach (e :: es) ce)) (backToKw pos (keywordEach [] ce))) := by rfl) : PE (blkB X s3 H3 scope ce fp E) (.Call (.Attribute o m apos) (e :: es) [] pos) (tMethX C m sp (fun _ => E) ta t) := by
  obtain ⟨f, fd, M, F, hb⟩ := G.ex
  constructor
  intro pins s σ H Q I h
  refine PySem.W.methodCall_KW (pl := pl) (thn (he.run pins s σ H _ I h) fun u s1 hu => ?_) ht
  obtain ⟨x, G1, I1, rx, a, dx, fs, rfl, ea, l, q⟩ := hu
  obtain rfl : u = Value.ref a := rx
  refine getmeth_ok I1 ea G.cl M l ?_
  refine PySem.W.callWith_K (first := [.ref a]) (h₀ := X.base) I.ok.mod.kin M.kp (thn (ha.run pos pins s1 σ G1 _ I1 q) fun us s2 hu2 => ?_) hst hpl
  obtain ⟨vs, J, I2, r, q2⟩ := hu2
  exact ⟨I2.kIn, run_fnS (X := blkB X s3 H3 scope ce fp E) (E := fun _ => E) (us := .ref a :: us) (vs := .ref a :: vs) F hr hb (passB σ) I2 (.cons rfl r) q2⟩
end
section
variable {K : PySem.W.Frag} {M : List Addr} {F H : Hp} {σ : L2.St} {g : TG} {tt : TT} {te : TE} {vs : List Nat} {α β γ S : Type} {l : List α} {f : S → α → Mm (Option γ × S)} {rest : List γ × S → Mm β} {ok : β → Prop} {ex : Er → Prop} {s0 : S} {J : It} {n : Nat} {G : Hp → Prop} {Y : Nat → Hp → V → Hp → Prop} {Q : VK}
/-- a comprehension: enc: how an element is told -/
theorem lc_mirX (w : Walk J n G Y) (en : γ → PyData) (I : S → Hp → Hp → Prop) (k : Post ((compM f s0 l).bd rest) ok ex) (e : Ex F H) (h0 : I s0 F H) (st : Stab I H) (hn : l.length = n) (hz : l.length ≤ 50000) (hG : ∀ F' H', Gm M F H F' H' → G H')
    (hM : ∀ D, H D = none → D ∉ M)
    (hb : ∀ i s x v F' H' H'', Gm M F H F' H' → I s F' H' → l[i]? = some x → Y i H' v H'' → ∀ Q : Option V → Hp → Prop,
      Post (f s x) (fun o => ∀ F2 H2 v, Gm M F' H' F2 H2 → I o.2 F2 H2 → (match o.1 with
        | some y => ∃ u, v = some u ∧ Dq K F2 u (en y)
        | none => v = none) → Q v H2) ex →
      g v (wipe σ vs) H'' fun σ2 H2 => wipe σ2 vs = wipe σ vs ∧ tt σ2 H2 fun b H3 => if b = true then te σ2 H3 fun y H4 => Q (some y) H4 else Q none H3)
    (kk : ∀ (r : List γ × S) v F' H', Gm M F H F' H' → I r.2 F' H' → Dq K F' v (.list (r.1.map en)) → Post (rest r) ok ex → Q v H') :
    ∀ D, H D = none → ∃ W : Nat → Nat → Hp → Prop, (∃ m, W 0 m (upd H D (.lst []))) ∧ ∀ i m H, W i m H →
      (J.stop i H ∧ Q (.ref D) H) ∨ (J.go i H ∧ ∃ Nx : Hp → Prop, (∀ H', Nx H' → ∃ m', m' < m ∧ W (i + 1) m' H') ∧ ∀ x H', J.yld i H x H' → g x (wipe σ vs) H' fun σ2 H2 => wipe σ2 vs = wipe σ vs ∧ tt σ2 H2 fun b H3 =>
        if b = true then te σ2 H3 fun y H4 => ∃ acc, H4 D = some (.lst acc) ∧ acc.length < sizeLine ∧ Nx (upd H4 D (.lst (acc ++ [y]))) else Nx H3) := by
  intro D hD
  have k0 : Post ((compM f s0 (l.drop 0)).bd fun r => rest ([] ++ r.1, r.2)) ok ex := by simpa using k
  refine lc_it w (fun i H' => ∃ (s : S) (acc : List γ) (xs : List V) (F' : Hp), Gm M F H F' H' ∧ I s F' H' ∧ H' D = some (.lst xs) ∧ F' D = none ∧ DqAll K F' xs (acc.map en) ∧ xs.length ≤ i ∧ Post ((compM f s (l.drop i)).bd fun r => rest (acc ++ r.1, r.2)) ok ex)
    ⟨s0, [], [], F, Gm.newM e hD, st.put s0 F H D _ h0 hD, upd_same, ?_, .nil, Nat.le_refl _, k0⟩ (fun i H' _ ⟨s, acc, xs, F', g', _⟩ => hG F' H' g') ?_ ?_
  · cases q : F D with
    | none => rfl
    | some u => rw [e D u q] at hD; cases hD
  · rintro i v H' H'' hi ⟨s, acc, xs, F', g', i', hL, fL, ha, hlen, k'⟩ y
    have hl : i < l.length := by omega
    have e1 : l.drop i = l[i] :: l.drop (i + 1) := List.drop_eq_getElem_cons hl
    rw [e1] at k'
    have k2 := comp_post k'
    have hDM : D ∉ M := hM D hD
    have z := hb i s l[i] v F' H' H'' g' i' (List.getElem?_eq_getElem hl) y (fun o H4 => match o with
      | some y => ∃ acc', H4 D = some (.lst acc') ∧ acc'.length < sizeLine ∧ ∃ (s : S) (acc : List γ) (xs : List V) (F' : Hp), Gm M F H F' (upd H4 D (.lst (acc' ++ [y]))) ∧ I s F' (upd H4 D (.lst (acc' ++ [y]))) ∧ (upd H4 D (.lst (acc' ++ [y]))) D = some (.lst xs) ∧ F' D = none ∧ DqAll K F' xs (acc.map en) ∧ xs.length ≤ i + 1 ∧ Post ((compM f s (l.drop (i + 1))).bd fun r => rest (acc ++ r.1, r.2)) ok ex
      | none => ∃ (s : S) (acc : List γ) (xs : List V) (F' : Hp), Gm M F H F' H4 ∧ I s F' H4 ∧ H4 D = some (.lst xs) ∧ F' D = none ∧ DqAll K F' xs (acc.map en) ∧ xs.length ≤ i + 1 ∧ Post ((compM f s (l.drop (i + 1))).bd fun r => rest (acc ++ r.1, r.2)) ok ex)
      (k2.mono (fun o q F2 H2 v2 g2 i2 hv => ?_) fun e z => z)
    · exact z
    · obtain ⟨h2L, f2L⟩ := g2.own hDM hL fL
      obtain ⟨o1, o2⟩ := o
      cases o1 with
      | some y =>
        obtain ⟨u, rfl, hu⟩ := hv
        refine ⟨xs, h2L, sz_lt (by omega), o2, acc ++ [y], xs ++ [u], F2, ?_, st.put _ _ _ _ _ i2 hD, upd_same, f2L, ?_, ?_, ?_⟩
        · exact (g'.trans g2).putYoung h2L f2L hD
        · rw [List.map_append]; exact (ha.up g2.f).app (.cons hu .nil)
        · rw [List.length_append, List.length_singleton]; omega
        · simpa using q
      | none =>
        subst hv
        refine ⟨o2, acc, xs, F2, g'.trans g2, i2, h2L, f2L, ha.up g2.f, by omega, ?_⟩
        simpa using q
  · rintro H' ⟨s, acc, xs, F', g', i', hL, fL, ha, hlen, k'⟩
    rw [← hn, List.drop_length] at k'
    have up : Ex F' (upd F' D (.lst xs)) := Ex.new fL
    exact kk (acc, s) _ (upd F' D (.lst xs)) H' (g'.fix hL fL hD) (st.fix _ _ _ _ _ i' hD fL) (.lst upd_same (ha.up up)) (by simpa [compM] using k')
end
section
variable {K : PySem.W.Frag} {M : List Addr} {F H : Hp} {σ : L2.St} {g : TG} {tt : TT} {te : TE} {vs : List Nat} {α β γ S : Type} {l : List α} {ok : β → Prop} {ex : Er → Prop} {s0 : S} {J : It} {R : Hp → V → α → Prop} {Q : VK}
theorem lc_mapX {f : α → Mm γ} {rest : List γ → Mm β} (w : Wlk M F H J l R) (en : γ → PyData) (k : Post ((mapMm f l).bd rest) ok ex) (e : Ex F H) (hz : l.length ≤ 50000) (hM : ∀ D, H D = none → D ∉ M)
    (hb : ∀ x v F1 H1 F2 H2, Gm M F H F1 H1 → Gm [] F1 H1 F2 H2 → R F2 v x → ∀ Q : VK, Post (f x) (fun y => Ret M F1 H1 (fun F3 _ u => Dq K F3 u (en y)) Q) ex →
      g v (wipe σ vs) H2 fun σ2 H3 => wipe σ2 vs = wipe σ vs ∧ te σ2 H3 Q)
    (kk : ∀ (r : List γ) v F' H', Gm M F H F' H' → Dq K F' v (eL en r) → Post (rest r) ok ex → Q v H') (mono : GMon g) :
    ∀ D, H D = none → ∃ W : Nat → Nat → Hp → Prop, (∃ m, W 0 m (upd H D (.lst []))) ∧ ∀ i m H, W i m H →
      (J.stop i H ∧ Q (.ref D) H) ∨ (J.go i H ∧ ∃ Nx : Hp → Prop, (∀ H', Nx H' → ∃ m', m' < m ∧ W (i + 1) m' H') ∧ ∀ x H', J.yld i H x H' → g x (wipe σ vs) H' fun σ2 H2 => wipe σ2 vs = wipe σ vs ∧ tYes σ2 H2 fun b H3 =>
        if b = true then te σ2 H3 fun y H4 => ∃ acc, H4 D = some (.lst acc) ∧ acc.length < sizeLine ∧ Nx (upd H4 D (.lst (acc ++ [y]))) else Nx H3) := by
  obtain ⟨n, G, Y, w, hn, hG, hY⟩ := w.ex
  rw [mapMm_comp, bd_assoc] at k
  refine lc_mirX w en (fun _ _ _ => True) k e trivial stab_t hn hz hG hM (fun i s x v F' H' H'' g' _ hx y Q' k' => ?_) (fun r v F' H' g' _ d k' => kk r.1 v F' H' g' d k')
  obtain ⟨F'', g2, r⟩ := hY i x v F' H' H'' g' hx y
  refine mono _ _ _ _ _ (fun σ2 H3 z => ⟨z.1, ?_⟩) (hb x v F' H' F'' H'' g' g2 r (fun u H4 => Q' (some u) H4) ((post_bd k').mono (fun y q u F3 H3 g3 d => q.h F3 H3 _ g3 trivial ⟨u, rfl, d⟩) fun _ z => z))
  refine tYes_of ?_
  rw [if_pos rfl]
  exact z.2
end
end Wk

set_option Elab.async false
set_option linter.all false
set_option maxRecDepth 100000
set_option maxHeartbeats 4000000
/-! ### lambdas handed to an asker that draw, or that ask a reader -/
namespace Wk
open PySem L2 Evl
open LamX (ExtN)
theorem entsN {β : Type} {en : β → PyData} {K : PySem.W.Frag} {F F' : Hp} (e : ExN F F') {es : List (Int × V)} {m : List (Int × β)} (h : Ents en K F es m) : Ents en K F' es m := by
  induction h with
  | nil => exact .nil
  | cons d _ ih => exact .cons (dqN e _ _ d) ih
theorem rdr_noTab {K : PySem.W.Frag} {C CR : Addr} {F H H1 : Hp} {rd pd pa : Addr} {st : Rdr} (w : RdAt K C CR F H rd pd pa st) (x : ExtN H H1) : RdAt K C CR (noTab F) H1 rd pd pa st := by
  obtain ⟨⟨dx, vw, vp, h1, h2, h3⟩, ⟨es, h4, h5⟩, h6, ⟨xs, h7, h8⟩, h9⟩ := w
  exact ⟨⟨dx, vw, vp, noTab_at h1 (fun ps z => by cases z), isWN (exN_noTab F) h2, dqN (exN_noTab F) _ _ h3⟩, ⟨es, x _ _ h4 (fun ps z => by cases z), entsN (exN_noTab F) h5⟩, noTab_none h6, ⟨xs, x _ _ h7 (fun ps z => by cases z), dqAllN (exN_noTab F) _ _ h8⟩, noTab_none h9⟩
theorem nt_rdr {K : PySem.W.Frag} {C CR : Addr} {F H : Hp} {rd pd pa : Addr} {st : Rdr} {M : List Addr} (w : RdAt K C CR F H rd pd pa st) (r : ∀ m ∈ M, NoTbl H m) : ∀ m ∈ pd :: pa :: M, NoTbl H m := by
  obtain ⟨_, ⟨es, h4, _⟩, _, ⟨xs, h7, _⟩, _⟩ := w
  exact nt_dic h4 (nt_cons h7 r)
def asked (rX : Er → Mm Xr) (o : Option Er × Rw) : Mm (Xr × Rw) := (match o.1 with
  | some e => rX e
  | none => .ok Xr.non).bd fun x => .ok (x, o.2)
theorem lam_jRS {α : Type} {K : PySem.W.Frag} {F H : Hp} {Q : VK} {t : XK → Hp → VK → Prop} {rX : Er → Mm Xr} {sc ra : Addr} {scr : List Int} {m : Mm (Option Er × Rw)} {rest : Xr × Rw → Mm α} {ok : α → Prop} (nx : ∀ {e : Er} {p : Xr → Prop} {q : Er → Prop}, Post (rX e) p q → Post (rX e) p (fun _ => False))
    (k : Post ((m.bd (asked rX)).bd rest) ok (fun _ => False))
    (hb : ∀ (Q' : VK) (E' : XK), Post m (fun o => match o.1 with
      | none => ∀ v F' H', Gm [ra] F H F' H' → RowAt K sc ra scr F' H' o.2 → Q' v H'
      | some e => ∀ cls d F' H', Gm [ra] F H F' H' → XD K F' cls d e → RowAt K sc ra scr F' H' o.2 → E' cls d H') (fun _ => False) → t E' H Q')
    (kk : ∀ x v F' H', Gm [ra] F H F' H' → RowAt K sc ra scr F' H' x.2 → Dq K F' v (eX x.1) → Post (rest x) ok (fun _ => False) → Q v H') : TTr K rX t H Q := by
  refine hb _ _ ((post_bd (post_assoc k)).mono (fun o h => ?_) fun _ z => z)
  obtain ⟨o, st⟩ := o
  cases o with
  | none => exact fun v F' H' g w => kk (.non, st) .non F' H' g w Dq.non h
  | some e =>
    intro cls d F' H' g xd w
    refine ⟨e, F', g.s, xd, (nx (post_bd (post_assoc h))).mono (fun r p v F2 H2 g2 dq => kk (r, st) v F2 H2 (g.trans (g2.weak (by simp))) (w.keep g2) dq p) fun _ z => z⟩
end Wk

set_option Elab.async false
set_option linter.all false
set_option maxRecDepth 100000
set_option maxHeartbeats 4000000
/-! ### lambdas that stand: made here, called later -/
namespace Wk
open PySem L2 Evl PySem.Spec PyProof.Rows LamX
/-- the object at f is a lambda -/
def LamO (f : Addr) (q : Str) (params : Arguments) (body : Expr) (scope : Scope) (cl : List (Str × Addr)) (c : Addr) : HO := .ext fun h => ∃ pm ctv : Value, h.get? f = some (PySem.W.kla_obj "<lambda>" q params body scope cl pm c ctv)
theorem lamO_ne {f c : Addr} {q : Str} {params : Arguments} {body : Expr} {scope : Scope} {cl : List (Str × Addr)} (ps : Array Value) : LamO f q params body scope cl c ≠ .tbl ps := fun z => by
  unfold LamO at z
  cases z
section
variable {X : Cx} {pins : List (Addr × Obj)} {σ : L2.St} {H : Hp} {s : Shared}
theorem inv_lam {q : Str} {params : Arguments} {body : Expr} {scope : Scope} {cl : List (Str × Addr)} {c : Addr} {pm ctv : Value} {t' : Nat} (I : Inv X pins σ H s) :
    Inv X pins σ (upd H s.heap.objs.size (LamO s.heap.objs.size q params body scope cl c)) { s with heap := s.heap.push (PySem.W.kla_obj "<lambda>" q params body scope cl pm c ctv), toks := t' } := by
  have e : (s.heap.push (PySem.W.kla_obj "<lambda>" q params body scope cl pm c ctv)).get? s.heap.objs.size = some (PySem.W.kla_obj "<lambda>" q params body scope cl pm c ctv) := Heap.get?_push_size _ rfl
  exact I.laid (a := s.heap.objs.size) (fun b u e => Heap.get?_push_of_some _ e) (Nat.le_refl _) ⟨⟨pm, ctv, e⟩, ⟨_, e⟩, fun h1 h2 ⟨p, t, z⟩ st => ⟨p, t, st _ z⟩⟩
theorem upd_non {H : Hp} {a b : Addr} {o : HO} (e : upd H a o b = Option.none) : H b = Option.none := by
  by_cases z : b = a
  · rw [z, upd_same] at e
    cases e
  · rwa [upd_ne z] at e
/-- a lambda is made and known -/
theorem lamN_make {T : List (Addr × Str)} {c P : Addr} {params : Arguments} {body : Expr} {scope : Scope} {pos : Pos} {E : Value → Shared → Prop} {Q : Value → Shared → Prop} (I : Inv X pins σ H s) (TB : TabB X.base X.mg c P) (hcode : X.env.code = .ref c)
    (hm : (P, X.env.qual ++ "<lambda>") ∈ T) (hu : ∀ p ∈ T, p.1 = P → p.2 = X.env.qual ++ "<lambda>") (hT : Tabs T H) (hdef : defaultsOf params X.env = ([], [])) (hfree : ∀ y ∈ scope.names, y.2 = .free → ∃ c, X.env.cells.lookup y.1 = some c)
    (h : ∀ (f c' : Addr) (H1 : Hp) (t : Shared), Inv X pins σ H1 t → ExtN H H1 → Tabs T H1 → (∀ b, H1 b = Option.none → H b = Option.none) → H f = none → f ≠ c' →
      H1 f = some (LamO f (X.env.qual ++ "<lambda>") params body scope (cloFrom X.env.cells scope.names []) c') → H1 c' = some (CodeO c' (X.env.qual ++ "<lambda>")) → Q (.ref f) t) :
    wpAny (model X.prog X.w) X.A (eval (.Lambda params body scope pos) X.env) Q E s := by
  obtain ⟨ps, hP, tri, among⟩ := hT _ hm
  have tabP : s.heap.get? P = some { cls := .none, data := .fields ps } := I.hok P _ hP
  refine PySem.W.kla_eval hdef ?_
  cases hc : codeAmong pos ps.toList with
  | some cv =>
    obtain ⟨c', rfl, hco⟩ := among pos cv hc
    refine PySem.W.kla_makeFunctionHit (mg := X.mg) (c := c) (P := P) (ps := ps) (closure_ok hfree) I.ok.glob (I.mod.glob.keeps I.bk) hcode (TB.code.keeps I.bk) tabP tri hc (TB.bm.keeps I.bk) fun ctv h' tk old grown => ?_
    have J : Inv X pins σ H { s with heap := h', toks := tk } := I.kept old
    have free : H h'.objs.size = none := J.hok.fresh (Nat.le_refl _)
    have J2 := inv_lam (q := X.env.qual ++ "<lambda>") (params := params) (body := body) (scope := scope) (cl := cloFrom X.env.cells scope.names []) (c := c') (pm := (X.mg "__name__").getD .none) (ctv := ctv) (t' := tk) J
    exact h h'.objs.size c' _ _ J2 (fun b o e _ => (upd_ne (ne_of_none e free)).trans e) (hT.ext fun b o e => (upd_ne (ne_of_none e free)).trans e) (fun b e => upd_non e) free (ne_of_none hco free).symm upd_same ((upd_ne (ne_of_none hco free)).trans hco)
  | none =>
    refine PySem.W.kla_makeFunction (mg := X.mg) (c := c) (P := P) (ps := ps) (closure_ok hfree) I.ok.glob (I.mod.glob.keeps I.bk) hcode (TB.code.keeps I.bk) tabP tri hc TB.gP (TB.bm.keeps I.bk) fun c' ctv h' tk old ge lt rec tab => ?_
    obtain ⟨c2, oc, vs, t, e2, hoc, hd, hv⟩ := rec
    cases e2
    have nC : H c' = none := I.hok.fresh ge
    have J := inv_table (t' := tk) (more := #[rawInt pos.line, rawInt pos.col, .ref c']) (h' := h') I hP old tab ge ⟨oc, vs, t, hoc, hd, hv⟩
    generalize hH1 : upd (upd H P (.tbl (ps ++ #[rawInt pos.line, rawInt pos.col, .ref c']))) c' (CodeO c' (X.env.qual ++ "<lambda>")) = H1 at J
    have atC : H1 c' = some (CodeO c' (X.env.qual ++ "<lambda>")) := by rw [← hH1, upd_same]
    have atP : H1 P = some (.tbl (ps ++ #[rawInt pos.line, rawInt pos.col, .ref c'])) := by rw [← hH1, upd_ne (ne_of_none hP nC), upd_same]
    have ext1 : ExtN H H1 := fun b o e n => by
      rw [← hH1, upd_ne (ne_of_none e nC), upd_ne (fun z => n ps (Option.some.inj (e.symm.trans (by rw [z]; exact hP))))]
      exact e
    have less : ∀ b, H1 b = none → H b = none := fun b e => by
      rw [← hH1] at e
      exact upd_non (upd_non e)
    have T1 : Tabs T H1 := by
      intro p hp
      by_cases hb : p.1 = P
      · rw [hu p hp hb, hb]
        refine ⟨_, atP, ?_, fun p' cv hcv => ?_⟩
        · rw [Array.toList_append]
          exact PySem.TriplesOk_snoc _ _ _ _ tri
        · rw [Array.toList_append] at hcv
          rcases among_app _ tri hcv with z | z
          · obtain ⟨c0, e1, e2⟩ := among p' cv z
            exact ⟨c0, e1, ext1 _ _ e2 codeO_ne⟩
          · exact ⟨c', z, atC⟩
      · obtain ⟨ps', a1, a2, a3⟩ := hT p hp
        refine ⟨ps', ?_, a2, fun p' cv hcv => ?_⟩
        · rw [← hH1, upd_ne (ne_of_none a1 nC), upd_ne hb]
          exact a1
        · obtain ⟨c0, e1, e2⟩ := a3 p' cv hcv
          exact ⟨c0, e1, ext1 _ _ e2 codeO_ne⟩
    have free : H1 h'.objs.size = none := J.hok.fresh (Nat.le_refl _)
    have J2 := inv_lam (q := X.env.qual ++ "<lambda>") (params := params) (body := body) (scope := scope) (cl := cloFrom X.env.cells scope.names []) (c := c') (pm := (X.mg "__name__").getD .none) (ctv := ctv) (t' := tk) J
    exact h h'.objs.size c' _ _ J2 (fun b o e n => (upd_ne (ne_of_none (ext1 b o e n) free)).trans (ext1 b o e n)) (T1.ext fun b o e => (upd_ne (ne_of_none e free)).trans e) (fun b e => less b (upd_non e)) (less _ free) (ne_of_none atC free).symm upd_same ((upd_ne (ne_of_none atC free)).trans atC)
end
/-- what a lambda of X finds in the cells that it captured -/
structure Caps (X : Cx) (σ : L2.St) (scope : Scope) (H : Hp) (h : Heap) : Prop where
  inj : ∀ y z c, X.env.cells.lookup y = some c → X.env.cells.lookup z = some c → y = z
  cell : ∀ y c, X.env.cells.lookup y = some c → ∃ v, h.IsCell c v
  free : ∀ y c, X.env.cells.lookup y = some c → H c = none
  has : ∀ y ∈ scope.names, y.2 = .free → ∃ c, X.env.cells.lookup y.1 = some c
  look : ∀ (i : Nat) (y : Str) (v : V), X.N[i]? = some y → σ[i]? = some (some v) → scope.names.lookup y = some .free → ∃ c w, X.env.cells.lookup y = some c ∧ h.IsCell c (some w) ∧ RelV v w
  len : σ.length = X.N.length
section
variable {X : Cx} {pins pins3 : List (Addr × Obj)} {σ σ3 : L2.St} {H H3 HZ : Hp} {s s3 s1 : Shared} {scope sco : Scope} {ce : Env} {fp : List Addr}
theorem caps_look {m : Str → Option Value} {y : Str} {w : Value} {h : Heap} (L : LamS X.env.scope scope) (k : scope.names.lookup y = some .free) (q : Look X.env h m y w) : ∃ c, X.env.cells.lookup y = some c ∧ h.IsCell c (some w) := by
  rcases q with ⟨k', _⟩ | ⟨_, c, e, z⟩
  · have k2 : X.env.scope.names.lookup y = some .local := k'
    rcases L.free _ (PySem.mem_of_lookup k) rfl with k3 | k3 <;> rw [k3] at k2 <;> cases k2
  · exact ⟨c, e, z⟩
theorem caps_of (I : Inv X pins σ H s) (L : LamS X.env.scope scope) : Caps X σ scope H s.heap := by
  refine ⟨I.ok.inj, I.cell, I.freeC, L.has I.ok, fun i y v e1 e2 k => ?_, I.len⟩
  obtain ⟨m, _, hl⟩ := I.loc
  obtain ⟨w, r, q⟩ := hl i y v e1 e2 ((L.free _ (PySem.mem_of_lookup k) rfl).elim (fun k => .inr (.inl k)) (fun k => .inr (.inr k)))
  obtain ⟨c, a, b⟩ := caps_look L k q
  exact ⟨c, w, a, b, r⟩
/-- in a block of X -/
theorem caps_blk (I3 : Inv X pins3 σ3 H3 s3) (f3 : ∀ b ∈ fp, FpOk X pins3 H3 b) (L : LamS X.env.scope scope) (J : Inv (X.blk s3 H3 sco ce fp) pins σ H s) : Caps X σ3 scope H s.heap := by
  have C := caps_of I3 L
  have out : ∀ y c, X.env.cells.lookup y = some c → c ∉ fp := fun y c e z => (f3 c z).2.2.2.2.1 y c e rfl
  have keep : ∀ y c v, X.env.cells.lookup y = some c → s3.heap.IsCell c v → s.heap.IsCell c v := by
    intro y c v e ⟨o, ho, hd⟩
    obtain ⟨sl, q⟩ := J.base.any ho (C.free y c e) (out y c e)
    exact ⟨_, q, hd⟩
  refine ⟨C.inj, fun y c e => (C.cell y c e).imp fun v z => keep y c v e z, fun y c e => ?_, C.has, fun i y v e1 e2 k => ?_, C.len⟩
  · obtain ⟨v, o, ho, _⟩ := C.cell y c e
    exact J.base.free c o ho (C.free y c e) (out y c e)
  · obtain ⟨c, w, a, b, r⟩ := C.look i y v e1 e2 k
    exact ⟨c, w, a, keep y c _ a b, r⟩
theorem Caps.un (C : Caps X σ scope H s.heap) {fs : List Addr} (un : Un fs [] H HZ s.heap s1.heap) : Caps X σ scope HZ s1.heap := by
  have keep : ∀ y c v, X.env.cells.lookup y = some c → s.heap.IsCell c v → s1.heap.IsCell c v := by
    intro y c v e ⟨o, ho, hd⟩
    obtain ⟨sl, q⟩ := un.any ho (C.free y c e) (by simp)
    exact ⟨_, q, hd⟩
  refine ⟨C.inj, fun y c e => (C.cell y c e).imp fun v z => keep y c v e z, fun y c e => ?_, C.has, fun i y v e1 e2 k => ?_, C.len⟩
  · obtain ⟨v, o, ho, _⟩ := C.cell y c e
    exact un.free c o ho (C.free y c e) (by simp)
  · obtain ⟨c, w, a, b, r⟩ := C.look i y v e1 e2 k
    exact ⟨c, w, a, keep y c _ a b, r⟩
/-- the lambda's body begins -/
theorem lam_startC {A : Around} {outer : List Env} {E : XK} {f c' : Addr} {h₁ : Heap} {tk : Nat} (C : Caps X σ scope HZ s1.heap) (L : LamS X.env.scope scope) (e0 : Env0 X.prog X.w X.K X.mg X.base A outer s1 HZ) (hd : A.handled = none)
    (hns : h₁.Ns s1.heap.objs.size fun y => ([] : List (Str × Value)).reverse.lookup y) (kp : ∀ b o, s1.heap.get? b = some o → h₁.get? b = some o) : Inv (lamCx X A outer s1 HZ E scope f c') [] σ HZ { s1 with heap := h₁, toks := tk } := by
  have sub : ∀ {y c}, (cloFrom X.env.cells scope.names []).lookup y = some c → X.env.cells.lookup y = some c := by
    intro y c e
    rcases cloFrom_mem (PySem.mem_of_lookup e) with z | ⟨z1, z2⟩
    · cases z
    · obtain ⟨d, hd⟩ := C.has _ z1 rfl
      have hd2 : X.env.cells.lookup y = some d := hd
      rw [z2, hd2]
      rfl
  have there : ∀ {y}, scope.names.lookup y = some .free → ∃ c, (cloFrom X.env.cells scope.names []).lookup y = some c := by
    intro y z
    have z2 : (y, NameKind.free) ∈ scope.names := PySem.mem_of_lookup z
    exact mem_lookup (cloFrom_has (cells := X.env.cells) (acc := []) z2)
  have cells : ∀ {c : Addr} {v : Option Value}, s1.heap.IsCell c v → h₁.IsCell c v := fun ⟨o, ho, hd⟩ => ⟨o, kp _ _ ho, hd⟩
  have none_ : ∀ b : Addr, b ∉ (lamCx X A outer s1 HZ E scope f c').ex := fun b z => nomatch (show b ∈ ([] : List Addr) from z)
  constructor
  · refine ⟨e0.mod, L.kind, rfl, rfl, Nat.le_refl _, fun y z c e1 e2 => C.inj y z c (sub e1) (sub e2), fun y hy => ?_, fun y c z _ => (nomatch (show false = true from z)), fun _ => hd, Around.frames_deeper e0.frames, .inr ⟨rfl, rfl⟩, fun b z => absurd z (none_ b), e0.bs, e0.bsz, fun b _ _ => none_ b, fun b z => absurd z (none_ b), e0.funs, e0.frf⟩
    have hy2 : scope.names.lookup y = some .cell ∨ scope.names.lookup y = some .free := hy
    exact hy2.elim (fun z => absurd rfl (L.own _ (PySem.mem_of_lookup z)).2) there
  · rfl
  · exact e0.bare
  · exact Un.kept kp
  · refine ⟨_, hns, fun i y v e1 e2 e3 => ?_⟩
    have e4 : Vis scope y := e3
    rcases e4 with k | k | k
    · exact absurd rfl (L.own _ (PySem.mem_of_lookup k)).1
    · exact absurd rfl (L.own _ (PySem.mem_of_lookup k)).2
    · obtain ⟨c, w, a, b, r⟩ := C.look i y v e1 e2 k
      obtain ⟨c2, h2⟩ := there k
      rw [Option.some.inj ((sub h2).symm.trans a)] at h2
      exact ⟨w, r, .inr ⟨.inr k, c, h2, cells b⟩⟩
  · intro y c e
    exact (C.cell y c (sub e)).imp fun v z => cells z
  · exact e0.hok.fresh (Nat.le_refl _)
  · exact fun y c e => C.free y c (sub e)
  · exact fun q hq => nomatch (show q ∈ ([] : List (Addr × Obj)) from hq)
  · exact e0.hok.kept kp
  · exact C.len
end
/-! ### called in the def that got it -/
/-- a lambda: its words, and how its body is read -/
structure LSp where
  params : Arguments
  body : Expr
  scope : Scope
  t : XK → TE
structure LOk (X : Cx) (k : Nat) (l : LSp) : Prop where
  names : LamS X.env.scope l.scope
  bind : ∀ (q : Str) (cl : List (Str × Addr)) (pm cv ctv : Value), bindArgs (PySem.W.kla_fn "<lambda>" q l.params l.body l.scope cl pm cv ctv) ⟨[], []⟩ = pure []
  body : ∀ (A : Around) (outer : List Env) (s : Shared) (H : Hp) (E : XK) (f c' : Addr), Room k (A.deeper (lamEnv X l.scope s.heap.objs.size f c')) → PE (lamCx X A outer s H E l.scope f c') l.body (l.t E)
abbrev LSp.at (l : LSp) (X : Cx) (f c' : Addr) : HO := LamO f (X.env.qual ++ "<lambda>") l.params l.body l.scope (cloFrom X.env.cells l.scope.names []) c'
section
variable {X : Cx} {σ : L2.St} {H : Hp} {s : Shared}
/-- it runs, at a state where it is known -/
theorem lam_runs {A : Around} {outer : List Env} {f c' : Addr} {l : LSp} {k : Nat} {E : XK} {Q : VK} (C : Caps X σ l.scope H s.heap) (O : LOk X k l) (e0 : Env0 X.prog X.w X.K X.mg X.base A outer s H) (hr : Room (k + 1) A) (hf : H f = some (l.at X f c')) (hc : H c' = some (CodeO c' (X.env.qual ++ "<lambda>"))) (h : l.t E σ H Q) :
    codeAny (model X.prog X.w) A (.call (.ref f) ⟨[], []⟩) (CR (L2.CX X.prog X.w) outer X.prog X.w H s Q E) s := by
  obtain ⟨⟨pm, ctv, of1⟩, _, _⟩ := e0.hok f _ hf
  obtain ⟨⟨oc, vs, t, hoc, hdc, hvc⟩, _, _⟩ := e0.hok c' _ hc
  have L := O.names
  have lim : s.heap.NoLimit := e0.mod.nolimit.keeps fun b o e => (e0.bs b o e).1
  refine PySem.W.kla_callFunE hr.depth of1 rfl L.co L.gen rfl ⟨c', oc, vs, t, rfl, hoc, hdc, hvc⟩ ?_
  rw [O.bind]
  refine wpAny_pure (wpAny_newFunctionEnv (fun y hy => (L.own y hy).2) (fun y hy => absurd hy (by simp)) (fun h₁ hns hsb => ⟨lim.fresh _ hsb, ?_⟩) L.kind)
  show codeAny _ _ (.expr l.body (lamEnv X l.scope s.heap.objs.size f c')) _ _
  have kp : ∀ b o, s.heap.get? b = some o → h₁.get? b = some o := fun b o e => hsb.extBut b o (Nat.ne_of_lt (Heap.lt_size e)) (Heap.get?_push_of_some _ e)
  have J := lam_startC (f := f) (c' := c') (E := E) (tk := s.toks + ([] : List (Str × Value)).length) C L e0 hr.hd hns kp
  refine PySem.W.kla_codeExpr (wpAny_mono ((O.body _ _ s H E f c' (hr.deeper _)).run [] _ _ H Q J h) (fun v t2 hq => ?_) fun _ _ hq => hq)
  obtain ⟨w, H2, J2, rv, q⟩ := hq
  exact ⟨w, H2, J2.os, J2.bare, J2.base, J2.hok, rv, q⟩
theorem pe_actN {CXg : CXT} {Eg : XK} {Ng : List Str} {qg : Str} {sg : Scope} {g f c' : Addr} {cdg : Value} {l : LSp} {k i : Nat} {a : Str} {pn : List (Addr × Obj)} {xe : Value → Shared → Prop} {W : WX} {E : XK} {p1 p2 : Pos} (C : Caps X σ l.scope H s.heap) (O : LOk X k l)
    (tk : Takes ((cxOf CXg X.prog X.w X.K X.mg X.base Ng qg sg g cdg X.A X.stack s H Eg).tr pn xe) W) (hW : ∀ cls d σ' H', E cls d H' → W cls d σ' H') (hr : Room (k + 1) (X.A.deeper (envOfC qg sg s.heap.objs.size g cdg))) (hN : Ng[i]? = some a) (hv : Vis sg a)
    (hd : (a == ("__debug__" : Str)) = false := by decide) (hcd : (a == ("__classdict__" : Str)) = false := by decide) :
    PE ((cxOf CXg X.prog X.w X.K X.mg X.base Ng qg sg g cdg X.A X.stack s H Eg).tr pn xe) (.Call (.Name a p1) [] [] p2)
      (fun σZ HZ Q => σZ[i]? = some (some (.ref f)) ∧ HZ c' = some (CodeO c' (X.env.qual ++ "<lambda>")) ∧ HZ f = some (l.at X f c') ∧ l.t E σ HZ Q) := by
  constructor
  intro pinsZ sZ σZ HZ Q IZ h
  obtain ⟨hs, hc, hf, ht⟩ := h
  refine wpAny_Call_Name_kw (thn ((pe_var (pos := p1) (i := i) hN hv hd hcd).run pinsZ sZ σZ HZ (fun v H1 => v = .ref f ∧ H1 = HZ) IZ ⟨.ref f, hs, rfl, rfl⟩) fun u s1 ⟨v, H1, I1, r1, q1⟩ => ?_)
  obtain ⟨rfl, rfl⟩ := q1
  obtain rfl : u = Value.ref f := r1
  obtain ⟨⟨pm, ctv, of1⟩, _, _⟩ := I1.hok f _ hf
  refine PySem.W.callWith_F0 ⟨_, _, _, _, of1⟩ ?_
  have rc := lam_runs (f := f) (C.un I1.base) O I1.env0 hr hf hc ht
  have hx : Passes (L2.CX X.prog X.w) ((cxOf CXg X.prog X.w X.K X.mg X.base Ng qg sg g cdg X.A X.stack s H Eg).tr pn xe) E := passes_call tk hW
  refine wpAny_call (codeAny_mono rc fun r s' hq => ?_)
  cases r with
  | error e => exact hx pinsZ σZ H1 s1 e s' I1 hq
  | ok fl =>
    cases fl with
    | ret u => exact I1.after hq
    | next => exact hq.elim
    | brk => exact hq.elim
    | cont => exact hq.elim
/-- X's machine with another frame -/
abbrev alt (X : Cx) (s0 : Shared) (H0 : Hp) (env : Env) (outer : List Env) (ex : List Addr) (fn : Str → Bool) (calm : Bool) (pn : List (Addr × Obj)) (xe : Value → Shared → Prop) : Cx := { X with s_0 := s0, H_0 := H0, env := env, outer := outer, ex := ex, fn := fn, calm := calm, pn := pn, xe := xe }
/-- which of some lambdas of X the slot j holds -/
def tAskN (X : Cx) (j : Nat) (ls : List LSp) (TT : (XK → Hp → VK → Prop) → Hp → VK → Prop) (sel : L2.St → L2.St) : TE := fun σ H Q => ∃ l ∈ ls, ∃ f c', σ[j]? = some (some (.ref f)) ∧ H f = some (l.at X f c') ∧ H c' = some (CodeO c' (X.env.qual ++ "<lambda>")) ∧
  TT (fun E H' Q' => H' f = some (l.at X f c') ∧ l.t E (sel σ) H' Q') H Q
theorem pe_askN {s0 : Shared} {H0 : Hp} {env : Env} {outer : List Env} {ex : List Addr} {fn : Str → Bool} {calm : Bool} {pn : List (Addr × Obj)} {xe : Value → Shared → Prop} {TT : (XK → Hp → VK → Prop) → Hp → VK → Prop} {x a n : Str} {k j : Nat} {pg : Arguments} {bg : List Stmt} {sg : Scope} {Ng : List Str} {ls : List LSp}
    {sel : L2.St → L2.St} {p np pos : Pos} (G : Ask X.K X.mg x a pg bg sg) (give : ∀ g cdv, GivesTo X Ng x sg g cdv bg a (X.env.qual ++ "<lambda>") TT) (Sg : FnScope Ng [a] sg) (hNg : Ng[0]? = some a) (hva : Vis sg a) (hr : Room (k + 2) X.A)
    (caps : ∀ pins σ H s, Inv (alt X s0 H0 env outer ex fn calm pn xe) pins σ H s → ∀ l ∈ ls, Caps X (sel σ) l.scope H s.heap) (ok : ∀ l ∈ ls, LOk X k l) (hg : Gl (alt X s0 H0 env outer ex fn calm pn xe) x) (hj : X.N[j]? = some n) (hvn : Vis env.scope n)
    (hdb : (x == ("__debug__" : Str)) = false := by decide) (hd : (a == ("__debug__" : Str)) = false := by decide) (hcd : (a == ("__classdict__" : Str)) = false := by decide) (hdn : (n == ("__debug__" : Str)) = false := by decide) (hcn : (n == ("__classdict__" : Str)) = false := by decide)
    (he : starEach [.Name n np] env = [(false, eval (.Name n np) env)] := by rfl) : PE (alt X s0 H0 env outer ex fn calm pn xe) (.Call (.Name x p) [.Name n np] [] pos) (tAskN X j ls TT sel) := by
  obtain ⟨g, oc, od, dV, kV, doc, pm, an, cdv, ct, osl, hm, kp, lk, hcg, hb⟩ := G.ex
  constructor
  intro pins s σ H Q I h
  obtain ⟨l, hl, f, c', hs, hf, hc, h⟩ := h
  refine wpAny_Call_Name_kw (ld_glob I hg hm ?_ hdb)
  have pa : PA (alt X s0 H0 env outer ex fn calm pn xe) [.Name n np] _ := pa_cons (pe_var (pos := np) (i := j) hj hvn hdn hcn) pa_nil
  refine PySem.W.callWith_K (h₀ := X.base) I.ok.mod.kin kp (thn (pa.run pos pins s σ H (fun vs H1 => vs = [.ref f] ∧ H1 = H) I ⟨_, hs, rfl, rfl⟩) fun us s1 hu => ?_) (by rfl) (by rfl)
  obtain ⟨vs, H1, I1, r, rfl, rfl⟩ := hu
  refine ⟨I1.kIn, ?_⟩
  obtain rfl := Vals.ref1 r
  have rc : codeAny (model X.prog X.w) X.A (.call (.ref g) ⟨[.ref f], []⟩) (CR C8.CX0 X.stack X.prog X.w H1 s1 Q C8.E0) s1 := by
    refine run_ofS (N := Ng) (ps := [a]) (us := [.ref f]) (vs := [.ref f]) lk hcg Sg hr I1.env0 (hb s1 [.ref f] I1.kIn rfl) (.cons rfl .nil) rfl fun hr' => ?_
    obtain ⟨t', ht', hq'⟩ := give g cdv f c' s1 H1 Q (fun E H' Q' => H' f = some (l.at X f c') ∧ l.t E (sel σ) H' Q') (fun W pn2 xe2 E p1 p2 tk hW => pe_actN (i := 0) (caps _ _ _ _ I1 l hl) (ok l hl) tk hW hr' hNg hva hd hcd) hc h
    exact ⟨t', ht'.nox, hq'⟩
  refine wpAny_call (codeAny_mono rc fun r s2 hq => ?_)
  cases r with
  | error e => exact (show False from hq).elim
  | ok fl =>
    cases fl with
    | ret u => exact I1.after hq
    | next => exact hq.elim
    | brk => exact hq.elim
    | cont => exact hq.elim
/-- a lambda is made: it stands from now on -/
def tLamN (X : Cx) (T : List (Addr × Str)) (l : LSp) : TE := fun _ H Q => Tabs T H ∧ ∀ (f c' : Addr) (H1 : Hp), ExtN H H1 → Tabs T H1 → (∀ b, H1 b = Option.none → H b = Option.none) → H f = none → f ≠ c' → H1 f = some (l.at X f c') → H1 c' = some (CodeO c' (X.env.qual ++ "<lambda>")) → Q (.ref f) H1
theorem pe_lamN {T : List (Addr × Str)} {c P : Addr} {l : LSp} {pos : Pos} (TB : TabB X.base X.mg c P) (hcode : X.env.code = .ref c) (hm : (P, X.env.qual ++ "<lambda>") ∈ T) (hu : ∀ p ∈ T, p.1 = P → p.2 = X.env.qual ++ "<lambda>") (L : LamS X.env.scope l.scope) (hdef : defaultsOf l.params X.env = ([], [])) :
    PE X (.Lambda l.params l.body l.scope pos) (tLamN X T l) := by
  constructor
  intro pins s σ H Q I h
  exact lamN_make I TB hcode hm hu h.1 hdef (L.has I.ok) fun f c' H1 t I1 e T1 less free ne hf hc => ⟨.ref f, H1, I1, rfl, h.2 f c' H1 e T1 less free ne hf hc⟩
end
end Wk

set_option Elab.async false
set_option linter.all false
set_option maxRecDepth 100000
set_option maxHeartbeats 4000000
/-! ### several defs that make lambdas; lists of lambdas -/
namespace Wk
open PySem L2 Evl PyProof.Rows LamX
theorem pe_askT {X : Cx} {T : List (Addr × Str)} {TT : (XK → Hp → VK → Prop) → Hp → VK → Prop} {x a : Str} {c P : Addr} {k : Nat} {pg : Arguments} {bg : List Stmt} {sg : Scope} {Ng : List Str} {body : Expr} {scope : Scope} {t : XK → TE} {p lpos pos : Pos} {params : Arguments} {sc : Scope} (G : Ask X.K X.mg x a pg bg sg)
    (hm : (P, X.env.qual ++ "<lambda>") ∈ T) (hu : ∀ p ∈ T, p.1 = P → p.2 = X.env.qual ++ "<lambda>")
    (give : ∀ g cdv, GivesTo X Ng x sg g cdv bg a (X.env.qual ++ "<lambda>") TT) (TB : TabB X.base X.mg c P) (hr : Room (k + 2) X.A) (Sg : FnScope Ng [a] sg) (hcode : X.env.code = .ref c) (hg : Gl X x) (hNg : Ng[0]? = some a) (hva : Vis sg a) (hsc : X.env.scope = sc) (L : lamSB sc scope = true) (hdef : defaultsOf params X.env = ([], []))
    (hbind : ∀ (q : Str) (cl : List (Str × Addr)) (pm cv ctv : Value), bindArgs (PySem.W.kla_fn "<lambda>" q params body scope cl pm cv ctv) ⟨[], []⟩ = pure [])
    (hbody : ∀ (A : Around) (outer : List Env) (s : Shared) (H : Hp) (E : XK) (f c' : Addr), Room k (A.deeper (lamEnv X scope s.heap.objs.size f c')) → PE (lamCx X A outer s H E scope f c') body (t E))
    (hdb : (x == ("__debug__" : Str)) = false := by decide) (hd : (a == ("__debug__" : Str)) = false := by decide) (hcd : (a == ("__classdict__" : Str)) = false := by decide) :
    PE X (.Call (.Name x p) [.Lambda params body scope lpos] [] pos) (tLam T TT t) := by
  obtain ⟨g, oc, od, dV, kV, doc, pm, an, cdv, ct, osl, hm2, kp, lk, hcg, hb⟩ := G.ex
  exact pe_lamcall hg hm2 kp lk hcg hb Sg hNg hva (give g cdv) TB hcode hm hu hr (lamS_by (hsc ▸ L)) hdef hbind hbody hdb hd hcd
abbrev qlam (n : Str) : Str := (envOfC n default 0 0 Value.none).qual ++ "<lambda>"
theorem tabs2 {P P' : Addr} {q q' : Str} {H H0 : Hp} (h : H P = some (.tbl #[])) (h' : H P' = some (.tbl #[])) (e : Ex H H0) : Tabs [(P, q), (P', q')] H0 := by
  intro p hp
  rcases List.mem_cons.mp hp with rfl | hp
  · exact TabS.nil (e _ _ h)
  · rw [List.mem_singleton.mp hp]
    exact TabS.nil (e _ _ h')
theorem u2a {P P' : Addr} {q q' : Str} (n : P ≠ P') : ∀ p ∈ [(P, q), (P', q')], p.1 = P → p.2 = q := by
  intro p hp z
  rcases List.mem_cons.mp hp with rfl | hp
  · rfl
  · rw [List.mem_singleton.mp hp] at z
    exact absurd z.symm n
theorem u2b {P P' : Addr} {q q' : Str} (n : P ≠ P') : ∀ p ∈ [(P, q), (P', q')], p.1 = P' → p.2 = q' := by
  intro p hp z
  rcases List.mem_cons.mp hp with rfl | hp
  · exact absurd z n
  · rw [List.mem_singleton.mp hp]
/-! ### what stands when a lambda has been made -/
structure LamStep (F H F1 H1 : Hp) : Prop where
  s : Ex F1 H1
  f : ExN F F1
  l : ∀ p xs, H p = some (.lst xs) → F p = none → H1 p = some (.lst xs) ∧ F1 p = none
  d : ∀ p es, H p = some (.dK es) → F p = none → H1 p = some (.dK es) ∧ F1 p = none
theorem lam_new {X : Cx} {l : LSp} {q : Str} {F H H1 : Hp} {f c' : Addr} (e : Ex F H) (x : ExtN H H1) (free : H f = none) (ne : f ≠ c') (hf : H1 f = some (l.at X f c')) (hc : H1 c' = some (CodeO c' q)) :
    ∃ F1, LamStep F H F1 H1 ∧ F1 f = some (l.at X f c') ∧ F1 c' = some (CodeO c' q) := by
  have at_ : ∀ b, b ≠ f → b ≠ c' → upd (upd (noTab F) c' (CodeO c' q)) f (l.at X f c') b = noTab F b := fun b h1 h2 => (upd_ne h1).trans (upd_ne h2)
  have stay : ∀ p o, H p = some o → (∀ ps, o ≠ .tbl ps) → (∀ φ, o ≠ .ext φ) → F p = none → H1 p = some o ∧ upd (upd (noTab F) c' (CodeO c' q)) f (l.at X f c') p = none := by
    intro p o h n1 n2 h2
    have h3 := x p o h n1
    refine ⟨h3, (at_ p (ne_of_none h free) fun z => ?_).trans (noTab_none h2)⟩
    rw [z] at h3
    exact n2 _ (Option.some.inj (h3.symm.trans hc))
  refine ⟨upd (upd (noTab F) c' (CodeO c' q)) f (l.at X f c'), ⟨fun b o h => ?_, fun b o h n => ?_, fun p xs h h2 => stay p _ h (fun ps z => by cases z) (fun φ z => by cases z) h2, fun p es h h2 => stay p _ h (fun ps z => by cases z) (fun φ z => by cases z) h2⟩, upd_same, (upd_ne ne.symm).trans upd_same⟩
  · by_cases z : b = f
    · rw [z, upd_same] at h
      rw [z, hf]
      exact h
    · by_cases w : b = c'
      · rw [w, upd_ne ne.symm, upd_same] at h
        rw [w, hc]
        exact h
      · rw [at_ b z w] at h
        exact noTab_ext e x b o h
  · have h2 := e b o h
    by_cases w : b = c'
    · rw [w, upd_ne ne.symm, upd_same]
      rw [w] at h2
      exact hc.symm.trans (x _ _ h2 n)
    · exact (at_ b (ne_of_none h2 free) w).trans (noTab_at h n)
section
variable {K : PySem.W.Frag} {F H F1 H1 : Hp}
theorem LamStep.row {sc ra : Addr} {scr : List Int} {st : Rw} (x : LamStep F H F1 H1) (w : RowAt K sc ra scr F H st) : RowAt K sc ra scr F1 H1 st := by
  obtain ⟨h1, h2⟩ := x.l _ _ w.1 w.2.1
  exact ⟨h1, h2, exN_l x.f w.2.2⟩
theorem LamStep.rdr {C CR : Addr} {rd pd pa : Addr} {st : Rdr} (x : LamStep F H F1 H1) (w : RdAt K C CR F H rd pd pa st) : RdAt K C CR F1 H1 rd pd pa st := by
  obtain ⟨⟨dx, vw, vp, h1, h2, h3⟩, ⟨es, h4, h5⟩, h6, ⟨xs, h7, h8⟩, h9⟩ := w
  obtain ⟨a1, a2⟩ := x.d _ _ h4 h6
  obtain ⟨b1, b2⟩ := x.l _ _ h7 h9
  exact ⟨⟨dx, vw, vp, x.f _ _ h1 (fun ps z => by cases z), isWN x.f h2, dqN x.f _ _ h3⟩, ⟨es, a1, entsN x.f h5⟩, a2, ⟨xs, b1, dqAllN x.f _ _ h8⟩, b2⟩
end
/-! ### a list of lambdas -/
inductive LamsAt (X : Cx) (q : Str) (F : Hp) : List V → List LSp → Prop
  | nil : LamsAt X q F [] []
  | cons {f c' : Addr} {l : LSp} {vs : List V} {ls : List LSp} : F f = some (l.at X f c') → F c' = some (CodeO c' q) → LamsAt X q F vs ls → LamsAt X q F (.ref f :: vs) (l :: ls)
section
variable {X : Cx} {q : Str} {F F' H : Hp} {vs us : List V} {ls ms : List LSp} {M : List Addr} {K : PySem.W.Frag} {a : Addr}
theorem LamsAt.up (h : LamsAt X q F vs ls) (e : Ex F F') : LamsAt X q F' vs ls := by
  induction h with
  | nil => exact .nil
  | cons h1 h2 _ ih => exact .cons (e _ _ h1) (e _ _ h2) ih
theorem LamsAt.upN (h : LamsAt X q F vs ls) (e : ExN F F') : LamsAt X q F' vs ls := by
  induction h with
  | nil => exact .nil
  | cons h1 h2 _ ih => exact .cons (e _ _ h1 fun ps => lamO_ne ps) (e _ _ h2 fun ps => codeO_ne ps) ih
theorem LamsAt.app (h : LamsAt X q F vs ls) (h2 : LamsAt X q F us ms) : LamsAt X q F (vs ++ us) (ls ++ ms) := by
  induction h with
  | nil => exact h2
  | cons a b _ ih => exact .cons a b ih
theorem LamsAt.len (h : LamsAt X q F vs ls) : vs.length = ls.length := by
  induction h with
  | nil => rfl
  | cons _ _ _ ih => rw [List.length_cons, List.length_cons, ih]
theorem LamsAt.at_ (h : LamsAt X q F vs ls) {i : Nat} {v : V} (hv : vs[i]? = some v) : ∃ f c' l, v = .ref f ∧ ls[i]? = some l ∧ F f = some (l.at X f c') ∧ F c' = some (CodeO c' q) := by
  induction h generalizing i with
  | nil => cases hv
  | cons a b _ ih =>
    cases i with
    | zero => exact ⟨_, _, _, (Option.some.inj hv).symm, rfl, a, b⟩
    | succ i => exact ih (i := i) hv
/-- they are walked: which one it is, told by its place -/
theorem wlk_lams (e : Ex F H) (h : F a = some (.lst vs)) (da : LamsAt X q F vs ls) : Wlk M F H (Itl K a) (List.range ls.length) (fun F v i => ∃ f c' l, v = .ref f ∧ ls[i]? = some l ∧ F f = some (l.at X f c') ∧ F c' = some (CodeO c' q)) := by
  refine ⟨_, _, _, walk_list (K := K) (a := a) (xs := vs), by rw [da.len, List.length_range], fun F' H' g' => sq_of (g'.s _ _ (g'.f _ _ h)), fun i x v F' H' H'' g' hx y => ?_⟩
  obtain ⟨rfl, hv⟩ := y
  have hi : x = i := by
    rw [List.getElem?_range (by
      have := da.len
      have := (List.getElem?_eq_some_iff.mp hv).1
      omega)] at hx
    exact (Option.some.inj hx).symm
  subst hi
  exact ⟨F', Gm.refl g'.s, (da.up g'.f).at_ hv⟩
end
def lamPs : Expr → Arguments
  | .Lambda p _ _ _ => p
  | _ => default
def lamBd : Expr → Expr
  | .Lambda _ b _ _ => b
  | e => e
def lamSc : Expr → Scope
  | .Lambda _ _ s _ => s
  | _ => default
abbrev lspOf (e : Expr) (t : XK → TE) : LSp := ⟨lamPs e, lamBd e, lamSc e, t⟩
section
variable {X : Cx}
/-- [asker(n) for n in a list of lambdas] -/
theorem pe_lcL {TT : (XK → Hp → VK → Prop) → Hp → VK → Prop} {x a n : Str} {k j : Nat} {pg : Arguments} {bg : List Stmt} {sg : Scope} {Ng : List Str} {p np cpos pos : Pos} {tg iter : Expr} {scope : Scope} {own : List (Str × Nat)} {wi : TI} {g : TG} (ls : List LSp) (hc : X.calm = true) (hN : X.N.Nodup) (hs : X.stack = X.env :: X.outer) (hf : X.env.frame = some X.env.locals)
    (G : Ask X.K X.mg x a pg bg sg) (give : ∀ g cdv, GivesTo X Ng x sg g cdv bg a (X.env.qual ++ "<lambda>") TT) (Sg : FnScope Ng [a] sg) (hNg : Ng[0]? = some a) (hva : Vis sg a) (hr : Room (k + 2) X.A) (ok : ∀ l ∈ ls, LOk X k l) (hi : PI X tg iter wi) (bk : BlkOk X.N X.env.scope scope own)
    (hg : ∀ s H C cl fp, PG (blkB X s H scope (compEnvC scope cl C X.env) fp (fun _ _ _ => False)) tg g) (hgl : ∀ s H C cl fp, Gl (blkB X s H scope (compEnvC scope cl C X.env) fp (fun _ _ _ => False)) x) (hj : X.N[j]? = some n) (hvn : ∀ cl C, Vis (compEnvC scope cl C X.env).scope n)
    (hdb : (x == ("__debug__" : Str)) = false := by decide) (hd : (a == ("__debug__" : Str)) = false := by decide) (hcd : (a == ("__classdict__" : Str)) = false := by decide) (hdn : (n == ("__debug__" : Str)) = false := by decide) (hcn : (n == ("__classdict__" : Str)) = false := by decide)
    (he : ∀ env : Env, starEach [.Name n np] env = [(false, eval (.Name n np) env)] := by intro _; rfl) (hb : ∀ v, foldedSetIterable iter X.env v = pure v := by intro _; rfl) :
    PE X (.ListComp (.Call (.Name x p) [.Name n np] [] cpos) [⟨tg, iter, [], 0⟩] scope pos) (tLcS wi g tYes (fun σ => tAskN X j ls TT (fun _ => σ)) (own.map (·.2))) :=
  pe_lcS hc hN hs hf takes_none5 hi bk hg (fun _ _ _ _ _ => pts_nil) (fun pins σ s H C cl fp I f3 =>
    pe_askN (X := X) (s0 := s) (H0 := H) (env := compEnvC scope cl C X.env) (outer := X.stack) (ex := fp) (fn := fun x => scope.names.lookup x == some .cell) (calm := X.calm) (pn := []) (xe := XB (X.blk s H scope (compEnvC scope cl C X.env) fp) (fun _ _ _ => False)) (sel := fun _ => σ) G give Sg hNg hva hr
      (fun _ _ _ _ J l hl => caps_blk I f3 (ok l hl).names (inv_of J)) ok (hgl s H C cl fp) hj (hvn cl C) hdb hd hcd hdn hcn (he _)) hb
end
section
variable {K : PySem.W.Frag} {F H : Hp} {xs : List V} {Q : VK}
theorem new_ownV (e : Ex F H) (hl : xs.length ≤ 100000) (k : ∀ p H', Gm [] F H F H' → H p = none → (H' p = some (.lst xs) ∧ F p = none) → Q (.ref p) H') : xs.length ≤ sizeLine ∧ ∀ p, H p = none → Q (.ref p) (upd H p (.lst xs)) :=
  ⟨sz_of hl, fun p hp => k p _ (Gm.newM e hp) hp ⟨upd_same, by
    cases q : F p with
    | none => rfl
    | some u => rw [e p u q] at hp; cases hp⟩⟩
end
def neTB (K : PySem.W.Frag) (a b : Str) : Bool := decide ((He.cT K (a, none)).2 ≠ (He.cT K (b, none)).2)
theorem neTB_ok {K : PySem.W.Frag} {a b : Str} (h : neTB K a b = true) : (He.cT K (a, none)).2 ≠ (He.cT K (b, none)).2 := of_decide_eq_true h
/-- what follows a def that makes lambdas -/
def RetN (T : List (Addr × Str)) (F : Hp) (R : Hp → Hp → V → Prop) (Q : VK) : Prop := ∀ v F' H', GN T F F' H' → R F' H' v → Q v H'
/-! ### lambdas by their places in the text -/
def stKids : Stmt → List Stmt
  | .For _ _ b _ _ => b
  | .If _ b o _ => b ++ o
  | .While _ b _ _ => b
  | _ => []
def stVal : Stmt → Expr
  | .Assign _ v _ => v
  | .Expr v _ => v
  | _ => default
def exKids : Expr → List Expr
  | .List l _ => l
  | .Call _ l _ _ => l
  | _ => []
end Wk
namespace Wk
open PySem L2 Evl
theorem ents_int {K : PySem.W.Frag} {F : Hp} {es : List (Int × V)} {m : List (Int × Int)} (h : Ents PyData.int K F es m) : es.map entV = m.map entI := by
  induction h with
  | nil => rfl
  | cons d _ ih =>
    obtain rfl := dp_int d
    rw [List.map_cons, List.map_cons, ih]
end Wk

set_option Elab.async false
set_option linter.all false
set_option maxRecDepth 100000
set_option maxHeartbeats 4000000
/-! ### lambdas with a default -/
namespace Wk
open PySem L2 Evl PySem.Spec PyProof.Rows LamX
/-- the object at f is a lambda with defaults dV -/
def LamDO (f : Addr) (q : Str) (params : Arguments) (body : Expr) (scope : Scope) (cl : List (Str × Addr)) (dV : Value) (c : Addr) : HO := .ext fun h => ∃ pm ctv doc : Value, h.get? f = some (PySem.W.kdv_obj "<lambda>" q params (.expr body) scope cl dV doc pm c ctv)
theorem lamDO_ne {f c : Addr} {q : Str} {params : Arguments} {body : Expr} {scope : Scope} {cl : List (Str × Addr)} {dV : Value} (ps : Array Value) : LamDO f q params body scope cl dV c ≠ .tbl ps := fun z => by
  unfold LamDO at z
  cases z
section
variable {X : Cx} {pins : List (Addr × Obj)} {σ : L2.St} {H : Hp} {s : Shared}
theorem inv_lamD {q : Str} {params : Arguments} {body : Expr} {scope : Scope} {cl : List (Str × Addr)} {dV : Value} {c : Addr} {pm ctv doc : Value} {t' : Nat} (I : Inv X pins σ H s) :
    Inv X pins σ (upd H s.heap.objs.size (LamDO s.heap.objs.size q params body scope cl dV c)) { s with heap := s.heap.push (PySem.W.kdv_obj "<lambda>" q params (.expr body) scope cl dV doc pm c ctv), toks := t' } := by
  have e : (s.heap.push (PySem.W.kdv_obj "<lambda>" q params (.expr body) scope cl dV doc pm c ctv)).get? s.heap.objs.size = some (PySem.W.kdv_obj "<lambda>" q params (.expr body) scope cl dV doc pm c ctv) := Heap.get?_push_size _ rfl
  exact I.laid (a := s.heap.objs.size) (fun b u e => Heap.get?_push_of_some _ e) (Nat.le_refl _) ⟨⟨pm, ctv, doc, e⟩, ⟨_, e⟩, fun h1 h2 ⟨p, t, d, z⟩ st => ⟨p, t, d, st _ z⟩⟩
/-- the function object of a lambda is made, its defaults being there -/
theorem lamD_tail {T : List (Addr × Str)} {c P : Addr} {params : Arguments} {body : Expr} {scope : Scope} {pos : Pos} {dV : Value} {E : Value → Shared → Prop} {Q : Value → Shared → Prop} (I : Inv X pins σ H s) (TB : TabB X.base X.mg c P) (hcode : X.env.code = .ref c)
    (hm : (P, X.env.qual ++ "<lambda>") ∈ T) (hu : ∀ p ∈ T, p.1 = P → p.2 = X.env.qual ++ "<lambda>") (hT : Tabs T H) (hfree : ∀ y ∈ scope.names, y.2 = .free → ∃ c, X.env.cells.lookup y.1 = some c)
    (h : ∀ (f c' : Addr) (H1 : Hp) (t : Shared), Inv X pins σ H1 t → ExtN H H1 → Tabs T H1 → (∀ b, H1 b = Option.none → H b = Option.none) → H f = none → f ≠ c' →
      H1 f = some (LamDO f (X.env.qual ++ "<lambda>") params body scope (cloFrom X.env.cells scope.names []) dV c') → H1 c' = some (CodeO c' (X.env.qual ++ "<lambda>")) → Q (.ref f) t) :
    wpAny (model X.prog X.w) X.A (makeTail "<lambda>" (X.env.qual ++ "<lambda>") params (.expr body) scope X.env dV .none none pos pos.line) Q E s := by
  obtain ⟨ps, hP, tri, among⟩ := hT _ hm
  have tabP : s.heap.get? P = some { cls := .none, data := .fields ps } := I.hok P _ hP
  cases hc : codeAmong pos ps.toList with
  | some cv =>
    obtain ⟨c', rfl, hco⟩ := among pos cv hc
    refine PySem.W.kdv_makeTailHit (mg := X.mg) (c := c) (P := P) (ps := ps) (closure_ok hfree) I.ok.glob (I.mod.glob.keeps I.bk) hcode (TB.code.keeps I.bk) tabP tri hc (TB.bm.keeps I.bk) fun ctv doc h' tk old grown => ?_
    have J : Inv X pins σ H { s with heap := h', toks := tk } := I.kept old
    have free : H h'.objs.size = none := J.hok.fresh (Nat.le_refl _)
    have J2 := inv_lamD (q := X.env.qual ++ "<lambda>") (params := params) (body := body) (scope := scope) (cl := cloFrom X.env.cells scope.names []) (dV := dV) (c := c') (pm := (X.mg "__name__").getD .none) (ctv := ctv) (doc := doc) (t' := tk) J
    exact h h'.objs.size c' _ _ J2 (fun b o e _ => (upd_ne (ne_of_none e free)).trans e) (hT.ext fun b o e => (upd_ne (ne_of_none e free)).trans e) (fun b e => upd_non e) free (ne_of_none hco free).symm upd_same ((upd_ne (ne_of_none hco free)).trans hco)
  | none =>
    refine PySem.W.kdv_makeTail (mg := X.mg) (c := c) (P := P) (ps := ps) (closure_ok hfree) I.ok.glob (I.mod.glob.keeps I.bk) hcode (TB.code.keeps I.bk) tabP tri hc TB.gP (TB.bm.keeps I.bk) fun c' ctv doc h' tk old ge lt rec tab => ?_
    obtain ⟨c2, oc, vs, t, e2, hoc, hd, hv⟩ := rec
    cases e2
    have nC : H c' = none := I.hok.fresh ge
    have J := inv_table (t' := tk) (more := #[rawInt pos.line, rawInt pos.col, .ref c']) (h' := h') I hP old tab ge ⟨oc, vs, t, hoc, hd, hv⟩
    generalize hH1 : upd (upd H P (.tbl (ps ++ #[rawInt pos.line, rawInt pos.col, .ref c']))) c' (CodeO c' (X.env.qual ++ "<lambda>")) = H1 at J
    have atC : H1 c' = some (CodeO c' (X.env.qual ++ "<lambda>")) := by rw [← hH1, upd_same]
    have atP : H1 P = some (.tbl (ps ++ #[rawInt pos.line, rawInt pos.col, .ref c'])) := by rw [← hH1, upd_ne (ne_of_none hP nC), upd_same]
    have ext1 : ExtN H H1 := fun b o e n => by
      rw [← hH1, upd_ne (ne_of_none e nC), upd_ne (fun z => n ps (Option.some.inj (e.symm.trans (by rw [z]; exact hP))))]
      exact e
    have less : ∀ b, H1 b = none → H b = none := fun b e => by
      rw [← hH1] at e
      exact upd_non (upd_non e)
    have T1 : Tabs T H1 := by
      intro p hp
      by_cases hb : p.1 = P
      · rw [hu p hp hb, hb]
        refine ⟨_, atP, ?_, fun p' cv hcv => ?_⟩
        · rw [Array.toList_append]
          exact PySem.TriplesOk_snoc _ _ _ _ tri
        · rw [Array.toList_append] at hcv
          rcases among_app _ tri hcv with z | z
          · obtain ⟨c0, e1, e2⟩ := among p' cv z
            exact ⟨c0, e1, ext1 _ _ e2 codeO_ne⟩
          · exact ⟨c', z, atC⟩
      · obtain ⟨ps', a1, a2, a3⟩ := hT p hp
        refine ⟨ps', ?_, a2, fun p' cv hcv => ?_⟩
        · rw [← hH1, upd_ne (ne_of_none a1 nC), upd_ne hb]
          exact a1
        · obtain ⟨c0, e1, e2⟩ := a3 p' cv hcv
          exact ⟨c0, e1, ext1 _ _ e2 codeO_ne⟩
    have free : H1 h'.objs.size = none := J.hok.fresh (Nat.le_refl _)
    have J2 := inv_lamD (q := X.env.qual ++ "<lambda>") (params := params) (body := body) (scope := scope) (cl := cloFrom X.env.cells scope.names []) (dV := dV) (c := c') (pm := (X.mg "__name__").getD .none) (ctv := ctv) (doc := doc) (t' := tk) J
    exact h h'.objs.size c' _ _ J2 (fun b o e n => (upd_ne (ne_of_none (ext1 b o e n) free)).trans (ext1 b o e n)) (T1.ext fun b o e => (upd_ne (ne_of_none e free)).trans e) (fun b e => less b (upd_non e)) (less _ free) (ne_of_none atC free).symm upd_same ((upd_ne (ne_of_none atC free)).trans atC)
/-- a lambda with one default, a number -/
theorem lamD_make {T : List (Addr × Str)} {c P : Addr} {params : Arguments} {body : Expr} {scope : Scope} {pos : Pos} {e0 : Expr} {i : Int} {Q : Value → Shared → Prop} (I : Inv X pins σ H s) (TB : TabB X.base X.mg c P) (hcode : X.env.code = .ref c)
    (hm : (P, X.env.qual ++ "<lambda>") ∈ T) (hu : ∀ p ∈ T, p.1 = P → p.2 = X.env.qual ++ "<lambda>") (hT : Tabs T H) (hd0 : params.defaults = [e0]) (hk0 : params.kw_defaults = []) (he : PE X e0 fun _ H Q => Q (.int i) H) (hfree : ∀ y ∈ scope.names, y.2 = .free → ∃ c, X.env.cells.lookup y.1 = some c)
    (h : ∀ (f c' t : Addr) (H1 : Hp) (s1 : Shared), Inv X pins σ H1 s1 → ExtN H H1 → Tabs T H1 → (∀ b, H1 b = Option.none → H b = Option.none) → H f = none → H t = none → f ≠ c' → f ≠ t → t ≠ c' →
      H1 f = some (LamDO f (X.env.qual ++ "<lambda>") params body scope (cloFrom X.env.cells scope.names []) (.ref t) c') → H1 c' = some (CodeO c' (X.env.qual ++ "<lambda>")) → H1 t = some (.tup [.int i]) → Q (.ref f) s1) :
    wpAny (model X.prog X.w) X.A (eval (.Lambda params body scope pos) X.env) Q X.xe s := by
  refine PySem.W.kdv_lam (by rw [hd0]; rfl) hk0 ?_
  rw [hd0]
  refine PySem.W.kdv_all1 (wpAny_mono (he.run pins s σ H (fun v H1 => v = .int i ∧ H1 = H) I ⟨rfl, rfl⟩) (fun u s1 hq => PySem.W.kdv_all0 ?_) fun _ _ q => q)
  obtain ⟨v, H1, I1, rv, rfl, rfl⟩ := hq
  rw [makeFunction_eq]
  simp only [List.isEmpty_cons, List.isEmpty_nil, List.zip_nil_right, List.filterMap_nil, Bool.false_eq_true, if_false, if_true, pure_bind]
  refine wpAny_bind (wpAny_newTextTuple ?_)
  have nT : H1 s1.heap.objs.size = none := I1.hok.fresh (Nat.le_refl _)
  have J : L2.Inv X pins σ (upd H1 s1.heap.objs.size (.tup [.int i])) { s1 with heap := s1.heap.push { cls := .type "tuple", data := .seq [u].toArray }, toks := s1.toks } := I1.laid (a := s1.heap.objs.size) (fun b u e => Heap.get?_push_of_some _ e) (Nat.le_refl _) ⟨show 1 ≤ sizeLine by decide, [u], .cons rv .nil, _, Heap.get?_push_size _ rfl, rfl, _, rfl⟩
  refine lamD_tail J TB hcode hm hu (hT.ext fun b o e => (upd_ne (ne_of_none e nT)).trans e) hfree fun f c' H2 t I2 x T1 less free ne hf hc => ?_
  have hT1 : H2 s1.heap.objs.size = some (.tup [.int i]) := x _ _ upd_same (fun ps z => nomatch z)
  have nf : f ≠ s1.heap.objs.size := fun z => by
    rw [z, upd_same] at free
    cases free
  refine h f c' s1.heap.objs.size H2 t I2 (fun b o e n => x b o ((upd_ne (ne_of_none e nT)).trans e) n) T1 (fun b e => upd_non (less b e)) (upd_non free) nT ne nf (fun z => ?_) hf hc hT1
  rw [← z, hT1] at hc
  cases hc
/-- a lambda without defaults, told alike -/
theorem lam0_make {T : List (Addr × Str)} {c P : Addr} {params : Arguments} {body : Expr} {scope : Scope} {pos : Pos} {E : Value → Shared → Prop} {Q : Value → Shared → Prop} (I : Inv X pins σ H s) (TB : TabB X.base X.mg c P) (hcode : X.env.code = .ref c)
    (hm : (P, X.env.qual ++ "<lambda>") ∈ T) (hu : ∀ p ∈ T, p.1 = P → p.2 = X.env.qual ++ "<lambda>") (hT : Tabs T H) (hdef : defaultsOf params X.env = ([], [])) (hfree : ∀ y ∈ scope.names, y.2 = .free → ∃ c, X.env.cells.lookup y.1 = some c)
    (h : ∀ (f c' : Addr) (H1 : Hp) (t : Shared), Inv X pins σ H1 t → ExtN H H1 → Tabs T H1 → (∀ b, H1 b = Option.none → H b = Option.none) → H f = none → f ≠ c' →
      H1 f = some (LamDO f (X.env.qual ++ "<lambda>") params body scope (cloFrom X.env.cells scope.names []) .none c') → H1 c' = some (CodeO c' (X.env.qual ++ "<lambda>")) → Q (.ref f) t) :
    wpAny (model X.prog X.w) X.A (eval (.Lambda params body scope pos) X.env) Q E s := by
  refine PySem.W.kla_eval hdef ?_
  rw [makeFunction_eq]
  simp only [List.isEmpty_nil, List.zip_nil_right, List.filterMap_nil, if_true, pure_bind]
  exact lamD_tail I TB hcode hm hu hT hfree h
end
/-- what the lambda finds outside of itself -/
def noLoc (sc : Scope) : Scope := { sc with names := sc.names.filter fun y => !decide (y.2 = .local) }
theorem noLoc_mem {sc : Scope} {y : Str × NameKind} (h : y ∈ sc.names) (f : y.2 = .free) : y ∈ (noLoc sc).names := List.mem_filter.mpr ⟨h, by rw [f]; rfl⟩
theorem look_fil (y : Str) : ∀ l : List (Str × NameKind), l.lookup y = some .free → (l.filter fun y => !decide (y.2 = .local)).lookup y = some .free
  | [], h => by cases h
  | (z, k) :: l, h => by
    by_cases e : y = z
    · subst e
      rw [List.lookup_cons_self] at h
      rw [List.filter_cons, Option.some.inj h]
      exact List.lookup_cons_self
    · have ne : (y == z) = false := by simpa using e
      rw [List.lookup_cons, ne] at h
      rw [List.filter_cons]
      split
      · rw [List.lookup_cons, ne]
        exact look_fil y l h
      · exact look_fil y l h
section
variable {X : Cx} {pins pins3 : List (Addr × Obj)} {σ σ3 : L2.St} {H H3 HZ : Hp} {s s3 s1 : Shared} {scope sco : Scope}
theorem Caps.loc {h : Heap} (C : Caps X σ (noLoc scope) H h) : Caps X σ scope H h := ⟨C.inj, C.cell, C.free, fun y hy e => C.has y (noLoc_mem hy e) e, fun i y v e1 e2 k => C.look i y v e1 e2 (look_fil y _ k), C.len⟩
/-- its body begins, with names of its own -/
theorem lam_startD {A : Around} {outer : List Env} {E : XK} {f c' : Addr} {h₁ : Heap} {tk : Nat} {binds : List (Str × Value)} (C : Caps X σ scope HZ s1.heap) (hk : scope.kind = .function) (hcell : ∀ y ∈ scope.names, y.2 ≠ .cell) (hown : ∀ y ∈ scope.names, y.2 = .local → y.1 ∉ X.N)
    (e0 : Env0 X.prog X.w X.K X.mg X.base A outer s1 HZ) (hd : A.handled = none) (hns : h₁.Ns s1.heap.objs.size fun y => binds.reverse.lookup y) (kp : ∀ b o, s1.heap.get? b = some o → h₁.get? b = some o) : Inv (lamCx X A outer s1 HZ E scope f c') [] σ HZ { s1 with heap := h₁, toks := tk } := by
  have sub : ∀ {y c}, (cloFrom X.env.cells scope.names []).lookup y = some c → X.env.cells.lookup y = some c := by
    intro y c e
    rcases cloFrom_mem (PySem.mem_of_lookup e) with z | ⟨z1, z2⟩
    · cases z
    · obtain ⟨d, hd⟩ := C.has _ z1 rfl
      have hd2 : X.env.cells.lookup y = some d := hd
      rw [z2, hd2]
      rfl
  have there : ∀ {y}, scope.names.lookup y = some .free → ∃ c, (cloFrom X.env.cells scope.names []).lookup y = some c := by
    intro y z
    have z2 : (y, NameKind.free) ∈ scope.names := PySem.mem_of_lookup z
    exact mem_lookup (cloFrom_has (cells := X.env.cells) (acc := []) z2)
  have cells : ∀ {c : Addr} {v : Option Value}, s1.heap.IsCell c v → h₁.IsCell c v := fun ⟨o, ho, hd⟩ => ⟨o, kp _ _ ho, hd⟩
  have none_ : ∀ b : Addr, b ∉ (lamCx X A outer s1 HZ E scope f c').ex := fun b z => nomatch (show b ∈ ([] : List Addr) from z)
  constructor
  · refine ⟨e0.mod, hk, rfl, rfl, Nat.le_refl _, fun y z c e1 e2 => C.inj y z c (sub e1) (sub e2), fun y hy => ?_, fun y c z _ => (nomatch (show false = true from z)), fun _ => hd, Around.frames_deeper e0.frames, .inr ⟨rfl, rfl⟩, fun b z => absurd z (none_ b), e0.bs, e0.bsz, fun b _ _ => none_ b, fun b z => absurd z (none_ b), e0.funs, e0.frf⟩
    have hy2 : scope.names.lookup y = some .cell ∨ scope.names.lookup y = some .free := hy
    exact hy2.elim (fun z => absurd rfl (hcell _ (PySem.mem_of_lookup z))) there
  · rfl
  · exact e0.bare
  · exact Un.kept kp
  · refine ⟨_, hns, fun i y v e1 e2 e3 => ?_⟩
    have e4 : Vis scope y := e3
    rcases e4 with k | k | k
    · exact absurd (List.mem_of_getElem? e1) (hown _ (PySem.mem_of_lookup k) rfl)
    · exact absurd rfl (hcell _ (PySem.mem_of_lookup k))
    · obtain ⟨c, w, a, b, r⟩ := C.look i y v e1 e2 k
      obtain ⟨c2, h2⟩ := there k
      rw [Option.some.inj ((sub h2).symm.trans a)] at h2
      exact ⟨w, r, .inr ⟨.inr k, c, h2, cells b⟩⟩
  · intro y c e
    exact (C.cell y c (sub e)).imp fun v z => cells z
  · exact e0.hok.fresh (Nat.le_refl _)
  · exact fun y c e => C.free y c (sub e)
  · exact fun q hq => nomatch (show q ∈ ([] : List (Addr × Obj)) from hq)
  · exact e0.hok.kept kp
  · exact C.len
end
/-- a lambda with at most one default: its words, and how its body is read -/
structure DSp where
  params : Arguments
  body : Expr
  scope : Scope
  dfl : Option Int
  t : XK → TE
structure DOk (X : Cx) (k : Nat) (l : DSp) : Prop where
  names : LamS X.env.scope (noLoc l.scope)
  cell : ∀ y ∈ l.scope.names, y.2 ≠ .cell
  own : ∀ y ∈ l.scope.names, y.2 = .local → y.1 ∉ X.N
  bind : ∀ (s : Shared) (q : Str) (cl : List (Str × Addr)) (dV doc pm cv ctv : Value), (l.dfl = none → dV = .none) → (∀ i, l.dfl = some i → ∃ T u, dV = .ref T ∧ IsTup s.heap T #[u]) →
    ∃ binds, BindsTo s (PySem.W.kdv_fn "<lambda>" q l.params (.expr l.body) l.scope cl dV doc pm cv ctv) ⟨[], []⟩ binds ∧ ∀ y ∈ binds, l.scope.names.lookup y.1 = some .local
  body : ∀ (A : Around) (outer : List Env) (s : Shared) (H : Hp) (E : XK) (f c' : Addr), Room k (A.deeper (lamEnv X l.scope s.heap.objs.size f c')) → PE (lamCx X A outer s H E l.scope f c') l.body (l.t E)
/-- the lambda stands at f -/
structure DAt (X : Cx) (F : Hp) (l : DSp) (f : Addr) : Prop where
  ex : ∃ (c' : Addr) (dV : Value), F f = some (LamDO f (X.env.qual ++ "<lambda>") l.params l.body l.scope (cloFrom X.env.cells l.scope.names []) dV c') ∧ F c' = some (CodeO c' (X.env.qual ++ "<lambda>")) ∧ (l.dfl = none → dV = .none) ∧ ∀ i, l.dfl = some i → ∃ t, dV = .ref t ∧ F t = some (.tup [.int i])
section
variable {X : Cx} {σ : L2.St} {H F F' : Hp} {s : Shared} {l : DSp} {f : Addr}
theorem DAt.up (h : DAt X F l f) (e : Ex F F') : DAt X F' l f := by
  obtain ⟨c', dV, h1, h2, h3, h4⟩ := h.ex
  exact ⟨c', dV, e _ _ h1, e _ _ h2, h3, fun i hi => (h4 i hi).imp fun t z => ⟨z.1, e _ _ z.2⟩⟩
theorem DAt.upN (h : DAt X F l f) (e : ExN F F') : DAt X F' l f := by
  obtain ⟨c', dV, h1, h2, h3, h4⟩ := h.ex
  exact ⟨c', dV, e _ _ h1 fun ps => lamDO_ne ps, e _ _ h2 fun ps => codeO_ne ps, h3, fun i hi => (h4 i hi).imp fun t z => ⟨z.1, e _ _ z.2 fun ps z => nomatch z⟩⟩
/-- it runs -/
theorem lam_runsD {A : Around} {outer : List Env} {k : Nat} {E : XK} {Q : VK} (C : Caps X σ (noLoc l.scope) H s.heap) (O : DOk X k l) (e0 : Env0 X.prog X.w X.K X.mg X.base A outer s H) (hr : Room (k + 1) A) (hf : DAt X H l f) (h : l.t E σ H Q) :
    codeAny (model X.prog X.w) A (.call (.ref f) ⟨[], []⟩) (CR (L2.CX X.prog X.w) outer X.prog X.w H s Q E) s := by
  obtain ⟨c', dV, h1, h2, h3, h4⟩ := hf.ex
  obtain ⟨⟨pm, ctv, doc, of1⟩, _, _⟩ := e0.hok f _ h1
  obtain ⟨⟨oc, vs, t, hoc, hdc, hvc⟩, _, _⟩ := e0.hok c' _ h2
  have L := O.names
  have lim : s.heap.NoLimit := e0.mod.nolimit.keeps fun b o e => (e0.bs b o e).1
  obtain ⟨binds, hb, hl⟩ := O.bind s (X.env.qual ++ "<lambda>") (cloFrom X.env.cells l.scope.names []) dV doc pm (.ref c') ctv h3 fun i hi => by
    obtain ⟨t, e1, e2⟩ := h4 i hi
    obtain ⟨_, its, r, it⟩ := e0.hok t _ e2
    cases r with
    | cons a r =>
      cases r
      exact ⟨t, _, e1, it⟩
  refine PySem.W.kla_callFunE hr.depth of1 rfl L.co L.gen rfl ⟨c', oc, vs, t, rfl, hoc, hdc, hvc⟩ (hb _ _ _ _ ?_)
  refine wpAny_newFunctionEnv O.cell hl (fun h₁ hns hsb => ⟨lim.fresh _ hsb, ?_⟩) L.kind
  show codeAny _ _ (.expr l.body (lamEnv X l.scope s.heap.objs.size f c')) _ _
  have kp : ∀ b o, s.heap.get? b = some o → h₁.get? b = some o := fun b o e => hsb.extBut b o (Nat.ne_of_lt (Heap.lt_size e)) (Heap.get?_push_of_some _ e)
  have J := lam_startD (f := f) (c' := c') (E := E) (tk := s.toks + binds.length) C.loc L.kind O.cell O.own e0 hr.hd hns kp
  refine PySem.W.kla_codeExpr (wpAny_mono ((O.body _ _ s H E f c' (hr.deeper _)).run [] _ _ H Q J h) (fun v t2 hq => ?_) fun _ _ hq => hq)
  obtain ⟨w, H2, J2, rv, q⟩ := hq
  exact ⟨w, H2, J2.os, J2.bare, J2.base, J2.hok, rv, q⟩
end
section
variable {X : Cx}
def no3 : XK := fun _ _ _ => False
/-- which of some lambdas of X the slot j holds; it is called -/
def tCallD (X : Cx) (j : Nat) (ls : List DSp) (sel : L2.St → L2.St) : TE := fun σ H Q => ∃ l ∈ ls, ∃ f, σ[j]? = some (some (.ref f)) ∧ DAt X H l f ∧ l.t no3 (sel σ) H Q
theorem pe_callD {s0 : Shared} {H0 : Hp} {env : Env} {outer : List Env} {ex : List Addr} {fn : Str → Bool} {calm : Bool} {pn : List (Addr × Obj)} {xe : Value → Shared → Prop} {n : Str} {k j : Nat} {ls : List DSp} {sel : L2.St → L2.St} {W : WX} {p1 p2 : Pos} (tk : Takes (alt X s0 H0 env outer ex fn calm pn xe) W) (hr : Room (k + 1) X.A)
    (caps : ∀ pins σ H s, Inv (alt X s0 H0 env outer ex fn calm pn xe) pins σ H s → ∀ l ∈ ls, Caps X (sel σ) (noLoc l.scope) H s.heap) (ok : ∀ l ∈ ls, DOk X k l) (hj : X.N[j]? = some n) (hvn : Vis env.scope n)
    (hd : (n == ("__debug__" : Str)) = false := by decide) (hcd : (n == ("__classdict__" : Str)) = false := by decide) : PE (alt X s0 H0 env outer ex fn calm pn xe) (.Call (.Name n p1) [] [] p2) (tCallD X j ls sel) := by
  constructor
  intro pins s σ H Q I h
  obtain ⟨l, hl, f, hs, hf, ht⟩ := h
  refine wpAny_Call_Name_kw (thn ((pe_var (X := alt X s0 H0 env outer ex fn calm pn xe) (pos := p1) (i := j) hj hvn hd hcd).run pins s σ H (fun v H1 => v = .ref f ∧ H1 = H) I ⟨.ref f, hs, rfl, rfl⟩) fun u s1 hu => ?_)
  obtain ⟨v, H1, I1, r1, rfl, rfl⟩ := hu
  obtain rfl : u = Value.ref f := r1
  obtain ⟨c', dV, h1, _⟩ := hf.ex
  obtain ⟨⟨pm, ctv, doc, of1⟩, _, _⟩ := I1.hok f _ h1
  refine PySem.W.callWith_F0 ⟨_, _, _, _, of1⟩ ?_
  have rc := lam_runsD (E := no3) (caps _ _ _ _ I1 l hl) (ok l hl) I1.env0 hr hf ht
  have hx : Passes (L2.CX X.prog X.w) (alt X s0 H0 env outer ex fn calm pn xe) no3 := passes_call tk fun _ _ _ _ z => z.elim
  refine wpAny_call (codeAny_mono rc fun r s' hq => ?_)
  cases r with
  | error e => exact hx pins σ H1 s1 e s' I1 hq
  | ok fl =>
    cases fl with
    | ret u => exact I1.after hq
    | next => exact hq.elim
    | brk => exact hq.elim
    | cont => exact hq.elim
/-- a lambda is made: it stands from now on -/
def tLamD (X : Cx) (T : List (Addr × Str)) (l : DSp) : TE := fun _ H Q => Tabs T H ∧ ∀ (f c' : Addr) (S : List Addr) (H1 : Hp), ExtN H H1 → Tabs T H1 → (∀ b, H1 b = Option.none → H b = Option.none) → H f = none → f ≠ c' → H1 c' = some (CodeO c' (X.env.qual ++ "<lambda>")) → (∀ b ∈ S, b = c' ∨ H b = none) → f ∈ S →
  (∀ F : Hp, (∀ b ∈ S, F b = H1 b) → DAt X F l f) → (∀ b ∈ S, ∀ ps, H1 b ≠ some (.tbl ps)) → Q (.ref f) H1
variable {T : List (Addr × Str)} {c P : Addr} {l : DSp} {pos : Pos}
theorem pe_lamD (TB : TabB X.base X.mg c P) (hcode : X.env.code = .ref c) (hm : (P, X.env.qual ++ "<lambda>") ∈ T) (hu : ∀ p ∈ T, p.1 = P → p.2 = X.env.qual ++ "<lambda>") (L : LamS X.env.scope (noLoc l.scope)) (hdef : defaultsOf l.params X.env = ([], [])) (hn : l.dfl = none) :
    PE X (.Lambda l.params l.body l.scope pos) (tLamD X T l) := by
  constructor
  intro pins s σ H Q I h
  refine lam0_make I TB hcode hm hu h.1 hdef (fun y hy e => L.has I.ok y (noLoc_mem hy e) e) fun f c' H1 t I1 x T1 less free ne hf hc => ⟨.ref f, H1, I1, rfl, ?_⟩
  refine h.2 f c' [f, c'] H1 x T1 less free ne hc (fun b hb => ?_) (List.mem_cons_self ..) (fun F hF => ⟨c', .none, ?_, ?_, fun _ => rfl, fun i hi => ?_⟩) fun b hb ps => ?_
  · rcases List.mem_cons.mp hb with rfl | hb
    · exact .inr free
    · exact .inl (List.mem_singleton.mp hb)
  · rw [hF f (by simp), hf]
  · rw [hF c' (by simp), hc]
  · rw [hn] at hi
    cases hi
  · rcases List.mem_cons.mp hb with rfl | hb
    · rw [hf]
      exact fun z => lamDO_ne ps (Option.some.inj z)
    · rw [List.mem_singleton.mp hb, hc]
      exact fun z => codeO_ne ps (Option.some.inj z)
theorem pe_lamD1 {e0 : Expr} {i : Int} (TB : TabB X.base X.mg c P) (hcode : X.env.code = .ref c) (hm : (P, X.env.qual ++ "<lambda>") ∈ T) (hu : ∀ p ∈ T, p.1 = P → p.2 = X.env.qual ++ "<lambda>") (L : LamS X.env.scope (noLoc l.scope)) (hd0 : l.params.defaults = [e0]) (hk0 : l.params.kw_defaults = []) (he : PE X e0 fun _ H Q => Q (.int i) H) (hn : l.dfl = some i) :
    PE X (.Lambda l.params l.body l.scope pos) (tLamD X T l) := by
  constructor
  intro pins s σ H Q I h
  refine lamD_make I TB hcode hm hu h.1 hd0 hk0 he (fun y hy e => L.has I.ok y (noLoc_mem hy e) e) fun f c' t H1 s1 I1 x T1 less free nt ne nft ntc hf hc ht => ⟨.ref f, H1, I1, rfl, ?_⟩
  refine h.2 f c' [f, c', t] H1 x T1 less free ne hc (fun b hb => ?_) (List.mem_cons_self ..) (fun F hF => ⟨c', .ref t, ?_, ?_, fun z => ?_, fun j hj => ⟨t, rfl, ?_⟩⟩) fun b hb ps => ?_
  · rcases List.mem_cons.mp hb with rfl | hb
    · exact .inr free
    · rcases List.mem_cons.mp hb with rfl | hb
      · exact .inl rfl
      · rw [List.mem_singleton.mp hb]
        exact .inr nt
  · rw [hF f (by simp), hf]
  · rw [hF c' (by simp), hc]
  · rw [hn] at z
    cases z
  · rw [hn] at hj
    rw [hF t (by simp), ht, Option.some.inj hj]
  · rcases List.mem_cons.mp hb with rfl | hb
    · rw [hf]
      exact fun z => lamDO_ne ps (Option.some.inj z)
    · rcases List.mem_cons.mp hb with rfl | hb
      · rw [hc]
        exact fun z => codeO_ne ps (Option.some.inj z)
      · rw [List.mem_singleton.mp hb, ht]
        exact fun z => nomatch z
/-- what stands then -/
theorem lamD_new {q : Str} {F H H1 : Hp} {f c' : Addr} {S : List Addr} (e : Ex F H) (x : ExtN H H1) (hc : H1 c' = some (CodeO c' q)) (hS : ∀ b ∈ S, b = c' ∨ H b = none) (hl : ∀ b ∈ S, ∀ ps, H1 b ≠ some (.tbl ps)) (at_ : ∀ F : Hp, (∀ b ∈ S, F b = H1 b) → DAt X F l f) :
    ∃ F1, LamStep F H F1 H1 ∧ DAt X F1 l f := by
  generalize hF1 : (fun b => if b ∈ S then H1 b else noTab F b) = F1
  have val : ∀ b, F1 b = if b ∈ S then H1 b else noTab F b := fun b => by rw [← hF1]
  have stay : ∀ p o, H p = some o → (∀ ps, o ≠ .tbl ps) → (∀ φ, o ≠ .ext φ) → F p = none → H1 p = some o ∧ F1 p = none := by
    intro p o h n1 n2 h2
    have h3 := x p o h n1
    refine ⟨h3, ?_⟩
    rw [val, if_neg fun z => ?_]
    · exact noTab_none h2
    · rcases hS p z with y | y
      · rw [y, hc] at h3
        exact n2 _ (Option.some.inj h3).symm
      · rw [h] at y
        cases y
  refine ⟨F1, ⟨fun b o h => ?_, fun b o h n => ?_, fun p xs h h2 => stay p _ h (fun ps z => by cases z) (fun φ z => by cases z) h2, fun p es h h2 => stay p _ h (fun ps z => by cases z) (fun φ z => by cases z) h2⟩, at_ F1 fun b hb => by rw [val, if_pos hb]⟩
  · rw [val] at h
    by_cases z : b ∈ S
    · rw [if_pos z] at h
      exact h
    · rw [if_neg z] at h
      exact noTab_ext e x b o h
  · rw [val]
    by_cases z : b ∈ S
    · rw [if_pos z]
      exact x b o (e b o h) n
    · rw [if_neg z]
      exact noTab_at h n
end
end Wk

set_option Elab.async false
set_option linter.all false
set_option maxRecDepth 100000
set_option maxHeartbeats 4000000
/-! ### lists of lambdas that are called by name; lists taken out of the fixed part -/
namespace Wk
open PySem L2 Evl PySem.Spec PyProof.Rows LamX
inductive DsAt (X : Cx) (F : Hp) : List V → List DSp → Prop
  | nil : DsAt X F [] []
  | cons {f : Addr} {l : DSp} {vs : List V} {ls : List DSp} : DAt X F l f → DsAt X F vs ls → DsAt X F (.ref f :: vs) (l :: ls)
section
variable {X : Cx} {F F' H : Hp} {vs us : List V} {ls ms : List DSp} {M : List Addr} {K : PySem.W.Frag} {a : Addr}
theorem DsAt.up (h : DsAt X F vs ls) (e : Ex F F') : DsAt X F' vs ls := by
  induction h with
  | nil => exact .nil
  | cons h1 _ ih => exact .cons (h1.up e) ih
theorem DsAt.upN (h : DsAt X F vs ls) (e : ExN F F') : DsAt X F' vs ls := by
  induction h with
  | nil => exact .nil
  | cons h1 _ ih => exact .cons (h1.upN e) ih
theorem DsAt.app (h : DsAt X F vs ls) (h2 : DsAt X F us ms) : DsAt X F (vs ++ us) (ls ++ ms) := by
  induction h with
  | nil => exact h2
  | cons a _ ih => exact .cons a ih
theorem DsAt.len (h : DsAt X F vs ls) : vs.length = ls.length := by
  induction h with
  | nil => rfl
  | cons _ _ ih => rw [List.length_cons, List.length_cons, ih]
theorem DsAt.at_ (h : DsAt X F vs ls) {i : Nat} {v : V} (hv : vs[i]? = some v) : ∃ f l, v = .ref f ∧ ls[i]? = some l ∧ DAt X F l f := by
  induction h generalizing i with
  | nil => cases hv
  | cons a _ ih =>
    cases i with
    | zero => exact ⟨_, _, (Option.some.inj hv).symm, rfl, a⟩
    | succ i => exact ih (i := i) hv
/-- they are walked, by their places -/
theorem wlk_ds (e : Ex F H) (h : F a = some (.lst vs)) (da : DsAt X F vs ls) : Wlk M F H (Itl K a) (List.range ls.length) (fun F v i => ∃ f l, v = .ref f ∧ ls[i]? = some l ∧ DAt X F l f) := by
  refine ⟨_, _, _, walk_list (K := K) (a := a) (xs := vs), by rw [da.len, List.length_range], fun F' H' g' => sq_of (g'.s _ _ (g'.f _ _ h)), fun i x v F' H' H'' g' hx y => ?_⟩
  obtain ⟨rfl, hv⟩ := y
  have hi : x = i := by
    rw [List.getElem?_range (by
      have := da.len
      have := (List.getElem?_eq_some_iff.mp hv).1
      omega)] at hx
    exact (Option.some.inj hx).symm
  subst hi
  exact ⟨F', Gm.refl g'.s, (da.up g'.f).at_ hv⟩
/-- one is called in the def itself -/
theorem pe_callX {n : Str} {k j : Nat} {W : WX} {p1 p2 : Pos} (ls : List DSp) (tk : Takes X W) (hr : Room (k + 1) X.A) (ok : ∀ l ∈ ls, DOk X k l) (hj : X.N[j]? = some n) (hvn : Vis X.env.scope n)
    (hd : (n == ("__debug__" : Str)) = false := by decide) (hcd : (n == ("__classdict__" : Str)) = false := by decide) : PE X (.Call (.Name n p1) [] [] p2) (tCallD X j ls fun σ => σ) :=
  pe_callD (X := X) (s0 := X.s_0) (H0 := X.H_0) (env := X.env) (outer := X.outer) (ex := X.ex) (fn := X.fn) (calm := X.calm) (pn := X.pn) (xe := X.xe) (sel := fun σ => σ) tk hr (fun _ _ _ _ I l hl => caps_of I (ok l hl).names) ok hj hvn hd hcd
end
/-! ### a list leaves the fixed part -/
mutual
/-- no list is in it -/
def noL : PyData → Bool
  | .list _ => false
  | .dict _ => false
  | .tuple ds => noLs ds
  | _ => true
def noLs : List PyData → Bool
  | [] => true
  | d :: ds => noL d && noLs ds
end
theorem noLs_map {α : Type} {en : α → PyData} (h : ∀ a, noL (en a) = true) : ∀ l : List α, noLs (l.map en) = true
  | [] => rfl
  | a :: l => by
    show (noL (en a) && noLs (l.map en)) = true
    rw [h a, noLs_map h l]
    rfl
theorem noL_V {α : Type} {en : α → PyData} (h : ∀ a, noL (en a) = true) (l : List α) : noL (eV en l) = true := noLs_map h l
theorem noL_I (i : Int) : noL (.int i) = true := rfl
theorem noL_2 {α β : Type} {e1' : α → PyData} {e2' : β → PyData} (h1 : ∀ a, noL (e1' a) = true) (h2 : ∀ b, noL (e2' b) = true) (x : α × β) : noL (e2 e1' e2' x) = true := by
  show (noL (e1' x.1) && (noL (e2' x.2) && true)) = true
  rw [h1, h2]
  rfl
theorem noL_3 {α β γ : Type} {a' : α → PyData} {b' : β → PyData} {c' : γ → PyData} (h1 : ∀ a, noL (a' a) = true) (h2 : ∀ b, noL (b' b) = true) (h3 : ∀ c, noL (c' c) = true) (x : α × β × γ) : noL (e3 a' b' c' x) = true := by
  show (noL (a' x.1) && (noL (b' x.2.1) && (noL (c' x.2.2) && true))) = true
  rw [h1, h2, h3]
  rfl
/-- F without the object at p -/
def delF (F : Hp) (p : Addr) : Hp := fun b => if b = p then none else F b
section
variable {K : PySem.W.Frag} {F H : Hp} {p : Addr} {xs : List V}
theorem delF_at {b : Addr} {o : HO} (h : F b = some o) (n : b ≠ p) : delF F p b = some o := by
  unfold delF
  rw [if_neg n]
  exact h
theorem delF_self : delF F p p = none := if_pos rfl
theorem delF_ex (e : Ex F H) : Ex (delF F p) H := fun b o h => by
  unfold delF at h
  by_cases z : b = p
  · rw [if_pos z] at h
    cases h
  · rw [if_neg z] at h
    exact e _ _ h
theorem delF_sq {a : Addr} {ys : List V} (hp : F p = some (.lst xs)) (h : SqT K F a ys) : SqT K (delF F p) a ys := by
  rcases h with (h | ⟨o, h⟩) | h
  · exact .inl (.inl (delF_at h fun z => by rw [z, hp] at h; cases h))
  · exact .inl (.inr ⟨o, delF_at h fun z => by rw [z, hp] at h; cases h⟩)
  · exact .inr h
mutual
theorem dqD (hp : F p = some (.lst xs)) : ∀ (d : PyData) (v : V), noL d = true → Dq K F v d → Dq K (delF F p) v d
  | .none, _, _, .non => .non
  | .bool _, _, _, .bl b => .bl b
  | .int _, _, _, .int i => .int i
  | .str _, _, _, .str x => .str x
  | .list ds, _, n, _ => by cases n
  | .tuple ds, _, n, .tup h a => .tup (delF_sq hp h) (dqAllD hp ds _ n a)
  | .dict _, _, _, h => by cases h
theorem dqAllD (hp : F p = some (.lst xs)) : ∀ (ds : List PyData) (vs : List V), noLs ds = true → DqAll K F vs ds → DqAll K (delF F p) vs ds
  | [], _, _, .nil => .nil
  | d :: ds, _, n, .cons h a => .cons (dqD hp d _ (by
      have n2 : (noL d && noLs ds) = true := n
      exact (Bool.and_eq_true _ _ ▸ n2).1) h) (dqAllD hp ds _ (by
      have n2 : (noL d && noLs ds) = true := n
      exact (Bool.and_eq_true _ _ ▸ n2).2) a)
end
theorem isWD {C : Addr} {v : V} {w : Wt} (hp : F p = some (.lst xs)) (h : IsW K C F v w) : IsW K C (delF F p) v w := by
  obtain ⟨a, dx, m, s, rfl, h1, h2, h3⟩ := h.ex
  exact ⟨a, dx, m, s, rfl, delF_at h1 (fun z => by rw [z, hp] at h1; cases h1), dqD hp _ _ (noL_V (noL_2 noL_I noL_I) _) h2, dqD hp _ _ (noL_V (noL_3 noL_I noL_I noL_I) _) h3⟩
/-- what the def got stays what it was: the list is its own from now on -/
theorem thaw {α : Type} {en : α → PyData} {l : List α} (e : Ex F H) (hp : F p = some (.lst xs)) (n : ∀ a, noL (en a) = true) (h : DqAll K F xs (l.map en)) : Ex (delF F p) H ∧ (H p = some (.lst xs) ∧ delF F p p = none) ∧ DqAll K (delF F p) xs (l.map en) :=
  ⟨delF_ex e, ⟨e _ _ hp, delF_self⟩, dqAllD hp _ _ (noLs_map n l) h⟩
end
end Wk

set_option Elab.async false
set_option linter.all false
set_option maxRecDepth 100000
set_option maxHeartbeats 4000000
/-! ### texts, told by lists of their signs -/
namespace Wk
open PySem L2 Evl PySem.Spec PyProof.Rows TL
abbrev sT (l : List Nat) : Str := ⟨l.toArray⟩
abbrev eT (l : List Nat) : PyData := .str (sT l)
theorem sT_inj {a b : List Nat} : sT a = sT b ↔ a = b := ⟨fun h => by
  have := congrArg (fun s : Str => s.cps.toList) h
  exact this, fun h => by rw [h]⟩
theorem decV_txt {a b : List Nat} : decide (V.str (sT a) = V.str (sT b)) = decide (a = b) := Bool.eq_iff_iff.mpr (by
  simp only [decide_eq_true_eq]
  exact ⟨fun h => sT_inj.mp (by injection h), fun h => by rw [h]⟩)
def okT (l : List Nat) : Bool := l.all (· < 0x110000)
/-- a written text -/
theorem pe_txt {X : Cx} {x : Str} {l : List Nat} {j : Nat} {pos : Pos} (h : x = sT l) : PE X (.Constant (.str x) j pos) (tC (.str (sT l))) := by
  subst h
  exact pe_str
section
variable {K : PySem.W.Frag} {M : List Addr} {F H : Hp} {Q : VK}
def signsT (l : List Nat) : List (List Nat) := l.map fun c => [c]
theorem wlk_str {l : List Nat} : Wlk M F H (Its (sT l)) (signsT l) (fun F v x => Dq K F v (eT x)) := by
  refine ⟨_, _, _, walk_str (z := sT l), by simp [signsT], fun _ _ _ => trivial, fun i x v F' H' H'' g' hx y => ?_⟩
  obtain ⟨rfl, c, hc, rfl⟩ := y
  refine ⟨F', Gm.refl g'.s, ?_⟩
  unfold signsT at hx
  rw [List.getElem?_map] at hx
  have hc' : l[i]? = some c := by
    rw [← hc]
    simp
  rw [hc'] at hx
  obtain rfl := Option.some.inj hx
  exact .str _
/-- new lists of texts -/
theorem strs_txt : ∀ {ys : List Str} {ls : List (List Nat)}, ys.map tl = ls → ys = ls.map sT
  | [], [], _ => rfl
  | [], _ :: _, h => by cases h
  | _ :: _, [], h => by cases h
  | y :: ys, l :: ls, h => by
    rw [List.map_cons] at h
    injection h with h1 h2
    rw [List.map_cons, ← strs_txt h2, ← h1]
theorem txts_all : ∀ ls : List (List Nat), DqAll K F (ls.map fun l => V.str (sT l)) (ls.map eT)
  | [] => .nil
  | l :: ls => .cons (.str _) (txts_all ls)
def splT (b a : List Nat) : List (List Nat) := spl b 0 [] a
theorem split_txt {a b : List Nat} (hb : (!b.isEmpty && b.all (· < 256)) = true) : Txt.split (sT a) (sT b) = (splT b a).map sT := by
  obtain ⟨h1, h2⟩ := Bool.and_eq_true_iff.mp hb
  refine strs_txt (split_spl _ _ (fun z => ?_) (kind_ok ?_))
  · have z2 : b = [] := z
    rw [z2] at h1
    cases h1
  · show (b.toArray).all (· < 256) = true
    rw [List.all_toArray]
    exact h2
theorem new_split {a b : List Nat} (e : Ex F H) (hb : (!b.isEmpty && b.all (· < 256)) = true) (ha : a.length + 2 ≤ 100000) (k : Ret M F H (fun F' _ v => Dq K F' v (eL eT (splT b a))) Q) :
    ∃ (x y : Str), V.str (sT a) = .str x ∧ [V.str (sT b)] = [V.str y] ∧ (y.length == 0) = false ∧ x.length + 2 ≤ sizeLine ∧ rNewStrs (Txt.split x y) H Q := by
  refine ⟨sT a, sT b, rfl, rfl, ?_, sz_of ha, ?_⟩
  · cases b with
    | nil => cases hb
    | cons c r => rfl
  · rw [split_txt hb]
    intro p hp
    rw [List.map_map]
    have g : Gm M F H (upd F p (.lst ((splT b a).map fun l => V.str (sT l)))) (upd H p (.lst ((splT b a).map fun l => V.str (sT l)))) := Gm.new e hp
    exact k _ _ _ g (.lst upd_same (txts_all _))
/-- joined -/
def joinT (a : List Nat) (ls : List (List Nat)) : List Nat := joinL a ls
theorem tl_sT (l : List Nat) : tl (sT l) = l := rfl
theorem join_txt {a : List Nat} {ls : List (List Nat)} : Txt.join (sT a) (ls.map sT) = sT (joinT a ls) := by
  rw [join_eq]
  refine ext_tl ?_
  rw [tl_join, List.map_map]
  show joinL (tl (sT a)) (ls.map fun l => tl (sT l)) = _
  rw [tl_sT, tl_sT]
  simp only [tl_sT, List.map_id']
  rfl
theorem all_txts {xs : List V} {ls : List (List Nat)} (h : DqAll K F xs (ls.map eT)) : xs = (ls.map sT).map V.str := by
  induction ls generalizing xs with
  | nil => cases h; rfl
  | cons l ls ih => cases h with | cons h1 h2 => cases h1; rw [ih h2]; rfl
def joinC (a : List Nat) (ls : List (List Nat)) : Prop := (ls.map List.length).sum + ls.length * a.length ≤ 16777216
instance {a : List Nat} {ls : List (List Nat)} : Decidable (joinC a ls) := by unfold joinC; exact inferInstance
theorem mt_joinK {X : Cx} (K : PySem.W.Frag) (hK : X.K = K := by rfl) : MtR X "str.join" (fun x xs H Q => ∃ (a : List Nat) (p : Addr) (ls : List (List Nat)), x = .str (sT a) ∧ xs = [.ref p] ∧ (SqL K H p ((ls.map sT).map V.str) ∨ SqT K H p ((ls.map sT).map V.str)) ∧
    joinC a ls ∧ Q (.str (sT (joinT a ls))) H) := by
  subst hK
  intro pins s σ H x xs v us Q I rx rs h
  obtain ⟨a, p, ls, rfl, rfl, hp, hz, q⟩ := h
  refine mt_join pins s σ H _ _ v us Q I rx rs ⟨sT a, p, ls.map sT, rfl, rfl, hp, ?_, ?_⟩
  · rw [List.map_map, List.length_map]
    have e : (ls.map ((fun x : Str => x.length) ∘ sT)) = ls.map List.length := List.map_congr_left fun l _ => by show (l.toArray).size = _; simp
    rw [e]
    exact hz
  · rw [join_txt]
    exact q
/-- what stands behind a prefix -/
def rmT (b a : List Nat) : List Nat := if pre b a = true then a.drop b.length else a
end
section
variable {X : Cx}
theorem op_addT : OpR X (binaryOp .Add) (fun x y H Q => ∃ a b, x = .str (sT a) ∧ y = .str (sT b) ∧ a.length + b.length ≤ 100000 ∧ Q (.str (sT (a ++ b))) H) := by
  intro pins s σ H x y v u Q I rx ry h
  obtain ⟨a, b, rfl, rfl, hz, q⟩ := h
  refine op_add_str pins s σ H _ _ v u Q I rx ry ⟨sT a, sT b, rfl, rfl, ?_, ?_⟩
  · show (a.toArray).size + (b.toArray).size ≤ sizeLine
    rw [List.size_toArray, List.size_toArray]
    exact sz_of hz
  · have e : sT a ++ sT b = sT (a ++ b) := ext_tl (by rw [tl_append])
    rw [e]
    exact q
theorem call_lenT : CallR X (.builtin "len") (fun xs H Q => ∃ l, xs = [.str (sT l)] ∧ l.length ≤ 100000 ∧ Q (.int l.length) H) := by
  intro pins s σ H xs us Q I r h
  obtain ⟨l, rfl, hz, q⟩ := h
  refine call_len_str pins s σ H _ us Q I r ⟨sT l, rfl, ?_, ?_⟩
  · show (l.toArray).size ≤ sizeLine
    rw [List.size_toArray]
    exact sz_of hz
  · have e : (sT l).length = l.length := by show (l.toArray).size = _; simp
    rw [e]
    exact q
/-- the signs of a number -/
def intL (i : Int) : List Nat := if i < 0 then 45 :: numL i.natAbs else numL i.natAbs
theorem intL_eq (i : Int) : Str.ofString (toString i) = sT (intL i) := by
  refine ext_tl ?_
  rw [tl_sT]
  unfold intL
  by_cases h : i < 0
  · rw [if_pos h]
    obtain ⟨n, rfl⟩ := Int.exists_eq_neg_ofNat (Int.le_of_lt h)
    have hn : n ≠ 0 := by omega
    obtain ⟨m, rfl⟩ := Nat.exists_eq_succ_of_ne_zero hn
    have e1 : (-((m.succ : Nat) : Int)) = Int.negSucc m := rfl
    rw [e1]
    have e2 : (toString (Int.negSucc m) : String) = "-" ++ toString ((m.succ : Nat) : Int) := rfl
    have e3 := tl_num m.succ
    rw [tl_ofString] at e3
    rw [e2]
    refine (tl_ofString _).trans ?_
    rw [String.toList_append, List.map_append, e3]
    rfl
  · rw [if_neg h]
    obtain ⟨n, rfl⟩ := Int.eq_ofNat_of_zero_le (Int.not_lt.mp h)
    exact tl_num n
theorem call_strT : CallR X (.type "str") (fun xs H Q => ∃ i, xs = [.int i] ∧ i.natAbs < 18446744073709551616 ∧ Q (.str (sT (intL i))) H) := by
  intro pins s σ H xs us Q I r h
  obtain ⟨i, rfl, hz, q⟩ := h
  refine call_str_int pins s σ H _ us Q I r ⟨i, rfl, log_small hz, ?_⟩
  have e : (Str.ofString (toString i)) = sT (intL i) := intL_eq i
  exact e ▸ q
/-- the number of a text of digits -/
def intT (l : List Nat) : Mm Int := match l with
  | 45 :: cs => if (!cs.isEmpty && (cs.all fun c => decide (48 ≤ c) && decide (c ≤ 57)) && decide (cs.length < 600)) = true then .ok (-((NumText.digitsVal cs : Nat) : Int)) else .bad
  | cs => if (!cs.isEmpty && (cs.all fun c => decide (48 ≤ c) && decide (c ≤ 57)) && decide (cs.length < 600)) = true then .ok ((NumText.digitsVal cs : Nat) : Int) else .bad
theorem digs_of {cs : List Nat} (h : (!cs.isEmpty && (cs.all fun c => decide (48 ≤ c) && decide (c ≤ 57)) && decide (cs.length < 600)) = true) : NumText.AllDigits cs ∧ cs ≠ [] ∧ cs.length < 600 := by
  simp only [Bool.and_eq_true, List.all_eq_true, decide_eq_true_eq, Bool.not_eq_true', List.isEmpty_eq_false_iff] at h
  exact ⟨fun c hc => h.1.2 c hc, h.1.1, h.2⟩
theorem intT_some {l : List Nat} {n : Int} (h : intT l = .ok n) : intText? (sT l) = some n ∧ (sT l).length ≤ 640 := by
  have len : ∀ l : List Nat, (sT l).length = l.length := fun l => by show (l.toArray).size = _; simp
  unfold intT at h
  split at h
  · rename_i cs
    split at h
    · rename_i hc
      obtain ⟨h1, h2, h3⟩ := digs_of hc
      injection h with h
      subst h
      exact ⟨intText_neg (x := sT (45 :: cs)) (cs := cs) rfl h1 h2 (by rw [len, List.length_cons]; omega), by rw [len, List.length_cons]; omega⟩
    · cases h
  · split at h
    · rename_i hc
      obtain ⟨h1, h2, h3⟩ := digs_of hc
      injection h with h
      subst h
      exact ⟨intText_digits (x := sT l) h1 h2 (by rw [len]; omega), by rw [len]; omega⟩
    · cases h
theorem post_intT {β : Type} {l : List Nat} {f : Int → Mm β} {ok : β → Prop} {ex : Er → Prop} (h : Post ((intT l).bd f) ok ex) : ∃ n, intT l = .ok n ∧ Post (f n) ok ex := by
  cases e : intT l with
  | ok n => rw [e] at h; exact ⟨n, rfl, ⟨h.h⟩⟩
  | ex e' => unfold intT at e; split at e <;> split at e <;> cases e
  | bad => rw [e] at h; exact h.h.elim
theorem call_intT : CallR X (.type "int") (fun xs H Q => ∃ l n, xs = [.str (sT l)] ∧ intT l = .ok n ∧ Q (.int n) H) := by
  intro pins s σ H xs us Q I r h
  obtain ⟨l, n, rfl, hn, q⟩ := h
  obtain ⟨h1, h2⟩ := intT_some hn
  exact call_int_str pins s σ H _ us Q I r ⟨sT l, n, rfl, h1, h2, q⟩
theorem mt_rmT : MtR X "str.removeprefix" (fun x xs H Q => ∃ (a b : List Nat), x = .str (sT a) ∧ xs = [.str (sT b)] ∧ a.length ≤ 100000 ∧ Q (.str (sT (rmT b a))) H) := by
  intro pins s σ H x xs v us Q I rx rs h
  obtain ⟨a, b, rfl, rfl, hz, q⟩ := h
  have len : ∀ l : List Nat, (sT l).length = l.length := fun l => by show (l.toArray).size = _; simp
  refine mt_removeprefix pins s σ H _ _ v us Q I rx rs ⟨sT a, sT b, rfl, rfl, by rw [len]; exact sz_of hz, ?_⟩
  have e : Txt.removeprefix (sT a) (sT b) = sT (rmT b a) := by
    have sub : Builtin.Str.subAt (sT a) (sT b) 0 = pre b a := by
      rw [StrLaws.subAt_eq, List.drop_zero, len]
      rfl
    rw [StrLaws.removeprefix_eq, sub, len, len]
    unfold rmT
    cases hp : pre b a with
    | false => simp
    | true =>
      have hle : b.length ≤ a.length := by
        have z : a.take b.length = b := eq_of_beq hp
        have z2 := congrArg List.length z
        rw [List.length_take] at z2
        omega
      rw [decide_eq_true (by omega)]
      simp only [Bool.and_self, if_true]
      refine sT_inj.mpr ?_
      show List.take (a.length - b.length) (a.drop b.length) = _
      rw [List.take_of_length_le (by rw [List.length_drop]; exact Nat.le_refl _)]
  rw [e]
  exact q
def leT (a b : List Nat) : Bool := !decide (b < a)
theorem op_leT : OpR X (compareOp .LtE) (fun x y H Q => ∃ a b, x = .str (sT a) ∧ y = .str (sT b) ∧ Q (.bl (leT a b)) H) := by
  intro pins s σ H x y v u Q I rx ry h
  obtain ⟨a, b, rfl, rfl, q⟩ := h
  exact op_le_str pins s σ H _ _ v u Q I rx ry ⟨sT a, sT b, rfl, rfl, q⟩
end
end Wk

set_option Elab.async false
set_option linter.all false
set_option maxRecDepth 100000
set_option maxHeartbeats 4000000
/-! ### dicts of the module with text keys -/
namespace Wk
open PySem PySem.W L2 He
/-- the module's dict x has these texts as keys -/
abbrev DTab : Type := Str × List Str
def lkS {β : Type} (kvs : List (Str × β)) (z : Str) : Option β := kvs.lookup z
structure TabD (K : Frag) (w : World) (a : Addr) (kvs : List (Str × Dv)) : Prop where
  kd : ∃ es n, KDict K w a es n
  some_ : ∀ z v, kvs.lookup z = some v → ∃ u, nsIn K a z = some (some u) ∧ RelV (v.v K) u
  none_ : ∀ z, kvs.lookup z = none → nsIn K a z = some none
theorem keysIn_find {P : Params} : ∀ {l : List DictEntry} {ks : List Str}, l.map He.keyOf = keysIn P ks → ∀ z, z ∉ ks → l.find? (·.key.isStr z) = none ∧ l.any (·.refKey) = false
  | [], _, _, _, _ => ⟨rfl, rfl⟩
  | e :: r, [], h, _, _ => by cases h
  | e :: r, k :: ks, h, z, hz => by
    have h1 : He.keyOf e :: r.map He.keyOf = some (k, PyData.keyHash P k) :: keysIn P ks := h
    injection h1 with h2 h3
    obtain ⟨i1, i2⟩ := keysIn_find h3 z (fun q => hz (List.mem_cons_of_mem _ q))
    have nz : z ≠ k := fun q => hz (by rw [q]; exact List.mem_cons_self ..)
    unfold He.keyOf at h2
    split at h2
    · rename_i x t q
      have h4 := Option.some.inj h2
      obtain ⟨h5, h6⟩ := Prod.mk.inj h4
      subst h5
      have a1 : (e.key.isStr z) = false := by
        rw [q]
        show (x == z) = false
        exact beq_eq_false_iff_ne.mpr (fun y => nz y.symm)
      have a2 : e.refKey = false := by
        unfold DictEntry.refKey
        rw [q]
      refine ⟨?_, ?_⟩
      · rw [List.find?_cons, a1]
        exact i1
      · rw [List.any_cons, a2, i2]
        rfl
    · cases h2
theorem lookup_mem {β : Type} : ∀ {l : List (Str × β)} {z : Str} {v : β}, l.lookup z = some v → (z, v) ∈ l
  | (k, b) :: r, z, v, h => by
    rw [List.lookup_cons] at h
    cases e : (z == k) with
    | true =>
      rw [e] at h
      obtain rfl := Option.some.inj h
      rw [eq_of_beq e]
      exact List.mem_cons_self ..
    | false =>
      rw [e] at h
      exact List.mem_cons_of_mem _ (lookup_mem h)
theorem lookup_not {β : Type} : ∀ {l : List (Str × β)} {z : Str}, l.lookup z = none → z ∉ l.map (·.1)
  | [], _, _, h => by cases h
  | (k, b) :: r, z, h, hm => by
    rw [List.lookup_cons] at h
    cases e : (z == k) with
    | true => rw [e] at h; cases h
    | false =>
      rw [e] at h
      rcases List.mem_cons.mp hm with q | q
      · rw [q] at e
        simp at e
      · exact lookup_not h q
theorem tabD_of {K : Frag} {w : World} {a : Addr} {kvs : List (Str × Dv)} (h : dicW K a = some (keysIn w.params (kvs.map (·.1)))) (hv : valsB K a kvs = true) : TabD K w a kvs := by
  obtain ⟨es, n, D⟩ := dicW_ok h
  refine ⟨⟨es, n, D⟩, fun z v hz => valsB_ok hv (lookup_mem hz), fun z hz => ?_⟩
  have hk : es.toList.map He.keyOf = keysIn w.params (kvs.map (·.1)) := by
    unfold dicW at h
    rw [D.at_] at h
    have h1 : (match decide (("dict" : String) = "dict") && ((#[] : Array (Option Value)).isEmpty && !(a == sysModules)) with
      | true => some (es.toList.map He.keyOf)
      | false => none) = some (keysIn w.params (kvs.map (·.1))) := h
    rw [D.low] at h1
    exact Option.some.inj h1
  obtain ⟨h1, h2⟩ := keysIn_find hk z (lookup_not hz)
  unfold nsIn
  rw [D.at_]
  dsimp only
  rw [h1, h2]
  rfl
section
variable {X : Cx} {a : Addr} {kvs : List (Str × Dv)}
theorem op_in_tab (T : TabD X.K X.w a kvs) : OpR X (compareOp .In) (fun x y H Q => ∃ z, x = .str z ∧ y = .ref a ∧ Q (.bl (kvs.lookup z).isSome) H) := by
  intro pins s σ H x y v u Q I rx ry h
  obtain ⟨z, rfl, rfl, q⟩ := h
  obtain ⟨es, n, D⟩ := T.kd
  cases e : kvs.lookup z with
  | none =>
    rw [e] at q
    exact op_in_kd D pins s σ H _ _ v u Q I rx ry ⟨z, none, rfl, rfl, T.none_ z e, q⟩
  | some d =>
    rw [e] at q
    obtain ⟨u0, h1, h2⟩ := T.some_ z d e
    exact op_in_kd D pins s σ H _ _ v u Q I rx ry ⟨z, some u0, rfl, rfl, h1, q⟩
theorem op_notIn_tab (T : TabD X.K X.w a kvs) : OpR X (compareOp .NotIn) (fun x y H Q => ∃ z, x = .str z ∧ y = .ref a ∧ Q (.bl (!(kvs.lookup z).isSome)) H) := by
  intro pins s σ H x y v u Q I rx ry h
  obtain ⟨z, rfl, rfl, q⟩ := h
  obtain ⟨es, n, D⟩ := T.kd
  cases e : kvs.lookup z with
  | none =>
    rw [e] at q
    exact op_notIn_kd D pins s σ H _ _ v u Q I rx ry ⟨z, none, rfl, rfl, T.none_ z e, q⟩
  | some d =>
    rw [e] at q
    obtain ⟨u0, h1, h2⟩ := T.some_ z d e
    exact op_notIn_kd D pins s σ H _ _ v u Q I rx ry ⟨z, some u0, rfl, rfl, h1, q⟩
/-- x[z] of the module's dict -/
def rTab (K : Frag) (a : Addr) (kvs : List (Str × Dv)) : R2 := fun x y H Q => ∃ z d, x = .ref a ∧ y = .str z ∧ kvs.lookup z = some d ∧ Q (d.v K) H
theorem ix_tab (T : TabD X.K X.w a kvs) : IxR X (rTab X.K a kvs) := by
  intro value slice pins s σ H x y v u Q I rx ry h hs
  obtain ⟨z, d, rfl, rfl, e, q⟩ := h
  obtain ⟨es, n, D⟩ := T.kd
  obtain ⟨u0, h1, h2⟩ := T.some_ z d e
  exact ix_kdict value slice pins s σ H _ _ v u Q I rx ry ⟨a, z, _, rfl, rfl, ⟨es, n, u0, D.at_, D.lit, h1, h2⟩, q⟩ hs
end
/-! ### the Hook with such dicts -/
abbrev AlW : Type := AlD × List (Option (List (Option (Str × Int))))
def tabO (ds : List DTab) (K : Frag) : List (Option (List (Option (Str × Int)))) := ds.map fun d => dicW K (ga K d.1)
def tabV (ds : List DTab) (w : World) : List (Option (List (Option (Str × Int)))) := ds.map fun d => some (keysIn w.params d.2)
def obsXW (as : List Addr) (fa : List Fa) (fn es : List He5.DefA) (ts : List Defn) (ds : List DTab) (ex : Frag → Bool) (g : Addr → Option Obj) : AlW := (obsXT as fa fn es ts ex g, tabO ds (frG g as))
def hookXW (as : List Addr) (fa : List Fa) (fn es : List He5.DefA) (ts : List Defn) (ds : List DTab) (ex : Frag → Bool) : PySem.W.Hook where
  α := AlW
  obs := fun s => obsXW as fa fn es ts ds ex s.heap.get?
  val := fun w => (valXS fn es, tabV ds w)
  says := fun w h => ∃ K : Frag, K.In h ∧ (SaysXS fa fn es ex K ∧ tabO ds K = tabV ds w) ∧ ∀ p ∈ ts, TabK K h p
  of := fun w s e => by
    have e0 : obsXT as fa fn es ts ex s.heap.get? = valXS fn es := congrArg Prod.fst e
    have e3 : tabO ds (frG s.heap.get? as) = tabV ds w := congrArg Prod.snd e
    have e1 : (obsXT as fa fn es ts ex s.heap.get?).1 = true := congrArg Prod.fst e0
    have e2 : (obsXT as fa fn es ts ex s.heap.get?).2 = _ := congrArg Prod.snd e0
    obtain ⟨a1, a2⟩ := ba e1
    exact ⟨_, frG_in, ⟨saysXS_of (Prod.ext a1 e2), e3⟩, fun p hp => tabOk_ok (List.all_eq_true.mp a2 p hp)⟩
  keeps := fun _ _ _ ⟨K, hK, c, t⟩ k => ⟨K, Frag.In.keeps hK k, c, fun p hp => ⟨(t p hp).hd, (t p hp).out, k _ _ (t p hp).empty⟩⟩
theorem obsXW_eq {as : List Addr} {fa : List Fa} {fn es : List He5.DefA} {ts : List Defn} {ds : List DTab} {ex : Frag → Bool} {g : Addr → Option Obj} {s : Shared} (h : ∀ a, g a = s.heap.get? a) : obsXW as fa fn es ts ds ex g = (hookXW as fa fn es ts ds ex).obs s := by
  have e : g = s.heap.get? := funext h
  rw [e] <;> rfl
theorem tab_at {ds : List DTab} {K : Frag} {w : World} {kvs : List (Str × Dv)} {x : Str} (e : tabO ds K = tabV ds w) (i : Nat) (h : ds[i]? = some (x, kvs.map (·.1))) (hv : valsB K (ga K x) kvs = true) : TabD K w (ga K x) kvs := by
  have e2 : (tabO ds K)[i]? = (tabV ds w)[i]? := by rw [e]
  unfold tabO tabV at e2
  rw [List.getElem?_map, List.getElem?_map, h] at e2
  exact tabD_of (Option.some.inj e2) hv
end Wk
namespace Wk
open PySem L2 Evl He
/-! ### tables of ints, keys as lists of signs -/
def tabI (m : List (List Nat × Int)) : List (Str × Dv) := m.map fun p => (sT p.1, Dv.int p.2)
theorem tabI_look (l : List Nat) : ∀ m : List (List Nat × Int), (tabI m).lookup (sT l) = (m.lookup l).map Dv.int
  | [] => rfl
  | (k, i) :: r => by
    show ((sT k, Dv.int i) :: tabI r).lookup (sT l) = _
    rw [List.lookup_cons, List.lookup_cons, tabI_look l r]
    have e : (sT l == sT k) = (l == k) := Bool.eq_iff_iff.mpr (by simp only [beq_iff_eq]; exact sT_inj)
    rw [e]
    cases (l == k) <;> rfl
section
variable {X : Cx} {a : Addr} {m : List (List Nat × Int)}
theorem op_inI (T : TabD X.K X.w a (tabI m)) : OpR X (compareOp .In) (fun x y H Q => ∃ l, x = .str (sT l) ∧ y = .ref a ∧ Q (.bl (m.lookup l).isSome) H) := by
  intro pins s σ H x y v u Q I rx ry h
  obtain ⟨l, rfl, rfl, q⟩ := h
  refine op_in_tab T pins s σ H _ _ v u Q I rx ry ⟨sT l, rfl, rfl, ?_⟩
  rw [tabI_look, Option.isSome_map]
  exact q
theorem op_notInI (T : TabD X.K X.w a (tabI m)) : OpR X (compareOp .NotIn) (fun x y H Q => ∃ l, x = .str (sT l) ∧ y = .ref a ∧ Q (.bl (!(m.lookup l).isSome)) H) := by
  intro pins s σ H x y v u Q I rx ry h
  obtain ⟨l, rfl, rfl, q⟩ := h
  refine op_notIn_tab T pins s σ H _ _ v u Q I rx ry ⟨sT l, rfl, rfl, ?_⟩
  rw [tabI_look, Option.isSome_map]
  exact q
def rTabI (a : Addr) (m : List (List Nat × Int)) : R2 := fun x y H Q => ∃ l i, x = .ref a ∧ y = .str (sT l) ∧ m.lookup l = some i ∧ Q (.int i) H
theorem ix_tabI (T : TabD X.K X.w a (tabI m)) : IxR X (rTabI a m) := by
  intro value slice pins s σ H x y v u Q I rx ry h hs
  obtain ⟨l, i, rfl, rfl, e, q⟩ := h
  exact ix_tab T value slice pins s σ H _ _ v u Q I rx ry ⟨sT l, .int i, rfl, rfl, by rw [tabI_look, e]; rfl, q⟩ hs
end
/-! ### data of any kind -/
def isNonD : PyData → Bool
  | .none => true
  | _ => false
theorem none_D {K : PySem.W.Frag} {F : Hp} {v : V} {d : PyData} (h : Dq K F v d) : decide (v = V.non) = isNonD d := by
  cases h <;> rfl
/-! ### lists of numbers or None, as pairs, as triples -/
def asP2 : List (Option Int) → Option (Int × Int)
  | [some a, some b] => some (a, b)
  | _ => none
theorem asP2_some {x : List (Option Int)} {p : Int × Int} (h : asP2 x = some p) : x = [some p.1, some p.2] := by
  unfold asP2 at h
  split at h
  · obtain rfl := Option.some.inj h
    rfl
  · cases h
def castF2 : List (List (Option Int)) → Mm (List (Int × Int))
  | [] => .ok []
  | x :: r => match asP2 x with
    | some p => (castF2 r).bd fun l => .ok (p :: l)
    | none => .bad
theorem castF2_ok : ∀ {l : List (List (Option Int))} {l' : List (Int × Int)}, castF2 l = .ok l' → eV (eV (eO PyData.int)) l = eV (e2 PyData.int PyData.int) l'
  | [], l', h => by
    injection h with h
    subst h
    rfl
  | x :: r, l', h => by
    unfold castF2 at h
    cases e1 : asP2 x with
    | none => rw [e1] at h; cases h
    | some p =>
      rw [e1] at h
      dsimp only at h
      cases e : castF2 r with
      | ok q =>
        rw [e] at h
        injection h with h
        subst h
        have ih := castF2_ok e
        simp only [eV, PyData.tuple.injEq] at ih
        rw [asP2_some e1]
        simp only [eV, List.map_cons, ih]
        rfl
      | ex z => rw [e] at h; cases h
      | bad => rw [e] at h; cases h
theorem castF2_noex : ∀ {l : List (List (Option Int))} {e : Er}, castF2 l ≠ .ex e
  | [], _, h => by cases h
  | x :: r, z, h => by
    unfold castF2 at h
    cases e1 : asP2 x with
    | none => rw [e1] at h; cases h
    | some p =>
      rw [e1] at h
      dsimp only at h
      cases e : castF2 r with
      | ok q => rw [e] at h; cases h
      | ex z => exact castF2_noex e
      | bad => rw [e] at h; cases h
def asP3 : List (Option Int) → Option (Int × Int × Int)
  | [some a, some b, some c] => some (a, b, c)
  | _ => none
theorem asP3_some {x : List (Option Int)} {p : Int × Int × Int} (h : asP3 x = some p) : x = [some p.1, some p.2.1, some p.2.2] := by
  unfold asP3 at h
  split at h
  · obtain rfl := Option.some.inj h
    rfl
  · cases h
def castF3 : List (List (Option Int)) → Mm (List (Int × Int × Int))
  | [] => .ok []
  | x :: r => match asP3 x with
    | some p => (castF3 r).bd fun l => .ok (p :: l)
    | none => .bad
theorem castF3_ok : ∀ {l : List (List (Option Int))} {l' : List (Int × Int × Int)}, castF3 l = .ok l' → eV (eV (eO PyData.int)) l = eV (e3 PyData.int PyData.int PyData.int) l'
  | [], l', h => by
    injection h with h
    subst h
    rfl
  | x :: r, l', h => by
    unfold castF3 at h
    cases e1 : asP3 x with
    | none => rw [e1] at h; cases h
    | some p =>
      rw [e1] at h
      dsimp only at h
      cases e : castF3 r with
      | ok q =>
        rw [e] at h
        injection h with h
        subst h
        have ih := castF3_ok e
        simp only [eV, PyData.tuple.injEq] at ih
        rw [asP3_some e1]
        simp only [eV, List.map_cons, ih]
        rfl
      | ex z => rw [e] at h; cases h
      | bad => rw [e] at h; cases h
theorem castF3_noex : ∀ {l : List (List (Option Int))} {e : Er}, castF3 l ≠ .ex e
  | [], _, h => by cases h
  | x :: r, z, h => by
    unfold castF3 at h
    cases e1 : asP3 x with
    | none => rw [e1] at h; cases h
    | some p =>
      rw [e1] at h
      dsimp only at h
      cases e : castF3 r with
      | ok q => rw [e] at h; cases h
      | ex z => exact castF3_noex e
      | bad => rw [e] at h; cases h
section
variable {β : Type} {l : List (List (Option Int))} {ok : β → Prop} {ex : Er → Prop}
theorem post_castF2 {f : List (Int × Int) → Mm β} (h : Post ((castF2 l).bd f) ok ex) : ∃ l', eV (eV (eO PyData.int)) l = eV (e2 PyData.int PyData.int) l' ∧ Post (f l') ok ex := by
  cases e : castF2 l with
  | ok q => rw [e] at h; exact ⟨q, castF2_ok e, ⟨h.h⟩⟩
  | ex z => exact absurd e castF2_noex
  | bad => rw [e] at h; exact h.h.elim
theorem post_castF3 {f : List (Int × Int × Int) → Mm β} (h : Post ((castF3 l).bd f) ok ex) : ∃ l', eV (eV (eO PyData.int)) l = eV (e3 PyData.int PyData.int PyData.int) l' ∧ Post (f l') ok ex := by
  cases e : castF3 l with
  | ok q => rw [e] at h; exact ⟨q, castF3_ok e, ⟨h.h⟩⟩
  | ex z => exact absurd e castF3_noex
  | bad => rw [e] at h; exact h.h.elim
end
end Wk

set_option Elab.async false
set_option linter.all false
set_option maxRecDepth 100000
set_option maxHeartbeats 4000000
/-! ### f-strings told by signs; ranges from their ends; texts of data -/
namespace Wk
open PySem L2 Evl PySem.Spec PyProof.Rows TL
theorem len_sT (l : List Nat) : (sT l).length = l.length := by show (l.toArray).size = _; simp
theorem app_sT (a b : List Nat) : sT a ++ sT b = sT (a ++ b) := ext_tl (by rw [tl_append])
section
variable {R : Str → Prop} {P : V → Prop} {a b : List Nat} {i : Int}
/-- a written part -/
theorem js_c (h : a.length + b.length ≤ 100000) (k : R (sT (a ++ b))) : ∃ y : Str, V.str (sT b) = .str y ∧ (sT a ++ y).length ≤ sizeLine ∧ R (sT a ++ y) := by
  refine ⟨sT b, rfl, ?_, ?_⟩
  · rw [app_sT, len_sT, List.length_append]
    exact sz_of h
  · rw [app_sT]
    exact k
/-- {i} -/
theorem js_i (hi : i.natAbs < 18446744073709551616) (h : a.length + (intL i).length ≤ 100000) (k : R (sT (a ++ intL i))) :
    (∃ y : Str, V.int i = .str y ∧ y.length ≤ sizeLine ∧ ∃ z : Str, V.str y = .str z ∧ (sT a ++ z).length ≤ sizeLine ∧ R (sT a ++ z)) ∨
    ∃ j : Int, V.int i = .int j ∧ j.natAbs.log2 < 1920 ∧ ∃ z : Str, V.str (Str.ofString (toString j)) = .str z ∧ (sT a ++ z).length ≤ sizeLine ∧ R (sT a ++ z) := by
  refine .inr ⟨i, rfl, log_small hi, sT (intL i), by rw [intL_eq], ?_, ?_⟩
  · rw [app_sT, len_sT, List.length_append]
    exact sz_of h
  · rw [app_sT]
    exact k
/-- {x}, x a text -/
theorem js_t (h : a.length + b.length ≤ 100000) (k : R (sT (a ++ b))) :
    (∃ y : Str, V.str (sT b) = .str y ∧ y.length ≤ sizeLine ∧ ∃ z : Str, V.str y = .str z ∧ (sT a ++ z).length ≤ sizeLine ∧ R (sT a ++ z)) ∨
    ∃ j : Int, V.str (sT b) = .int j ∧ j.natAbs.log2 < 1920 ∧ ∃ z : Str, V.str (Str.ofString (toString j)) = .str z ∧ (sT a ++ z).length ≤ sizeLine ∧ R (sT a ++ z) := by
  refine .inl ⟨sT b, rfl, ?_, sT b, rfl, ?_, ?_⟩
  · rw [len_sT]
    exact sz_of (by omega)
  · rw [app_sT, len_sT, List.length_append]
    exact sz_of h
  · rw [app_sT]
    exact k
end
/-! reversed(range(n)) -/
def revL (j : Int) : List Int := rangeDn (0 + (((j - 0).toNat : Nat) : Int) - 1) (j - 0).toNat
/-! str(x) of a text or a number -/
def strD : PyData → Mm (List Nat)
  | .int i => if i.natAbs < 18446744073709551616 then .ok (intL i) else .bad
  | .str s => .ok s.cps.toList
  | _ => .bad
theorem sT_tl (s : Str) : sT s.cps.toList = s := ext_tl rfl
def StrOf (v : V) (l : List Nat) : Prop := (∃ i : Int, v = .int i ∧ i.natAbs < 18446744073709551616 ∧ l = intL i) ∨ v = .str (sT l)
theorem post_strD {K : PySem.W.Frag} {F : Hp} {v : V} {d : PyData} {β : Type} {f : List Nat → Mm β} {ok : β → Prop} {ex : Er → Prop} (r : Dq K F v d) (h : Post ((strD d).bd f) ok ex) : ∃ l, StrOf v l ∧ Post (f l) ok ex := by
  cases r with
  | int i =>
    unfold strD at h
    dsimp only at h
    by_cases c : i.natAbs < 18446744073709551616
    · rw [if_pos c] at h
      exact ⟨_, .inl ⟨i, rfl, c, rfl⟩, ⟨h.h⟩⟩
    · rw [if_neg c] at h
      exact h.h.elim
  | str x => exact ⟨x.cps.toList, .inr (by rw [sT_tl]), ⟨h.h⟩⟩
  | _ => exact h.h.elim
section
variable {X : Cx}
theorem call_strD : CallR X (.type "str") (fun xs H Q => ∃ v l, xs = [v] ∧ StrOf v l ∧ Q (.str (sT l)) H) := by
  intro pins s σ H xs us Q I r h
  obtain ⟨v, l, rfl, h, q⟩ := h
  rcases h with ⟨i, rfl, hi, rfl⟩ | rfl
  · exact call_strT pins s σ H _ us Q I r ⟨i, rfl, hi, q⟩
  · exact SkE.call_str_str pins s σ H _ us Q I r ⟨_, rfl, q⟩
end
end Wk
namespace Wk
open PySem L2 Evl
theorem all_asD {K : PySem.W.Frag} {F : Hp} {xs : List V} {α : Type} {en : α → PyData} {l : List α} (h : DqAll K F xs (l.map en)) : DqAll K F xs (List.map id (l.map en)) := by
  rw [List.map_id]
  exact h
end Wk
namespace Wk
open PySem L2 Evl
/-- list(xs), the fragment named -/
theorem call_list_ofK {X : Cx} (K : PySem.W.Frag) (hK : X.K = K := by rfl) : CallR X (.type "list") (fun xs H Q => ∃ p ys, xs = [.ref p] ∧ (SqL K H p ys ∨ SqT K H p ys) ∧ ∀ l, H l = none → Q (.ref l) (upd H l (.lst ys))) := by
  subst hK
  exact call_list_of
theorem call_tuple_ofK {X : Cx} (K : PySem.W.Frag) (hK : X.K = K := by rfl) : CallR X (.type "tuple") (fun xs H Q => ∃ p ys, xs = [.ref p] ∧ ((SqL K H p ys ∧ ∀ l, H l = none → Q (.ref l) (upd H l (.tup ys))) ∨ (SqT K H p ys ∧ Q (.ref p) H))) := by
  subst hK
  exact call_tuple_of
end Wk
namespace Wk
open PySem L2 Evl
theorem pi_listK {X : Cx} {tg e : Expr} {te : TE} (K : PySem.W.Frag) (he : PE X e te) (hK : X.K = K := by rfl) : PI X tg e (iList K te) := by
  subst hK
  exact pi_list he
theorem pi_tupK {X : Cx} {tg e : Expr} {te : TE} (K : PySem.W.Frag) (he : PE X e te) (hK : X.K = K := by rfl) : PI X tg e (iTup K te) := by
  subst hK
  exact pi_tup he
end Wk

set_option Elab.async false
set_option linter.all false
set_option maxRecDepth 100000
set_option maxHeartbeats 1000000
set_option exponentiation.threshold 100
namespace Wk
open PySem L2
theorem bdo {α β : Type} {a : α} {f : α → Mm β} : (Mm.ok a).bd f = f a := rfl
theorem cF {α : Type} {c : Bool} {x y : α} (h : c = false) : cond c x y = y := by subst h; rfl
theorem cT {α : Type} {c : Bool} {x y : α} (h : c = true) : cond c x y = x := by subst h; rfl
theorem guard_ok {c : Prop} [Decidable c] (h : c) : guardM c = .ok () := if_pos h
theorem intc_ne {n : Int} (h : n ≠ 0) : ((n : Int) : Rat) ≠ 0 := fun z => h (Rat.intCast_inj.mp (show ((n : Int) : Rat) = ((0 : Int) : Rat) from z))
theorem fr_zero : fr 0 = (0, 1) := by decide
theorem fr_one : fr 1 = (1, 1) := by decide
theorem fr_of_int (n : Int) : fr ((n : Int) : Rat) = (n, 1) := by
  unfold fr
  rw [Rat.num_intCast, Rat.den_intCast]
  rfl
theorem sq_int {n : Int} {a : Nat} (h : n.natAbs < 2 ^ a) (h0 : 0 < a) : Sq a ((n : Int) : Rat) := by
  unfold Sq
  rw [Rat.num_intCast, Rat.den_intCast]
  exact ⟨h, Nat.one_lt_two_pow (by omega)⟩
theorem zero_sq : Sq 1 0 := by unfold Sq; decide
theorem one_sq : Sq 1 1 := by unfold Sq; decide
theorem zero_sqn {a : Nat} (h : 0 < a) : Sq a 0 := zero_sq.up h
/-- a fraction by any terms -/
theorem fr_flip (a b : Int) : (a : Rat) / (b : Rat) = (((-a : Int) : Rat) / ((-b : Int) : Rat)) := by
  push_cast
  grind
theorem fdiv_neg_dvd {g a : Int} (h : 0 < g) (d : g ∣ a) : a.fdiv (-g) = (-a) / g := by
  obtain ⟨c, rfl⟩ := d
  have e : g * c = (-g) * (-c) := by rw [Int.neg_mul_neg]
  have e2 : -(g * c) = g * (-c) := by rw [Int.mul_neg]
  rw [e2, Int.mul_ediv_cancel_left _ (by omega), e, Int.mul_fdiv_cancel_left _ (by omega)]
theorem gcd_posZ {a b : Int} (h : b ≠ 0) : 0 < ((Nat.gcd a.natAbs b.natAbs : Nat) : Int) := by
  have : 0 < Nat.gcd a.natAbs b.natAbs := Nat.gcd_pos_of_pos_right _ (by omega)
  omega
theorem gcd_leZ {a b : Int} (h : b ≠ 0) : ((Nat.gcd a.natAbs b.natAbs : Nat) : Int).natAbs ≤ b.natAbs := by
  rw [Int.natAbs_natCast]
  exact Nat.gcd_le_right _ (by omega)
theorem fr_pos {a b : Int} (h : 0 < b) : fr ((a : Rat) / (b : Rat)) = (a.fdiv ((Nat.gcd a.natAbs b.natAbs : Nat) : Int), b.fdiv ((Nat.gcd a.natAbs b.natAbs : Nat) : Int)) := by
  have g0 := gcd_posZ (a := a) (b := b) (by omega)
  rw [Int.fdiv_eq_ediv_of_nonneg _ (Int.le_of_lt g0), Int.fdiv_eq_ediv_of_nonneg _ (Int.le_of_lt g0)]
  exact fr_int a h
theorem fr_neg {a b : Int} (h : b < 0) : fr ((a : Rat) / (b : Rat)) = (a.fdiv (-((Nat.gcd a.natAbs b.natAbs : Nat) : Int)), b.fdiv (-((Nat.gcd a.natAbs b.natAbs : Nat) : Int))) := by
  have g0 := gcd_posZ (a := a) (b := b) (by omega)
  rw [fdiv_neg_dvd g0 (Int.ofNat_dvd_left.mpr (Nat.gcd_dvd_left _ _)), fdiv_neg_dvd g0 (Int.ofNat_dvd_left.mpr (Nat.gcd_dvd_right _ _)), fr_flip, fr_int (-a) (show 0 < -b by omega), Int.natAbs_neg, Int.natAbs_neg]
theorem sq_any {n : Nat} {a b : Int} (h : b ≠ 0) (ha : a.natAbs < 2 ^ n) (hb : b.natAbs < 2 ^ n) : Sq n ((a : Rat) / (b : Rat)) := by
  by_cases q : 0 < b
  · exact sq_div q ha hb
  · rw [fr_flip]
    exact sq_div (by omega) (by omega) (by omega)
/-- x stands for q, in any terms -/
structure Rx (n : Nat) (x : Int × Int) (q : Rat) : Prop where
  nz : x.2 ≠ 0
  t : x.1.natAbs < 2 ^ n
  b : x.2.natAbs < 2 ^ n
  v : (x.1 : Rat) / (x.2 : Rat) = q
theorem Rx.sq {n : Nat} {x : Int × Int} {q : Rat} (h : Rx n x q) : Sq n q := by
  rw [← h.v]
  exact sq_any h.nz h.t h.b
theorem Rx.up {n m : Nat} {x : Int × Int} {q : Rat} (h : Rx n x q) (l : n ≤ m) : Rx m x q := ⟨h.nz, up_lt h.t l, up_lt h.b l, h.v⟩
theorem rx_fr {n : Nat} {q : Rat} (h : Sq n q) : Rx n (fr q) q := ⟨by have := den_posI q; show ((q.den : Nat) : Int) ≠ 0; omega, h.1, h.d, fr_val q⟩
theorem rx_int {n : Nat} {i : Int} (h : i.natAbs < 2 ^ n) (h0 : 0 < n) : Rx n (i, 1) (i : Rat) := by
  rw [← fr_of_int]
  exact rx_fr (sq_int h h0)
theorem mul_nz {a b : Int} (h : a ≠ 0) (h2 : b ≠ 0) : a * b ≠ 0 := Int.mul_ne_zero h h2
theorem rx_add {x y : Int × Int} {p q : Rat} {a b : Nat} (hx : Rx a x p) (hy : Rx b y q) : ((x.1 * y.2 + y.1 * x.2 : Int) : Rat) / ((x.2 * y.2 : Int) : Rat) = p + q := by
  rw [← hx.v, ← hy.v]
  have h1 := intc_ne hx.nz
  have h2 := intc_ne hy.nz
  push_cast
  grind
theorem rx_sub {x y : Int × Int} {p q : Rat} {a b : Nat} (hx : Rx a x p) (hy : Rx b y q) : ((x.1 * y.2 - y.1 * x.2 : Int) : Rat) / ((x.2 * y.2 : Int) : Rat) = p - q := by
  rw [← hx.v, ← hy.v]
  have h1 := intc_ne hx.nz
  have h2 := intc_ne hy.nz
  push_cast
  grind
theorem rx_mul {x y : Int × Int} {p q : Rat} {a b : Nat} (hx : Rx a x p) (hy : Rx b y q) : ((x.1 * y.1 : Int) : Rat) / ((x.2 * y.2 : Int) : Rat) = p * q := by
  rw [← hx.v, ← hy.v]
  have h1 := intc_ne hx.nz
  have h2 := intc_ne hy.nz
  push_cast
  grind
theorem Rx.top {x : Int × Int} {q : Rat} {n : Nat} (h : Rx n x q) (hq : q ≠ 0) : x.1 ≠ 0 := fun z => by
  have := h.v
  rw [z] at this
  have e : ((0 : Int) : Rat) / (x.2 : Rat) = 0 := by
    push_cast
    grind
  exact hq (by rw [← this, e])
theorem rx_div {x y : Int × Int} {p q : Rat} {a b : Nat} (hx : Rx a x p) (hy : Rx b y q) (hq : q ≠ 0) : ((x.1 * y.2 : Int) : Rat) / ((x.2 * y.1 : Int) : Rat) = p / q := by
  have h0 := intc_ne (hy.top hq)
  have h1 := intc_ne hx.nz
  have h2 := intc_ne hy.nz
  rw [← hx.v, ← hy.v]
  push_cast
  grind
theorem sq_subB {p q : Rat} {a b n : Nat} (ha : Sq a p) (hb : Sq b q) (h : a + b < n) : Sq n (p - q) := by
  rw [← rx_sub (rx_fr ha) (rx_fr hb)]
  refine sq_div (Int.mul_pos (den_posI p) (den_posI q)) ?_ (mul_lt ha.d hb.d (by omega))
  exact sub_lt (mul_lt ha.1 hb.d (Nat.le_refl _)) (mul_lt hb.1 ha.d (Nat.le_refl _)) (by omega) (by omega)
theorem sq_negB {q : Rat} {a : Nat} (h : Sq a q) : Sq a (-q) := by
  unfold Sq
  rw [Rat.neg_num, Rat.neg_den, Int.natAbs_neg]
  exact h
theorem sq_divB {p q : Rat} {a b n : Nat} (ha : Sq a p) (hb : Sq b q) (hq : q ≠ 0) (h : a + b ≤ n) : Sq n (p / q) := by
  rw [← rx_div (rx_fr ha) (rx_fr hb) hq]
  exact sq_any (mul_nz (rx_fr ha).nz ((rx_fr hb).top hq)) (mul_lt ha.1 hb.d h) (mul_lt ha.d hb.1 h)
theorem fr_negv (q : Rat) : ((0 : Int) - (fr q).1, (fr q).2) = fr (-q) := by
  unfold fr
  rw [Rat.neg_num, Rat.neg_den, Int.zero_sub]
def Sqs (a : Nat) (l : List Rat) : Prop := ∀ q ∈ l, Sq a q
theorem Sqs.up {a b : Nat} {l : List Rat} (h : Sqs a l) (k : a ≤ b) : Sqs b l := fun q hq => (h q hq).up k
/-! ### folds -/
theorem foldM_map {α β S : Type} {f : S → β → Mm S} {g : α → β} : ∀ (l : List α) (s : S), foldM f s (l.map g) = foldM (fun s x => f s (g x)) s l
  | [], s => rfl
  | x :: l, s => by
    rw [List.map_cons]
    show (f s (g x)).bd _ = (f s (g x)).bd _
    congr 1
    funext s'
    exact foldM_map l s'
theorem mapMm_map {α β γ : Type} {f : β → Mm γ} {g : α → β} : ∀ l : List α, mapMm f (l.map g) = mapMm (fun x => f (g x)) l
  | [] => rfl
  | x :: l => by
    rw [List.map_cons]
    unfold mapMm
    rw [mapMm_map l]
theorem zero_add' (q : Rat) : 0 + q = q := by grind
theorem fold_fr {α : Type} {f : Int × Int → α → Mm (Int × Int)} {v : α → Rat} {c : Nat} : ∀ (l : List α), (∀ x ∈ l, Sq c (v x) ∧ ∀ p a, Sq a p → a + c < 8999 → f (fr p) x = .ok (fr (p + v x))) → ∀ (p : Rat) (a : Nat), Sq a p → a + (c + 1) * l.length < 8998 →
    foldM f (fr p) l = .ok (fr (p + (l.map v).sum)) ∧ Sq (a + (c + 1) * l.length) (p + (l.map v).sum)
  | [], _, p, a, ha, _ => by
    have e : p + ([].map v).sum = p := by
      show p + 0 = p
      grind
    rw [e]
    exact ⟨rfl, ha⟩
  | x :: l, h, p, a, ha, hl => by
    have e1 : (c + 1) * (x :: l).length = (c + 1) * l.length + (c + 1) := by rw [List.length_cons, Nat.mul_succ]
    obtain ⟨sx, hx⟩ := h x (List.mem_cons_self ..)
    obtain ⟨h1, h2⟩ := fold_fr l (fun y hy => h y (List.mem_cons_of_mem _ hy)) (p + v x) (a + c + 1) (sq_add ha sx (by omega)) (by omega)
    have e2 : p + ((x :: l).map v).sum = p + v x + (l.map v).sum := by
      rw [List.map_cons, List.sum_cons]
      grind
    rw [e2]
    refine ⟨?_, h2.up (by omega)⟩
    unfold foldM
    rw [hx p a ha (by omega)]
    exact h1
/-- a sum that begins with 0 -/
theorem fold_fr0 {α : Type} {f : Int × Int → α → Mm (Int × Int)} {v : α → Rat} {c : Nat} (l : List α) (h : ∀ x ∈ l, Sq c (v x) ∧ ∀ p a, Sq a p → a + c < 8999 → f (fr p) x = .ok (fr (p + v x))) (hl : (c + 1) * l.length < 8996) :
    foldM f ((0, 1) : Int × Int) l = .ok (fr (l.map v).sum) ∧ Sq (1 + (c + 1) * l.length) (l.map v).sum := by
  have := fold_fr l h 0 1 zero_sq (by omega)
  rw [zero_add', fr_zero] at this
  exact this
/-! ### polynomials -/
def ev : List Rat → Rat → Rat
  | [], _ => 0
  | c :: l, x => c + x * ev l x
theorem ev_sq {p : Rat} {b c : Nat} (hp : Sq b p) : ∀ l : List Rat, Sqs c l → Sq ((b + c + 1) * l.length + 1) (ev l p)
  | [], _ => zero_sqn (by omega)
  | x :: l, h => by
    have ih := ev_sq hp l fun q hq => h q (List.mem_cons_of_mem _ hq)
    have e : (b + c + 1) * (x :: l).length = (b + c + 1) * l.length + (b + c + 1) := by rw [List.length_cons, Nat.mul_succ]
    exact sq_add (h x (List.mem_cons_self ..)) (sq_mul hp ih (Nat.le_refl _)) (by omega)
theorem foldM_app {α S : Type} {f : S → α → Mm S} : ∀ (l r : List α) (s : S), foldM f s (l ++ r) = (foldM f s l).bd fun s' => foldM f s' r
  | [], r, s => rfl
  | x :: l, r, s => by
    show (f s x).bd (fun s' => foldM f s' (l ++ r)) = ((f s x).bd fun s' => foldM f s' l).bd fun s' => foldM f s' r
    rw [bd_assoc]
    congr 1
    funext s'
    exact foldM_app l r s'
/-- Horner's way -/
theorem horner {f : Int × Int → Rat → Mm (Int × Int)} {p : Rat} {b c : Nat} (hp : Sq b p) (N : Nat) (hf : ∀ x, Sq c x → ∀ q a, Sq a q → a + b + c + 1 ≤ N → f (fr q) x = .ok (fr (q * p + x))) : ∀ (l : List Rat), Sqs c l → (b + c + 1) * l.length + 1 ≤ N → foldM f ((0, 1) : Int × Int) l.reverse = .ok (fr (ev l p))
  | [], _, _ => by
    show Mm.ok _ = _
    rw [← fr_zero]
    rfl
  | x :: l, h, hN => by
    have e : (b + c + 1) * (x :: l).length = (b + c + 1) * l.length + (b + c + 1) := by rw [List.length_cons, Nat.mul_succ]
    have hl : Sqs c l := fun q hq => h q (List.mem_cons_of_mem _ hq)
    rw [List.reverse_cons, foldM_app, horner hp N hf l hl (by omega)]
    show (f _ x).bd _ = _
    rw [hf x (h x (List.mem_cons_self ..)) _ _ (ev_sq hp l hl) (by omega)]
    show Mm.ok _ = _
    congr 2
    show _ = x + p * ev l p
    grind
/-! ### numbered lists, items -/
def numL {α : Type} : Int → List α → List (Int × α)
  | _, [] => []
  | k, x :: l => (k, x) :: numL (k + 1) l
theorem rangeL_succ (k : Int) (n : Nat) : rangeL k (n + 1) = k :: rangeL (k + 1) n := by
  unfold rangeL
  rw [List.range_succ_eq_map, List.map_cons, List.map_map]
  congr 1
  · omega
  · refine List.map_congr_left fun i _ => ?_
    show k + ((i + 1 : Nat) : Int) = k + 1 + (i : Int)
    omega
theorem rangeL_len (k : Int) (n : Nat) : (rangeL k n).length = n := by simp [rangeL]
theorem enum_num {α : Type} : ∀ (l : List α) (k : Int), (rangeL k l.length).zip l = numL k l
  | [], k => rfl
  | x :: l, k => by
    rw [List.length_cons, rangeL_succ, List.zip_cons_cons, enum_num l]
    rfl
theorem enumL_eq {α : Type} (l : List α) : enumL l = numL 0 l := enum_num l 0
theorem numL_len {α : Type} : ∀ (l : List α) (k : Int), (numL k l).length = l.length
  | [], k => rfl
  | x :: l, k => by
    unfold numL
    rw [List.length_cons, numL_len l, List.length_cons]
theorem numL_mem {α : Type} : ∀ (l : List α) (k : Int) (x : Int × α), x ∈ numL k l → k ≤ x.1 ∧ x.1 < k + l.length ∧ x.2 ∈ l
  | [], k, x, h => by cases h
  | y :: l, k, x, h => by
    rcases List.mem_cons.mp h with rfl | h
    · refine ⟨Int.le_refl _, ?_, List.mem_cons_self ..⟩
      show k < k + ((l.length + 1 : Nat) : Int)
      omega
    · obtain ⟨a, b, c⟩ := numL_mem l (k + 1) x h
      refine ⟨by omega, ?_, List.mem_cons_of_mem _ c⟩
      show x.1 < k + ((l.length + 1 : Nat) : Int)
      omega
theorem numL_map {α β : Type} (f : α → β) : ∀ (l : List α) (k : Int), numL k (l.map f) = (numL k l).map fun x => (x.1, f x.2)
  | [], k => rfl
  | x :: l, k => by
    rw [List.map_cons]
    unfold numL
    rw [numL_map f l, List.map_cons]
theorem getM_mid {α : Type} (l r : List α) (x : α) : getM (l ++ x :: r) (l.length : Int) = .ok x := by
  unfold getM
  rw [atI_nat (j := l.length) (v := x) (by simp)]
theorem getM_nat {α : Type} {l : List α} {i : Nat} {x : α} (h : l[i]? = some x) : getM l (i : Int) = .ok x := by
  unfold getM
  rw [atI_nat (j := i) (v := x) h]
theorem getM_last {α : Type} (l : List α) (x : α) : getM (l ++ [x]) (-(1 : Int)) = .ok x := by
  unfold getM
  rw [atI_last]
theorem getM_ok {α : Type} {l : List α} {i : Int} (h : 0 ≤ i) (h2 : i < l.length) : ∃ x, x ∈ l ∧ getM l i = .ok x := by
  have e : i = ((i.toNat : Nat) : Int) := by omega
  have lt : i.toNat < l.length := by omega
  have q := getM_nat (List.getElem?_eq_getElem lt)
  rw [← e] at q
  exact ⟨l[i.toNat], List.getElem_mem lt, q⟩
theorem rangeM_ok {n : Nat} (h : n < 1000000) : rangeM (n : Int) = .ok (rangeL 0 n) := by
  have := range_ok (j := (n : Int)) (by omega) (by omega)
  rw [this, Int.toNat_natCast]
theorem rangeDn_rev (n : Nat) : rangeDn ((n : Int) - 1) n = (rangeL 0 n).reverse := by
  unfold rangeDn rangeL
  rw [← List.map_reverse]
  apply List.ext_getElem
  · simp
  · intro i h1 h2
    simp only [List.length_map, List.length_range] at h1
    simp only [List.getElem_map, List.getElem_range, List.getElem_reverse, List.length_range]
    omega
theorem fold_getR {α S : Type} {h : S → α → Mm S} (L : List α) : ∀ (n : Nat) (l post : List α) (s : S), l.length = n → L = l ++ post → foldM (fun s i => (getM L i).bd fun v => h s v) s (rangeL 0 l.length).reverse = foldM h s l.reverse
  | 0, l, post, s, hn, e => by
    have : l = [] := List.length_eq_zero_iff.mp hn
    subst this
    rfl
  | n + 1, l, post, s, hn, e => by
    rcases List.eq_nil_or_concat l with q | ⟨l', x, q⟩
    · rw [q] at hn
      cases hn
    · rw [List.concat_eq_append] at q
      subst q
      have e1 : rangeL 0 (l' ++ [x]).length = rangeL 0 l'.length ++ [(l'.length : Int)] := by
        unfold rangeL
        rw [List.length_append, List.length_singleton, List.range_succ, List.map_append, List.map_cons, List.map_nil, Int.zero_add]
      have e2 : L = l' ++ x :: post := by rw [e]; simp
      rw [e1, List.reverse_append, List.reverse_append, foldM_app, foldM_app]
      show Mm.bd (Mm.bd (Mm.bd (getM L (l'.length : Int)) _) _) _ = Mm.bd (Mm.bd (h s x) _) _
      have g : getM L (l'.length : Int) = .ok x := by rw [e2]; exact getM_mid _ _ _
      rw [g]
      show Mm.bd (Mm.bd (h s x) _) _ = _
      congr 1
      funext s'
      exact fold_getR L n l' (x :: post) s' (by simpa using hn) e2
theorem fold_get {α S : Type} {h : S → Int → α → Mm S} (L : List α) : ∀ (l pre : List α) (s : S), L = pre ++ l → foldM (fun s i => (getM L i).bd fun v => h s i v) s (rangeL (pre.length : Int) l.length) = foldM (fun s (x : Int × α) => h s x.1 x.2) s (numL (pre.length : Int) l)
  | [], pre, s, _ => rfl
  | x :: l, pre, s, e => by
    rw [List.length_cons, rangeL_succ]
    unfold foldM numL
    rw [e, getM_mid, ← e]
    show (h s _ x).bd _ = (h s _ x).bd _
    congr 1
    funext s'
    have := fold_get (h := h) L l (pre ++ [x]) s' (by rw [e]; simp)
    rw [List.length_append, List.length_singleton] at this
    have e2 : ((pre.length + 1 : Nat) : Int) = (pre.length : Int) + 1 := by omega
    rw [e2] at this
    exact this
/-! ### draws -/
def Rk (N : Nat) (st : Rw) : Prop := 0 ≤ st.seed ∧ st.seed < 2147483647 ∧ 0 ≤ st.pos ∧ st.pos ≤ N
theorem Rk.up {N M : Nat} {st : Rw} (h : Rk N st) (k : N ≤ M) : Rk M st := ⟨h.1, h.2.1, h.2.2.1, by have := h.2.2.2; omega⟩
theorem seedN_ok (s c : Int) : 0 ≤ seedN s c ∧ seedN s c < 2147483647 := by
  unfold seedN
  omega
theorem takenA_ok {scr : List Int} {st : Rw} {many : Int} {N : Nat} (r : Rk N st) (h0 : 0 < many) (h1 : many < 1073741824) (hN : N < 999999) : Yes (takenA scr st many) fun r => (0 ≤ r.1 ∧ r.1 < many) ∧ Rk (N + 1) r.2 := by
  obtain ⟨r1, r2, r3, r4⟩ := r
  unfold takenA
  rw [if_pos ⟨h0, h1, r1, r2, r3, by omega⟩]
  split
  · refine ⟨_, rfl, ⟨Int.emod_nonneg _ (by omega), Int.emod_lt_of_pos _ h0⟩, r1, r2, r3, ?_⟩
    show st.pos ≤ _
    omega
  · split
    · obtain ⟨s1, s2⟩ := seedN_ok st.seed 0
      exact ⟨_, rfl, ⟨Int.emod_nonneg _ (by omega), Int.emod_lt_of_pos _ h0⟩, s1, s2, by show 0 ≤ st.pos + 1; omega, by show st.pos + 1 ≤ _; omega⟩
    · rename_i c _
      obtain ⟨s1, s2⟩ := seedN_ok st.seed c
      exact ⟨_, rfl, ⟨Int.emod_nonneg _ (by omega), Int.emod_lt_of_pos _ h0⟩, s1, s2, by show 0 ≤ st.pos + 1; omega, by show st.pos + 1 ≤ _; omega⟩
theorem takenB_ok {scr : List Int} {st : Rw} {many : Int} {N : Nat} (r : Rk N st) (h0 : 0 < many) (h1 : many < 1073741824) (hN : N < 999999) : Yes (takenB scr st many) fun r => (0 ≤ r.1 ∧ r.1 < many) ∧ Rk (N + 1) r.2 := by
  obtain ⟨r1, r2, r3, r4⟩ := r
  unfold takenB
  rw [if_pos ⟨h0, h1, r1, r2, r3, by omega⟩]
  split
  · refine ⟨_, rfl, ⟨Int.emod_nonneg _ (by omega), Int.emod_lt_of_pos _ h0⟩, r1, r2, r3, ?_⟩
    show st.pos ≤ _
    omega
  · split
    · obtain ⟨s1, s2⟩ := seedN_ok st.seed 0
      exact ⟨_, rfl, ⟨Int.emod_nonneg _ (by omega), Int.emod_lt_of_pos _ h0⟩, s1, s2, by show 0 ≤ st.pos + 1; omega, by show st.pos + 1 ≤ _; omega⟩
    · rename_i c _
      obtain ⟨s1, s2⟩ := seedN_ok st.seed c
      exact ⟨_, rfl, ⟨Int.emod_nonneg _ (by omega), Int.emod_lt_of_pos _ h0⟩, s1, s2, by show 0 ≤ st.pos + 1; omega, by show st.pos + 1 ≤ _; omega⟩
theorem yes_mapS {α γ S : Type} {f : S → α → Mm (γ × S)} (I : S → Nat → Prop) (p : α → γ → Prop) : ∀ (l : List α) (s : S), I s l.length → (∀ s x n, x ∈ l → I s (n + 1) → Yes (f s x) fun y => p x y.1 ∧ I y.2 n) → Yes (mapSt f s l) fun r => All2 p l r.1 ∧ I r.2 0
  | [], s, h, _ => ⟨_, rfl, .nil, h⟩
  | x :: l, s, h, k => by
    obtain ⟨y, e, h1, h2⟩ := k s x l.length (List.mem_cons_self ..) h
    obtain ⟨r, e2, h3, h4⟩ := yes_mapS I p l y.2 h2 fun s z n hz => k s z n (List.mem_cons_of_mem _ hz)
    unfold mapSt
    rw [e]
    show Yes ((mapSt f y.2 l).bd _) _
    rw [e2]
    exact ⟨_, rfl, .cons h1 h3, h4⟩
/-- draws of a row of things: cost each -/
theorem yes_draws {α γ : Type} {f : Rw → α → Mm (γ × Rw)} (c : Nat) (p : γ → Prop) (l : List α) (s : Rw) (N : Nat) (h : Rk N s) (hN : N + c * l.length < 900000) (k : ∀ s x M, x ∈ l → Rk M s → M < 900000 → Yes (f s x) fun y => p y.1 ∧ Rk (M + c) y.2) : Yes (mapSt f s l) fun r => (r.1.length = l.length ∧ ∀ y ∈ r.1, p y) ∧ Rk (N + c * l.length) r.2 := by
  refine (yes_mapS (fun s n => ∃ k, Rk k s ∧ k + c * n ≤ N + c * l.length) (fun _ y => p y) l s ⟨N, h, Nat.le_refl _⟩ fun s x n hx hs => ?_).mono fun r hr => ⟨⟨hr.1.len, hr.1.right fun _ _ h => h⟩, ?_⟩
  · obtain ⟨M, rk, hM⟩ := hs
    have e : c * (n + 1) = c * n + c := Nat.mul_succ ..
    exact (k s x M hx rk (by omega)).mono fun y hy => ⟨hy.1, M + c, hy.2, by omega⟩
  · obtain ⟨M, rk, hM⟩ := hr.2
    exact rk.up (by omega)
theorem All2.app {α γ : Type} {p : α → γ → Prop} {x : α} {y : γ} : ∀ {l : List α} {r : List γ}, All2 p l r → p x y → All2 p (l ++ [x]) (r ++ [y])
  | _, _, .nil, h => .cons h .nil
  | _, _, .cons a b, h => .cons a (All2.app b h)
theorem All2.map_eq {α β γ : Type} {p : α → γ → Prop} {f : γ → Mm β} {g : α → β} {l : List α} {r : List γ} (h : All2 p l r) (k : ∀ x y, x ∈ l → p x y → f y = .ok (g x)) : mapMm f r = .ok (l.map g) := by
  induction h with
  | nil => rfl
  | cons a _ ih =>
    unfold mapMm
    rw [k _ _ (List.mem_cons_self ..) a, bdo, ih fun x y hx => k x y (List.mem_cons_of_mem _ hx), bdo]
    rfl
theorem All2.left {α γ : Type} {p : α → γ → Prop} {q : α → Prop} {l : List α} {r : List γ} (h : All2 p l r) (k : ∀ x y, p x y → q x) : ∀ x ∈ l, q x := by
  induction h with
  | nil => simp
  | cons a _ ih =>
    intro y hy
    rcases List.mem_cons.mp hy with rfl | hy
    · exact k _ _ a
    · exact ih y hy
theorem All2.self {α γ : Type} {p : α → γ → Prop} {g : α → γ} : ∀ l : List α, (∀ x ∈ l, p x (g x)) → All2 p l (l.map g)
  | [], _ => .nil
  | x :: l, h => .cons (h x (List.mem_cons_self ..)) (All2.self l fun y hy => h y (List.mem_cons_of_mem _ hy))
theorem All2.mono {α γ : Type} {p q : α → γ → Prop} {l : List α} {r : List γ} (h : All2 p l r) (k : ∀ x y, p x y → q x y) : All2 q l r := by
  induction h with
  | nil => exact .nil
  | cons a _ ih => exact .cons (k _ _ a) ih
/-- loops that may be left, but are not -/
theorem yes_foldL {α R S : Type} {f : S → α → Mm (Fl R S)} (I : S → Nat → Prop) : ∀ (l : List α) (s : S), I s l.length → (∀ s x n, x ∈ l → I s (n + 1) → Yes (f s x) fun o => ∃ s', o = .go s' ∧ I s' n) → Yes (foldL f s l) fun o => ∃ s', o = .go s' ∧ I s' 0
  | [], s, h, _ => ⟨_, rfl, s, rfl, h⟩
  | x :: l, s, h, k => by
    obtain ⟨o, e, s', rfl, h2⟩ := k s x l.length (List.mem_cons_self ..) h
    obtain ⟨o2, e2, s2, rfl, h3⟩ := yes_foldL I l s' h2 fun s z n hz => k s z n (List.mem_cons_of_mem _ hz)
    unfold foldL
    rw [e]
    show Yes (foldL f s' l) _
    rw [e2]
    exact ⟨_, rfl, s2, rfl, h3⟩
end Wk
namespace Wk
open PySem L2
/-- Euclid's way -/
theorem euclid : ∀ (n : Nat) (x y : Int), 0 ≤ x → 0 ≤ y → y.toNat < n → foldW (fun (b6 : (Int × Int)) => Mm.ok (decide (b6.2 > (0 : Int)))) (fun (b7 : (Int × Int)) => (modM b7.1 b7.2).bd fun m24 => Mm.ok (b7.2, m24)) n (x, y) = .ok (((Nat.gcd x.natAbs y.natAbs : Nat) : Int), 0)
  | 0, _, _, _, _, h => absurd h (by omega)
  | n + 1, x, y, hx, hy, h => by
    unfold foldW
    by_cases q : y > 0
    · show (match decide (y > 0) with | true => _ | false => _) = _
      rw [decide_eq_true q]
      show ((modM x y).bd _).bd _ = _
      rw [mod_ok q]
      show foldW _ _ n (y, x % y) = _
      have h1 := Int.emod_nonneg x (b := y) (by omega)
      have h2 := Int.emod_lt_of_pos x q
      rw [euclid n y (x % y) hy h1 (by omega)]
      congr 3
      rw [Int.natAbs_emod_of_nonneg hx, Nat.gcd_comm, ← Nat.gcd_rec, Nat.gcd_comm]
    · show (match decide (y > 0) with | true => _ | false => _) = _
      rw [decide_eq_false q]
      have : y = 0 := by omega
      subst this
      show Mm.ok (x, (0 : Int)) = _
      rw [Int.natAbs_zero, Nat.gcd_zero_right]
      congr 2
      omega
theorem abs_nn (x : Int) : 0 ≤ absI x := by unfold absI; split <;> omega
theorem abs_na (x : Int) : (absI x).natAbs = x.natAbs := by unfold absI; split <;> omega
end Wk
namespace Wk
open PySem L2
/-! ### loops over indexes -/
theorem fold_ixR {α S : Type} {f : S → Int → Mm S} {h : S → α → Mm S} (L : List α) (hf : ∀ s (i : Nat) v, L[i]? = some v → f s (i : Int) = h s v) : ∀ s, foldM f s (rangeL 0 L.length).reverse = foldM h s L.reverse := by
  have k : ∀ (n : Nat) (l post : List α) (s : S), l.length = n → L = l ++ post → foldM f s (rangeL 0 l.length).reverse = foldM h s l.reverse := by
    intro n
    induction n with
    | zero =>
      intro l post s hn e
      have : l = [] := List.length_eq_zero_iff.mp hn
      subst this
      rfl
    | succ n ih =>
      intro l post s hn e
      rcases List.eq_nil_or_concat l with q | ⟨l', x, q⟩
      · rw [q] at hn
        cases hn
      · rw [List.concat_eq_append] at q
        subst q
        have e1 : rangeL 0 (l' ++ [x]).length = rangeL 0 l'.length ++ [(l'.length : Int)] := by
          unfold rangeL
          rw [List.length_append, List.length_singleton, List.range_succ, List.map_append, List.map_cons, List.map_nil, Int.zero_add]
        have e2 : L = l' ++ x :: post := by rw [e]; simp
        rw [e1, List.reverse_append, List.reverse_append, foldM_app, foldM_app]
        show Mm.bd (Mm.bd (f s (l'.length : Int)) _) _ = Mm.bd (Mm.bd (h s x) _) _
        rw [hf s l'.length x (by rw [e2]; simp)]
        show Mm.bd (Mm.bd (h s x) _) _ = _
        congr 1
        funext s'
        exact ih l' (x :: post) s' (by simpa using hn) e2
  intro s
  exact k L.length L [] s rfl (by simp)
theorem fold_ixN {α S : Type} {f : S → Int → Mm S} {h : S → Nat → α → Mm S} (L : List α) (hf : ∀ s (i : Nat) v, L[i]? = some v → f s (i : Int) = h s i v) : ∀ (l pre : List α) (s : S), L = pre ++ l → foldM f s (rangeL (pre.length : Int) l.length) = foldM (fun s (x : Int × α) => h s x.1.toNat x.2) s (numL (pre.length : Int) l)
  | [], pre, s, _ => rfl
  | x :: l, pre, s, e => by
    rw [List.length_cons, rangeL_succ]
    unfold foldM numL
    rw [hf s pre.length x (by rw [e]; simp)]
    show (h s _ x).bd _ = (h s _ x).bd _
    rw [Int.toNat_natCast]
    congr 1
    funext s'
    have := fold_ixN L hf l (pre ++ [x]) s' (by rw [e]; simp)
    rw [List.length_append, List.length_singleton] at this
    have e2 : ((pre.length + 1 : Nat) : Int) = (pre.length : Int) + 1 := by omega
    rw [e2] at this
    exact this
theorem fold_num {α S : Type} {h : S → α → Mm S} : ∀ (l : List α) (k : Int) (s : S), foldM (fun s (x : Int × α) => h s x.2) s (numL k l) = foldM h s l
  | [], _, _ => rfl
  | x :: l, k, s => by
    unfold numL foldM
    show (h s x).bd _ = (h s x).bd _
    congr 1
    funext s'
    exact fold_num l (k + 1) s'
theorem fold_ix {α S : Type} {f : S → Int → Mm S} {h : S → α → Mm S} (L : List α) (hf : ∀ s (i : Nat) v, L[i]? = some v → f s (i : Int) = h s v) (s : S) : foldM f s (rangeL 0 L.length) = foldM h s L := by
  have := fold_ixN (h := fun s _ v => h s v) L hf L [] s rfl
  rw [show ((([] : List α).length : Nat) : Int) = 0 from rfl] at this
  rw [this, fold_num]
theorem map_ix {α γ : Type} {f : Int → Mm γ} {h : α → Mm γ} (L : List α) (hf : ∀ (i : Nat) v, L[i]? = some v → f (i : Int) = h v) : mapMm f (rangeL 0 L.length) = mapMm h L := by
  have k : ∀ (l pre : List α), L = pre ++ l → mapMm f (rangeL (pre.length : Int) l.length) = mapMm h l := by
    intro l
    induction l with
    | nil => intro pre _; rfl
    | cons x l ih =>
      intro pre e
      rw [List.length_cons, rangeL_succ]
      unfold mapMm
      rw [hf pre.length x (by rw [e]; simp)]
      have := ih (pre ++ [x]) (by rw [e]; simp)
      rw [List.length_append, List.length_singleton] at this
      have e2 : ((pre.length + 1 : Nat) : Int) = (pre.length : Int) + 1 := by omega
      rw [e2] at this
      rw [this]
  exact k L [] rfl
theorem zip_at {α β : Type} {l : List α} {r : List β} {i : Nat} {v : α × β} (h : (l.zip r)[i]? = some v) : l[i]? = some v.1 ∧ r[i]? = some v.2 := by
  rw [List.getElem?_zip_eq_some] at h
  exact h
theorem getM_map {α β : Type} {l : List α} {f : α → β} {i : Nat} {x : α} (h : l[i]? = some x) : getM (l.map f) (i : Int) = .ok (f x) := getM_nat (by rw [List.getElem?_map, h]; rfl)
theorem All2.at {α γ : Type} {p : α → γ → Prop} {l : List α} {r : List γ} (h : All2 p l r) : ∀ {i : Nat} {x : α}, l[i]? = some x → ∃ y, r[i]? = some y ∧ p x y := by
  induction h with
  | nil => intro i x e; cases i <;> cases e
  | cons a _ ih =>
    intro i x e
    cases i with
    | zero => cases e; exact ⟨_, rfl, a⟩
    | succ i => exact ih e
end Wk
namespace Wk
open PySem L2
def rv (x : Int × Int) : Rat := (x.1 : Rat) / (x.2 : Rat)
theorem all2_rv {n : Nat} {ps : List Rat} {pl : List (Int × Int)} (h : All2 (fun p x => Rx n x p) ps pl) : ps = pl.map rv := by
  induction h with
  | nil => rfl
  | cons a _ ih => rw [List.map_cons, ← ih, ← a.v]; rfl
theorem all2_at {n : Nat} {ps : List Rat} {pl : List (Int × Int)} (h : All2 (fun p x => Rx n x p) ps pl) {i : Nat} {x : Int × Int} (hx : pl[i]? = some x) : Rx n x (rv x) := by
  have := h.right (q := fun x => Rx n x (rv x)) (fun p x r => by have e := r.v; unfold rv; rw [e]; exact r) x (List.mem_of_getElem? hx)
  exact this
/-- sums with something that goes along -/
theorem fold_frP {α R : Type} {f : (Int × Int) × R → α → Mm ((Int × Int) × R)} {v : α → Rat} {c : Nat} : ∀ (l : List α), (∀ x ∈ l, Sq c (v x) ∧ ∀ p a r, Sq a p → a + c < 8999 → f (fr p, r) x = .ok (fr (p + v x), r)) → ∀ (p : Rat) (a : Nat) (r : R), Sq a p → a + (c + 1) * l.length < 8998 →
    foldM f (fr p, r) l = .ok (fr (p + (l.map v).sum), r) ∧ Sq (a + (c + 1) * l.length) (p + (l.map v).sum)
  | [], _, p, a, r, ha, _ => by
    have e : p + ([].map v).sum = p := by
      show p + 0 = p
      grind
    rw [e]
    exact ⟨rfl, ha⟩
  | x :: l, h, p, a, r, ha, hl => by
    have e1 : (c + 1) * (x :: l).length = (c + 1) * l.length + (c + 1) := by rw [List.length_cons, Nat.mul_succ]
    obtain ⟨sx, hx⟩ := h x (List.mem_cons_self ..)
    obtain ⟨h1, h2⟩ := fold_frP l (fun y hy => h y (List.mem_cons_of_mem _ hy)) (p + v x) (a + c + 1) r (sq_add ha sx (by omega)) (by omega)
    have e2 : p + ((x :: l).map v).sum = p + v x + (l.map v).sum := by
      rw [List.map_cons, List.sum_cons]
      grind
    rw [e2]
    refine ⟨?_, h2.up (by omega)⟩
    unfold foldM
    rw [hx p a r ha (by omega)]
    exact h1
/-- the same over the indexes of a list -/
theorem fold_frI {α R : Type} {f : (Int × Int) × R → Int → Mm ((Int × Int) × R)} {v : α → Rat} {c : Nat} (L : List α) (h : ∀ (i : Nat) x, L[i]? = some x → Sq c (v x) ∧ ∀ p a r, Sq a p → a + c < 8999 → f (fr p, r) (i : Int) = .ok (fr (p + v x), r)) (p : Rat) (a : Nat) (r : R) (ha : Sq a p) (hl : a + (c + 1) * L.length < 8998) :
    foldM f (fr p, r) (rangeL 0 L.length) = .ok (fr (p + (L.map v).sum), r) ∧ Sq (a + (c + 1) * L.length) (p + (L.map v).sum) := by
  have k : ∀ (l pre : List α) (p : Rat) (a : Nat), L = pre ++ l → Sq a p → a + (c + 1) * l.length < 8998 → foldM f (fr p, r) (rangeL (pre.length : Int) l.length) = .ok (fr (p + (l.map v).sum), r) ∧ Sq (a + (c + 1) * l.length) (p + (l.map v).sum) := by
    intro l
    induction l with
    | nil =>
      intro pre p a _ ha _
      have e : p + ([].map v).sum = p := by
        show p + 0 = p
        grind
      rw [e]
      exact ⟨rfl, ha⟩
    | cons x l ih =>
      intro pre p a e ha hl
      have e1 : (c + 1) * (x :: l).length = (c + 1) * l.length + (c + 1) := by rw [List.length_cons, Nat.mul_succ]
      obtain ⟨sx, hx⟩ := h pre.length x (by rw [e]; simp)
      have q := ih (pre ++ [x]) (p + v x) (a + c + 1) (by rw [e]; simp) (sq_add ha sx (by omega)) (by omega)
      rw [List.length_append, List.length_singleton] at q
      have e2 : ((pre.length + 1 : Nat) : Int) = (pre.length : Int) + 1 := by omega
      rw [e2] at q
      have e3 : p + ((x :: l).map v).sum = p + v x + (l.map v).sum := by
        rw [List.map_cons, List.sum_cons]
        grind
      rw [e3, List.length_cons, rangeL_succ]
      refine ⟨?_, q.2.up (by rw [Nat.mul_succ]; omega)⟩
      unfold foldM
      rw [hx p a r ha (by omega)]
      exact q.1
  exact k L [] p a (by simp) ha hl
/-- the same with nothing that goes along -/
theorem fold_frJ {α : Type} {f : Int × Int → Int → Mm (Int × Int)} {v : α → Rat} {c : Nat} (L : List α) (h : ∀ (i : Nat) x, L[i]? = some x → Sq c (v x) ∧ ∀ p a, Sq a p → a + c < 8999 → f (fr p) (i : Int) = .ok (fr (p + v x))) (p : Rat) (a : Nat) (ha : Sq a p) (hl : a + (c + 1) * L.length < 8998) :
    foldM f (fr p) (rangeL 0 L.length) = .ok (fr (p + (L.map v).sum)) ∧ Sq (a + (c + 1) * L.length) (p + (L.map v).sum) := by
  have k : ∀ (l pre : List α) (p : Rat) (a : Nat), L = pre ++ l → Sq a p → a + (c + 1) * l.length < 8998 → foldM f (fr p) (rangeL (pre.length : Int) l.length) = .ok (fr (p + (l.map v).sum)) ∧ Sq (a + (c + 1) * l.length) (p + (l.map v).sum) := by
    intro l
    induction l with
    | nil =>
      intro pre p a _ ha _
      have e : p + ([].map v).sum = p := by
        show p + 0 = p
        grind
      rw [e]
      exact ⟨rfl, ha⟩
    | cons x l ih =>
      intro pre p a e ha hl
      have e1 : (c + 1) * (x :: l).length = (c + 1) * l.length + (c + 1) := by rw [List.length_cons, Nat.mul_succ]
      obtain ⟨sx, hx⟩ := h pre.length x (by rw [e]; simp)
      have q := ih (pre ++ [x]) (p + v x) (a + c + 1) (by rw [e]; simp) (sq_add ha sx (by omega)) (by omega)
      rw [List.length_append, List.length_singleton] at q
      have e2 : ((pre.length + 1 : Nat) : Int) = (pre.length : Int) + 1 := by omega
      rw [e2] at q
      have e3 : p + ((x :: l).map v).sum = p + v x + (l.map v).sum := by
        rw [List.map_cons, List.sum_cons]
        grind
      rw [e3, List.length_cons, rangeL_succ]
      refine ⟨?_, q.2.up (by rw [Nat.mul_succ]; omega)⟩
      unfold foldM
      rw [hx p a ha (by omega)]
      exact q.1
  exact k L [] p a (by simp) ha hl
end Wk

set_option Elab.async false
set_option linter.all false
set_option maxRecDepth 100000
set_option maxHeartbeats 4000000
namespace L
/-- thirteen weights above 0 and places from 0 to 1: a rule that is exact to the power 12 -/
def QN : List (Rat × Rat) := [(47719618433/4266648514128, 0), (412093597/10139016888, 1/30), (15096609475/365258877984, 1/15), (34472681/410288736, 2/15), (43199494175/362155842048, 7/30), (1714329755/12291447168, 11/30), (98694539947/770306304768, 1/2), (1714329755/12291447168, 19/30), (43199494175/362155842048, 23/30), (34472681/410288736, 13/15), (15096609475/365258877984, 14/15), (412093597/10139016888, 29/30), (47719618433/4266648514128, 1)]
theorem quad_0 (a d : Rat) : (QN.map fun q => d * q.1 * (a + d * q.2) ^ 0).sum * (1 : Rat) = (a + d) ^ 1 - a ^ 1 := by
  simp only [QN, List.map_cons, List.map_nil, List.sum_cons, List.sum_nil]
  grind
theorem quad_1 (a d : Rat) : (QN.map fun q => d * q.1 * (a + d * q.2) ^ 1).sum * (2 : Rat) = (a + d) ^ 2 - a ^ 2 := by
  simp only [QN, List.map_cons, List.map_nil, List.sum_cons, List.sum_nil]
  grind
theorem quad_2 (a d : Rat) : (QN.map fun q => d * q.1 * (a + d * q.2) ^ 2).sum * (3 : Rat) = (a + d) ^ 3 - a ^ 3 := by
  simp only [QN, List.map_cons, List.map_nil, List.sum_cons, List.sum_nil]
  grind
theorem quad_3 (a d : Rat) : (QN.map fun q => d * q.1 * (a + d * q.2) ^ 3).sum * (4 : Rat) = (a + d) ^ 4 - a ^ 4 := by
  simp only [QN, List.map_cons, List.map_nil, List.sum_cons, List.sum_nil]
  grind
theorem quad_4 (a d : Rat) : (QN.map fun q => d * q.1 * (a + d * q.2) ^ 4).sum * (5 : Rat) = (a + d) ^ 5 - a ^ 5 := by
  simp only [QN, List.map_cons, List.map_nil, List.sum_cons, List.sum_nil]
  grind
theorem quad_5 (a d : Rat) : (QN.map fun q => d * q.1 * (a + d * q.2) ^ 5).sum * (6 : Rat) = (a + d) ^ 6 - a ^ 6 := by
  simp only [QN, List.map_cons, List.map_nil, List.sum_cons, List.sum_nil]
  grind
theorem quad_6 (a d : Rat) : (QN.map fun q => d * q.1 * (a + d * q.2) ^ 6).sum * (7 : Rat) = (a + d) ^ 7 - a ^ 7 := by
  simp only [QN, List.map_cons, List.map_nil, List.sum_cons, List.sum_nil]
  grind
theorem quad_7 (a d : Rat) : (QN.map fun q => d * q.1 * (a + d * q.2) ^ 7).sum * (8 : Rat) = (a + d) ^ 8 - a ^ 8 := by
  simp only [QN, List.map_cons, List.map_nil, List.sum_cons, List.sum_nil]
  grind
theorem quad_8 (a d : Rat) : (QN.map fun q => d * q.1 * (a + d * q.2) ^ 8).sum * (9 : Rat) = (a + d) ^ 9 - a ^ 9 := by
  simp only [QN, List.map_cons, List.map_nil, List.sum_cons, List.sum_nil]
  grind
theorem quad_9 (a d : Rat) : (QN.map fun q => d * q.1 * (a + d * q.2) ^ 9).sum * (10 : Rat) = (a + d) ^ 10 - a ^ 10 := by
  simp only [QN, List.map_cons, List.map_nil, List.sum_cons, List.sum_nil]
  grind
theorem quad_10 (a d : Rat) : (QN.map fun q => d * q.1 * (a + d * q.2) ^ 10).sum * (11 : Rat) = (a + d) ^ 11 - a ^ 11 := by
  simp only [QN, List.map_cons, List.map_nil, List.sum_cons, List.sum_nil]
  grind
theorem quad_11 (a d : Rat) : (QN.map fun q => d * q.1 * (a + d * q.2) ^ 11).sum * (12 : Rat) = (a + d) ^ 12 - a ^ 12 := by
  simp only [QN, List.map_cons, List.map_nil, List.sum_cons, List.sum_nil]
  grind
theorem quad_12 (a d : Rat) : (QN.map fun q => d * q.1 * (a + d * q.2) ^ 12).sum * (13 : Rat) = (a + d) ^ 13 - a ^ 13 := by
  simp only [QN, List.map_cons, List.map_nil, List.sum_cons, List.sum_nil]
  grind
theorem quad (a d : Rat) : ∀ k : Nat, k ≤ 12 → (QN.map fun q => d * q.1 * (a + d * q.2) ^ k).sum * ((((k : Nat) : Int) + 1 : Int) : Rat) = (a + d) ^ (k + 1) - a ^ (k + 1)
  | 0, _ => by
    have e : ((((0 : Nat) : Int) + 1 : Int) : Rat) = (1 : Rat) := by decide
    rw [e]
    exact quad_0 a d
  | 1, _ => by
    have e : ((((1 : Nat) : Int) + 1 : Int) : Rat) = (2 : Rat) := by decide
    rw [e]
    exact quad_1 a d
  | 2, _ => by
    have e : ((((2 : Nat) : Int) + 1 : Int) : Rat) = (3 : Rat) := by decide
    rw [e]
    exact quad_2 a d
  | 3, _ => by
    have e : ((((3 : Nat) : Int) + 1 : Int) : Rat) = (4 : Rat) := by decide
    rw [e]
    exact quad_3 a d
  | 4, _ => by
    have e : ((((4 : Nat) : Int) + 1 : Int) : Rat) = (5 : Rat) := by decide
    rw [e]
    exact quad_4 a d
  | 5, _ => by
    have e : ((((5 : Nat) : Int) + 1 : Int) : Rat) = (6 : Rat) := by decide
    rw [e]
    exact quad_5 a d
  | 6, _ => by
    have e : ((((6 : Nat) : Int) + 1 : Int) : Rat) = (7 : Rat) := by decide
    rw [e]
    exact quad_6 a d
  | 7, _ => by
    have e : ((((7 : Nat) : Int) + 1 : Int) : Rat) = (8 : Rat) := by decide
    rw [e]
    exact quad_7 a d
  | 8, _ => by
    have e : ((((8 : Nat) : Int) + 1 : Int) : Rat) = (9 : Rat) := by decide
    rw [e]
    exact quad_8 a d
  | 9, _ => by
    have e : ((((9 : Nat) : Int) + 1 : Int) : Rat) = (10 : Rat) := by decide
    rw [e]
    exact quad_9 a d
  | 10, _ => by
    have e : ((((10 : Nat) : Int) + 1 : Int) : Rat) = (11 : Rat) := by decide
    rw [e]
    exact quad_10 a d
  | 11, _ => by
    have e : ((((11 : Nat) : Int) + 1 : Int) : Rat) = (12 : Rat) := by decide
    rw [e]
    exact quad_11 a d
  | 12, _ => by
    have e : ((((12 : Nat) : Int) + 1 : Int) : Rat) = (13 : Rat) := by decide
    rw [e]
    exact quad_12 a d
  | n + 13, h => absurd h (by omega)
theorem QN_pos : ∀ q ∈ QN, 0 < q.1 := by decide +kernel
theorem QN_nodup : (QN.map (·.2)).Nodup := by decide +kernel
end L

set_option Elab.async false
set_option linter.all false
set_option maxRecDepth 100000
set_option maxHeartbeats 0
namespace L
open PySem L2 Evl Wk StX
def top (i : Nat) : Stmt := PySem.Challenge.pw_fewreadings_k42_texts_of_fractions_and_w.main.body.getD i (.Pass ⟨0, 0, 0, 0⟩)
def tb_NUMBERS : List (List Nat × Int) := [([109, 97, 115, 115], 2), ([115, 116, 114, 101, 116, 99, 104], 3)]
/-! ### whole_within -/
abbrev s_whole_within : Stmt := top 8
theorem sc_whole_within : FnScope ["number", "low", "high"] ["number", "low", "high"] (defScope s_whole_within) := ⟨rfl, rfl, rfl, by decide +kernel, rfl, by decide +kernel, by decide +kernel⟩
def whole_within (number : Int) (low : Int) (high : Int) : Mm Bool := Mm.ok (true && ((!false) && ((decide (low ≤ number)) && (decide (number ≤ high)))))
def sp_whole_within (K : PySem.W.Frag) : Sp := fun vs H Q E => ∃ (F : Hp) (number : Int) (low : Int) (high : Int), vs = [(V.int number), (V.int low), (V.int high)] ∧ Ex F H ∧ Post (whole_within number low high) (fun r => Ret [] F H (fun F' _ v => v = V.bl r) Q) (fun _ => False)
theorem ok_whole_within {P : Program} {w : World} {K : PySem.W.Frag} {mg : Str → Option Value} {base : Heap} {C f : Addr} {fd : FuncData} (B : Bi mg) (FF : FunD K "whole_within" "whole_within" (defArgs s_whole_within) (defBody s_whole_within) (defScope s_whole_within) [] [] f fd) : FnOk P w K mg base CX0 1 f fd ["number", "low", "high"] (sp_whole_within K) := by
  refine FF.ok sc_whole_within (fun vs H Q E h => ?_) (fun cdv A outer s H vs Q E hr h => ?_)
  · obtain ⟨F, number, low, high, rfl, _⟩ := h; rfl
  · obtain ⟨F, number, low, high, rfl, e, k⟩ := h
    unfold whole_within at k
    have g_ := Gm.refl (M := []) e
    refine ⟨_, PSs.nox (pss_one (ps_ret (pe_and (pe_callB call_isiI (by rfl) B.isinstance (by decide +kernel) (pa_cons (pv 0) (pa_cons (pe_bltn (v := .ty "int") (u := .type "int") (by rfl) B.int (by decide +kernel) rfl) pa_nil))) (pe_and (pe_not (pe_callB call_isiI (by rfl) B.isinstance (by decide +kernel) (pa_cons (pv 0) (pa_cons (pe_bltn (v := .ty "bool") (u := .type "bool") (by rfl) B.bool (by decide +kernel) rfl) pa_nil)))) (pe_one (pe_chain op_le op_le (pv 1) (pv 0) (pv 2))))))), ?_⟩
    refine ⟨_, rfl, _, _, true, rfl, .inl ⟨rfl, rfl⟩, _, rfl, ?_⟩
    refine andV_j (b := ((!false) && ((decide (low ≤ number)) && (decide (number ≤ high))))) (fun _ Q' q => ?_) ?_
    · refine ⟨_, rfl, _, _, false, rfl, .inr ⟨rfl, rfl⟩, _, rfl, _, rfl, ?_⟩
      refine andV_j (b := ((decide (low ≤ number)) && (decide (number ≤ high)))) (fun _ Q' q => ?_) ?_
      · refine ⟨_, rfl, _, rfl, _, _, rfl, rfl, _, rfl, ?_⟩
        refine chain_j (b := (decide (number ≤ high))) (fun _ Q' q => ?_) ?_
        · refine ⟨_, rfl, _, _, rfl, rfl, ?_⟩
          exact q
        exact q
      exact q
    exact k.h _ _ _ g_ rfl
/-! ### lowest -/
abbrev s_lowest : Stmt := top 9
theorem sc_lowest : FnScope ["top", "bottom", "shared"] ["top", "bottom"] (defScope s_lowest) := ⟨rfl, rfl, rfl, by decide +kernel, rfl, by decide +kernel, by decide +kernel⟩
def lowest (top : Int) (bottom : Int) : Mm (Int × Int) := (cond (decide (bottom < (0 : Int))) (Mm.ok (-((Nat.gcd top.natAbs bottom.natAbs : Nat) : Int))) (Mm.ok ((Nat.gcd top.natAbs bottom.natAbs : Nat) : Int))).bd fun b1 => (divM top b1).bd fun m8 => (divM bottom b1).bd fun m11 => Mm.ok (m8, m11)
def sp_lowest (K : PySem.W.Frag) : Sp := fun vs H Q E => ∃ (F : Hp) (top : Int) (bottom : Int), vs = [(V.int top), (V.int bottom)] ∧ Ex F H ∧ Post (lowest top bottom) (fun r => Ret [] F H (fun F' _ v => Dq K F' v ((e2 PyData.int PyData.int) r)) Q) (fun _ => False)
theorem ok_lowest {P : Program} {w : World} {K : PySem.W.Frag} {mg : Str → Option Value} {base : Heap} {C f : Addr} {fd : FuncData} (B : Bi mg) (FF : FunD K "lowest" "lowest" (defArgs s_lowest) (defBody s_lowest) (defScope s_lowest) [] [] f fd) (c_gcd : mg "gcd" = some (.builtin "math.gcd")) : FnOk P w K mg base CX0 1 f fd ["top", "bottom"] (sp_lowest K) := by
  refine FF.ok sc_lowest (fun vs H Q E h => ?_) (fun cdv A outer s H vs Q E hr h => ?_)
  · obtain ⟨F, top, bottom, rfl, _⟩ := h; rfl
  · obtain ⟨F, top, bottom, rfl, e, k⟩ := h
    unfold lowest at k
    have g_ := Gm.refl (M := []) e
    refine ⟨_, PSs.nox (pss_cons (ps_set (i := 2) sc_lowest.nd rfl (Or.inl rfl) (pe_callBfun cr_gcd (by rfl) c_gcd (pa_cons (pv 0) (pa_cons (pv 1) (pa_nil))))) (pss_cons (ps_if (pt_cmpR op_lt (pv 1) (pe_int) (nomark _)) (pss_one (ps_set (i := 2) sc_lowest.nd rfl (Or.inl rfl) (pe_un un_neg (pv 2)))) (pss_nil)) (pss_one (ps_ret (pe_q (pe_tup (pa_cons (pe_op op_divM (pv 0) (pv 2)) (pa_cons (pe_op op_divM (pv 1) (pv 2)) (pa_nil))))))))), ?_⟩
    refine ⟨_, rfl, _, rfl, _, _, rfl, ?_⟩
    refine ⟨_, rfl, _, _, rfl, rfl, _, rfl, ?_⟩
    refine ifs_jM (M := []) (F := F) (fun b1 F' H' σ' => σ' = [some (V.int top), some (V.int bottom), some (V.int b1)]) k (fun _ nx kjb1 => ?_) (fun _ nx kjb1 => ?_) (fun b1 σ5 F2 H3 g4 i6 k => ?_)
    · have gF_ := Gm.refl (M := []) e
      refine ⟨_, rfl, _, rfl, ?_⟩
      exact kjb1.h _ _ _ gF_ rfl
    · have gF_ := Gm.refl (M := []) e
      exact kjb1.h _ _ _ gF_ rfl
    have g7 := g_.trans (g4.weak (by simp))
    have eF2 := g4.s
    obtain rfl := i6
    refine ⟨_, rfl, _, rfl, ?_⟩
    obtain ⟨m8, c9, q10, k⟩ := post_div k
    refine ⟨_, _, _, rfl, rfl, c9, q10, _, rfl, _, rfl, ?_⟩
    obtain ⟨m11, c12, q13, k⟩ := post_div k
    refine ⟨_, _, _, rfl, rfl, c12, q13, ?_⟩
    show _ ∧ _
    refine new_tup (K := K) (M := []) eF2 (.cons (Dq.int m8) (.cons (Dq.int m11) .nil)) (by show 2 ≤ 100000; decide) fun v18 F14 H15 g16 r17 => ?_
    have eF14 := g16.s
    have gF14 := g7.trans (g16.weak (by simp))
    replace r17 : Dq K F14 v18 ((e2 PyData.int PyData.int) (m8, m11)) := r17
    exact k.h _ _ _ gF14 r17
/-! ### checked_fraction -/
abbrev s_checked_fraction : Stmt := top 10
theorem sc_checked_fraction : FnScope ["fraction", "top", "bottom"] ["fraction"] (defScope s_checked_fraction) := ⟨rfl, rfl, rfl, by decide +kernel, rfl, by decide +kernel, by decide +kernel⟩
def checked_fraction (fraction : (Int × Int)) : Mm (Int × Int) := cond (decide (fraction.2 = (0 : Int))) (Mm.bad) ((lowest (fraction.1) (fraction.2)).bd fun b7 => Mm.ok b7)
def sp_checked_fraction (K : PySem.W.Frag) : Sp := fun vs H Q E => ∃ (F : Hp) (v_fraction : V) (fraction : (Int × Int)), vs = [v_fraction] ∧ Ex F H ∧ Dq K F v_fraction ((e2 PyData.int PyData.int) fraction) ∧ Post (checked_fraction fraction) (fun r => Ret [] F H (fun F' _ v => Dq K F' v ((e2 PyData.int PyData.int) r)) Q) (fun _ => False)
theorem ok_checked_fraction {P : Program} {w : World} {K : PySem.W.Frag} {mg : Str → Option Value} {base : Heap} {C f : Addr} {fd : FuncData} (B : Bi mg) (FF : FunD K "checked_fraction" "checked_fraction" (defArgs s_checked_fraction) (defBody s_checked_fraction) (defScope s_checked_fraction) [] [] f fd) (G_lowest : Kn P w K mg base "lowest" 1 ["top", "bottom"] (sp_lowest K)) : FnOk P w K mg base CX0 2 f fd ["fraction"] (sp_checked_fraction K) := by
  refine FF.ok sc_checked_fraction (fun vs H Q E h => ?_) (fun cdv A outer s H vs Q E hr h => ?_)
  · obtain ⟨F, v_fraction, fraction, rfl, _⟩ := h; rfl
  · obtain ⟨F, v_fraction, fraction, rfl, e, r_fraction, k⟩ := h
    unfold checked_fraction at k
    have g_ := Gm.refl (M := []) e
    refine ⟨_, PSs.nox (pss_cons (ps_asg (pv 0) (pg_tup (by rfl) (pgs_cons (pg_name (i := 1) sc_checked_fraction.nd rfl (Or.inl rfl)) (pgs_cons (pg_name (i := 2) sc_checked_fraction.nd rfl (Or.inl rfl)) (pgs_nil))))) (pss_cons (ps_if (pt_cmpR op_eq (pv 2) (pe_int) (nomark _)) (pss_one ps_never) pss_nil) (pss_one (ps_ret (pe_kn G_lowest (hr.mono (by decide)) (pa_cons (pv 1) (pa_cons (pv 2) (pa_nil)))))))), ?_⟩
    refine ⟨_, rfl, ?_⟩
    obtain ⟨p1, x2, x3, rfl, s4, d5, d6⟩ := dp_tup2 r_fraction
    obtain rfl := dp_int d5
    obtain rfl := dp_int d6
    refine ⟨_, _, rfl, ex_t e s4, rfl, _, _, rfl, _, _, rfl, rfl, ?_⟩
    refine ⟨_, rfl, rfl, ?_⟩
    rw [decV_int]
    refine ⟨_, rfl, ?_⟩
    refine cs k (fun _ k => ?_) (fun _ k => ?_)
    · exact k.elim
    · refine ⟨_, rfl, _, rfl, ?_⟩
      refine ⟨F, fraction.1, fraction.2, rfl, e, (post_bd k).mono (fun b7 k v12 F8 H9 g10 r11 => ?_) (fun _ z => z)⟩
      have eF8 := g10.s
      have gF8 := g_.trans (g10.weak (by simp))
      replace r_fraction := r_fraction.up g10.f
      replace s4 := ex_t g10.f s4
      exact k.h _ _ _ gF8 r11
/-! ### Weighting.__eq__ -/
abbrev s_Weighting___eq__ : Stmt := inClass (top 16) 3
theorem sc_Weighting___eq__ : FnScope ["self", "other"] ["self", "other"] (defScope s_Weighting___eq__) := ⟨rfl, rfl, rfl, by decide +kernel, rfl, by decide +kernel, by decide +kernel⟩
def Weighting___eq__ (self : Wt) (other : Wt) : Mm Bool := Mm.ok (true && ((decide (self.1 = other.1)) && (decide (self.2 = other.2))))
def sp_Weighting___eq__ (K : PySem.W.Frag) (C : Addr) : Sp := fun vs H Q E => ∃ (F : Hp) (v_self : V) (self : Wt) (v_other : V) (other : Wt), vs = [v_self, v_other] ∧ Ex F H ∧ IsW K C F v_self self ∧ IsW K C F v_other other ∧ Post (Weighting___eq__ self other) (fun r => Ret [] F H (fun F' _ v => v = V.bl r) Q) (fun _ => False)
theorem ok_Weighting___eq__ {P : Program} {w : World} {K : PySem.W.Frag} {mg : Str → Option Value} {base : Heap} {C f : Addr} {fd : FuncData} (B : Bi mg) (FF : FunD K "__eq__" "Weighting.__eq__" (defArgs s_Weighting___eq__) (defBody s_Weighting___eq__) (defScope s_Weighting___eq__) [] [] f fd) (IC_W : C8.InsC K C) (c_W : mg "Weighting" = some (.ref C)) (cl_W : Cls K C) (na_masses : NoAttr K C "_masses") (na_stretches : NoAttr K C "_stretches") : FnOk P w K mg base CX0 1 f fd ["self", "other"] (sp_Weighting___eq__ K C) := by
  refine FF.ok sc_Weighting___eq__ (fun vs H Q E h => ?_) (fun cdv A outer s H vs Q E hr h => ?_)
  · obtain ⟨F, v_self, self, v_other, other, rfl, _⟩ := h; rfl
  · obtain ⟨F, v_self, self, v_other, other, rfl, e, r_self, r_other, k⟩ := h
    unfold Weighting___eq__ at k
    have g_ := Gm.refl (M := []) e
    refine ⟨_, PSs.nox (pss_one (ps_ret (pe_and (pe_callB (C8.call_isC IC_W) (by rfl) B.isinstance (by decide +kernel) (pa_cons (pv 1) (pa_cons (pe_gref c_W) pa_nil))) (pe_and (pe_cmpR (r := rEqM K (eV (e2 PyData.int PyData.int))) (op_eqM (sh_eV (sh_e2 sh_int sh_int)) (units_of hr)) (pe_fld (pv 0) rfl) (pe_fld (pv 1) rfl) (nomark _)) (pe_one (pe_cmpR (r := rEqM K (eV (e3 PyData.int PyData.int PyData.int))) (op_eqM (sh_eV (sh_e3 sh_int sh_int sh_int)) (units_of hr)) (pe_fld (pv 0) rfl) (pe_fld (pv 1) rfl) (nomark _))))))), ?_⟩
    refine ⟨_, rfl, ?_⟩
    obtain ⟨a1, dx2, m3, t4, rfl, h5, r6, r7⟩ := r_other.ex
    refine ⟨_, _, _, rfl, e _ _ h5, _, rfl, ?_⟩
    refine andV_j (b := ((decide (self.1 = other.1)) && (decide (self.2 = other.2)))) (fun _ Q' q => ?_) ?_
    · refine ⟨_, rfl, ?_⟩
      obtain ⟨a8, dx9, m10, t11, rfl, h12, r13, r14⟩ := r_self.ex
      refine ⟨_, _, _, _, _, rfl, e _ _ h12, cl_W, na_masses, wf_m _ _, ?_⟩
      obtain ⟨p15, xs16, rfl, s17, a18⟩ := dp_tup r13
      refine ⟨_, rfl, ?_⟩
      refine ⟨_, _, _, _, _, rfl, e _ _ h5, cl_W, na_masses, wf_m _ _, ?_⟩
      obtain ⟨p19, xs20, rfl, s21, a22⟩ := dp_tup r6
      refine ⟨self.1, other.1, r13.dp e, r6.dp e, ?_⟩
      refine ⟨_, rfl, ?_⟩
      refine andV_j (b := (decide (self.2 = other.2))) (fun _ Q' q => ?_) ?_
      · refine ⟨_, rfl, ?_⟩
        refine ⟨_, _, _, _, _, rfl, e _ _ h12, cl_W, na_stretches, wf_s _ _, ?_⟩
        obtain ⟨p23, xs24, rfl, s25, a26⟩ := dp_tup r14
        refine ⟨_, rfl, ?_⟩
        refine ⟨_, _, _, _, _, rfl, e _ _ h5, cl_W, na_stretches, wf_s _ _, ?_⟩
        obtain ⟨p27, xs28, rfl, s29, a30⟩ := dp_tup r7
        refine ⟨self.2, other.2, r14.dp e, r7.dp e, ?_⟩
        exact q
      exact q
    exact k.h _ _ _ g_ rfl
/-! ### is_place -/
abbrev s_is_place : Stmt := top 17
theorem sc_is_place : FnScope ["number"] ["number"] (defScope s_is_place) := ⟨rfl, rfl, rfl, by decide +kernel, rfl, by decide +kernel, by decide +kernel⟩
def is_place (number : Int) : Mm Bool := (whole_within (number) ((-(20 : Int))) ((20 : Int))).bd fun b1 => Mm.ok b1
def sp_is_place (K : PySem.W.Frag) : Sp := fun vs H Q E => ∃ (F : Hp) (number : Int), vs = [(V.int number)] ∧ Ex F H ∧ Post (is_place number) (fun r => Ret [] F H (fun F' _ v => v = V.bl r) Q) (fun _ => False)
theorem ok_is_place {P : Program} {w : World} {K : PySem.W.Frag} {mg : Str → Option Value} {base : Heap} {C f : Addr} {fd : FuncData} (B : Bi mg) (FF : FunD K "is_place" "is_place" (defArgs s_is_place) (defBody s_is_place) (defScope s_is_place) [] [] f fd) (G_whole_within : Kn P w K mg base "whole_within" 1 ["number", "low", "high"] (sp_whole_within K)) (c_FARTHEST : ∃ t, mg "FARTHEST" = some (.int 20 t)) : FnOk P w K mg base CX0 2 f fd ["number"] (sp_is_place K) := by
  refine FF.ok sc_is_place (fun vs H Q E h => ?_) (fun cdv A outer s H vs Q E hr h => ?_)
  · obtain ⟨F, number, rfl, _⟩ := h; rfl
  · obtain ⟨F, number, rfl, e, k⟩ := h
    unfold is_place at k
    have g_ := Gm.refl (M := []) e
    refine ⟨_, PSs.nox (pss_one (ps_ret (pe_kn G_whole_within (hr.mono (by decide)) (pa_cons (pv 0) (pa_cons (pe_un un_neg (pe_gint c_FARTHEST)) (pa_cons (pe_gint c_FARTHEST) (pa_nil))))))), ?_⟩
    refine ⟨_, rfl, _, rfl, ?_⟩
    refine ⟨F, number, (-(20 : Int)), (20 : Int), rfl, e, (post_bd k).mono (fun b1 k v6 F2 H3 g4 r5 => ?_) (fun _ z => z)⟩
    have eF2 := g4.s
    have gF2 := g_.trans (g4.weak (by simp))
    subst r5
    exact k.h _ _ _ gF2 rfl
/-! ### is_mass -/
abbrev s_is_mass : Stmt := top 18
theorem sc_is_mass : FnScope ["number"] ["number"] (defScope s_is_mass) := ⟨rfl, rfl, rfl, by decide +kernel, rfl, by decide +kernel, by decide +kernel⟩
def is_mass (number : Int) : Mm Bool := (whole_within (number) ((1 : Int)) ((20 : Int))).bd fun b1 => Mm.ok b1
def sp_is_mass (K : PySem.W.Frag) : Sp := fun vs H Q E => ∃ (F : Hp) (number : Int), vs = [(V.int number)] ∧ Ex F H ∧ Post (is_mass number) (fun r => Ret [] F H (fun F' _ v => v = V.bl r) Q) (fun _ => False)
theorem ok_is_mass {P : Program} {w : World} {K : PySem.W.Frag} {mg : Str → Option Value} {base : Heap} {C f : Addr} {fd : FuncData} (B : Bi mg) (FF : FunD K "is_mass" "is_mass" (defArgs s_is_mass) (defBody s_is_mass) (defScope s_is_mass) [] [] f fd) (G_whole_within : Kn P w K mg base "whole_within" 1 ["number", "low", "high"] (sp_whole_within K)) (c_HEAVIEST : ∃ t, mg "HEAVIEST" = some (.int 20 t)) : FnOk P w K mg base CX0 2 f fd ["number"] (sp_is_mass K) := by
  refine FF.ok sc_is_mass (fun vs H Q E h => ?_) (fun cdv A outer s H vs Q E hr h => ?_)
  · obtain ⟨F, number, rfl, _⟩ := h; rfl
  · obtain ⟨F, number, rfl, e, k⟩ := h
    unfold is_mass at k
    have g_ := Gm.refl (M := []) e
    refine ⟨_, PSs.nox (pss_one (ps_ret (pe_kn G_whole_within (hr.mono (by decide)) (pa_cons (pv 0) (pa_cons (pe_int) (pa_cons (pe_gint c_HEAVIEST) (pa_nil))))))), ?_⟩
    refine ⟨_, rfl, ?_⟩
    refine ⟨F, number, (1 : Int), (20 : Int), rfl, e, (post_bd k).mono (fun b1 k v6 F2 H3 g4 r5 => ?_) (fun _ z => z)⟩
    have eF2 := g4.s
    have gF2 := g_.trans (g4.weak (by simp))
    subst r5
    exact k.h _ _ _ gF2 rfl
/-! ### check_masses -/
abbrev s_check_masses : Stmt := top 19
theorem sc_check_masses : FnScope ["masses", "ahead", "index", "place", "mass"] ["masses"] (defScope s_check_masses) := ⟨rfl, rfl, rfl, by decide +kernel, rfl, by decide +kernel, by decide +kernel⟩
def check_masses (masses : (List (Int × Int))) : Mm Unit := (foldM (fun (b5 : Int) (x6 : (Int × (Int × Int))) => (cond (decide (x6.1 = (6 : Int))) (Mm.ok true) ((is_place (x6.2.1)).bd fun b42 => (cond (!b42) (Mm.ok true) ((is_mass (x6.2.2)).bd fun b53 => Mm.ok ((!b53) || (decide (x6.2.1 ≤ b5))))).bd fun b49 => Mm.ok b49)).bd fun b38 => cond b38 (Mm.bad) (Mm.ok x6.2.1)) ((-(20 : Int)) - (1 : Int)) (enumL masses)).bd fun b22 => Mm.ok ()
def sp_check_masses (K : PySem.W.Frag) : Sp := fun vs H Q E => ∃ (F : Hp) (v_masses : V) (masses : (List (Int × Int))), vs = [v_masses] ∧ Ex F H ∧ Dq K F v_masses ((eV (e2 PyData.int PyData.int)) masses) ∧ Post (check_masses masses) (fun r => Ret [] F H (fun F' _ v => v = V.non) Q) (fun _ => False)
theorem ok_check_masses {P : Program} {w : World} {K : PySem.W.Frag} {mg : Str → Option Value} {base : Heap} {C f : Addr} {fd : FuncData} (B : Bi mg) (FF : FunD K "check_masses" "check_masses" (defArgs s_check_masses) (defBody s_check_masses) (defScope s_check_masses) [] [] f fd) (G_is_place : Kn P w K mg base "is_place" 2 ["number"] (sp_is_place K)) (G_is_mass : Kn P w K mg base "is_mass" 2 ["number"] (sp_is_mass K)) (c_FARTHEST : ∃ t, mg "FARTHEST" = some (.int 20 t)) (c_MOST_MASSES : ∃ t, mg "MOST_MASSES" = some (.int 6 t)) : FnOk P w K mg base CX0 3 f fd ["masses"] (sp_check_masses K) := by
  refine FF.ok sc_check_masses (fun vs H Q E h => ?_) (fun cdv A outer s H vs Q E hr h => ?_)
  · obtain ⟨F, v_masses, masses, rfl, _⟩ := h; rfl
  · obtain ⟨F, v_masses, masses, rfl, e, r_masses, k⟩ := h
    unfold check_masses at k
    have g_ := Gm.refl (M := []) e
    refine ⟨_, PSs.nox (pss_cons (ps_set (i := 1) sc_check_masses.nd rfl (Or.inl rfl) (pe_op op_sub (pe_un un_neg (pe_gint c_FARTHEST)) (pe_int))) (pss_one (ps_for PassesOwn.never rfl (pi_enumT rfl B.enumerate (pa_cons (pv 0) pa_nil)) (pg_tup (by rfl) (pgs_cons (pg_name (i := 2) sc_check_masses.nd rfl (Or.inl rfl)) (pgs_cons (pg_tup (by rfl) (pgs_cons (pg_name (i := 3) sc_check_masses.nd rfl (Or.inl rfl)) (pgs_cons (pg_name (i := 4) sc_check_masses.nd rfl (Or.inl rfl)) (pgs_nil)))) (pgs_nil)))) (pss_cons (ps_if (PW.pt (pw_or (pt_cmpR op_eq (pv 2) (pe_gint c_MOST_MASSES) (nomark _)) (pw_or (pt_not (pt_val (pe_kn G_is_place (hr.mono (by decide)) (pa_cons (pv 3) (pa_nil))))) (pw_or (pt_not (pt_val (pe_kn G_is_mass (hr.mono (by decide)) (pa_cons (pv 4) (pa_nil))))) (pw_or1 (pt_cmpR op_le (pv 3) (pv 1) (nomark _))))))) (pss_one ps_never) pss_nil) (pss_one (ps_set (i := 1) sc_check_masses.nd rfl (Or.inl rfl) (pv 3))))))), ?_⟩
    refine ⟨_, rfl, _, _, rfl, rfl, ?_⟩
    refine ⟨_, rfl, ?_⟩
    obtain ⟨p1, xs2, rfl, s3, a4⟩ := dp_tup r_masses
    refine ⟨_, _, rfl, (ex_t e s3), ?_⟩
    refine for_m (M := []) (F := F) (wlk_enumT e s3 a4) (fun b5 F' H' σ' => ∃ (u2 : Option V) (u3 : Option V) (u4 : Option V), σ' = [some (V.ref p1), some (V.int b5), u2, u3, u4]) k e ⟨_, _, _, rfl⟩ (fun b5 x6 v14 σ16 F7 H8 F9 H10 g11 i15 g12 r13 nx kfb5 => ?_) (fun b22 σ21 F17 H18 g19 i20 k => ?_)
    · replace r_masses := r_masses.up g11.f
      replace s3 := ex_t g11.f s3
      replace a4 := a4.up g11.f
      obtain ⟨u23, u24, u25, rfl⟩ := i15
      replace r_masses := r_masses.up g12.f
      replace s3 := ex_t g12.f s3
      replace a4 := a4.up g12.f
      have eF9 := g12.s
      have gF9 := g11.trans (g12.weak (by simp))
      obtain ⟨p26, x27, x28, rfl, s29, d30, d31⟩ := dp_tup2 r13
      obtain rfl := dp_int d30
      refine ⟨_, _, rfl, ex_t eF9 s29, rfl, _, _, rfl, _, _, rfl, ?_⟩
      obtain ⟨p32, x33, x34, rfl, s35, d36, d37⟩ := dp_tup2 d31
      obtain rfl := dp_int d36
      obtain rfl := dp_int d37
      refine ⟨_, _, rfl, ex_t eF9 s35, rfl, _, _, rfl, _, _, rfl, rfl, rfl, ?_⟩
      refine ⟨_, rfl, rfl, ?_⟩
      rw [decV_int]
      refine ⟨_, rfl, ?_⟩
      refine or_jM (M := []) eF9 kfb5 (fun _ Q' kfb5tb38 => ?_) (fun b38 F39 H40 g41 kfb5 => ?_)
      · have gF9_ := Gm.refl (M := []) eF9
        refine ⟨_, rfl, ?_⟩
        refine ⟨F9, x6.2.1, rfl, eF9, (post_bd kfb5tb38).mono (fun b42 kfb5tb38 v47 F43 H44 g45 r46 => ?_) (fun _ z => z)⟩
        have eF43 := g45.s
        have gF43 := gF9_.trans (g45.weak (by simp))
        replace r_masses := r_masses.up g45.f
        replace s3 := ex_t g45.f s3
        replace a4 := a4.up g45.f
        replace r13 := r13.up g45.f
        replace s29 := ex_t g45.f s29
        replace d31 := d31.up g45.f
        replace s35 := ex_t g45.f s35
        subst r46
        refine ⟨_, rfl, ?_⟩
        refine or_jM (M := []) eF43 kfb5tb38 (fun _ Q' kfb5tb38tb49 => ?_) (fun b49 F50 H51 g52 kfb5tb38 => ?_)
        · have gF43_ := Gm.refl (M := []) eF43
          refine ⟨_, rfl, ?_⟩
          refine ⟨F43, x6.2.2, rfl, eF43, (post_bd kfb5tb38tb49).mono (fun b53 kfb5tb38tb49 v58 F54 H55 g56 r57 => ?_) (fun _ z => z)⟩
          have eF54 := g56.s
          have gF54 := gF43_.trans (g56.weak (by simp))
          replace r_masses := r_masses.up g56.f
          replace s3 := ex_t g56.f s3
          replace a4 := a4.up g56.f
          replace r13 := r13.up g56.f
          replace s29 := ex_t g56.f s29
          replace d31 := d31.up g56.f
          replace s35 := ex_t g56.f s35
          subst r57
          refine ⟨_, rfl, ?_⟩
          refine or_j (b := (decide (x6.2.1 ≤ b5))) (fun _ Q' q => ?_) ?_
          · refine ⟨_, rfl, _, rfl, _, _, rfl, rfl, _, rfl, ?_⟩
            exact q
          exact kfb5tb38tb49.h _ _ gF54
        have eF50 := g52.s
        have gF50 := gF43.trans (g52.weak (by simp))
        replace r_masses := r_masses.up g52.f
        replace s3 := ex_t g52.f s3
        replace a4 := a4.up g52.f
        replace r13 := r13.up g52.f
        replace s29 := ex_t g52.f s29
        replace d31 := d31.up g52.f
        replace s35 := ex_t g52.f s35
        exact kfb5tb38.h _ _ gF50
      have eF39 := g41.s
      have gF39 := gF9.trans (g41.weak (by simp))
      replace r_masses := r_masses.up g41.f
      replace s3 := ex_t g41.f s3
      replace a4 := a4.up g41.f
      replace r13 := r13.up g41.f
      replace s29 := ex_t g41.f s29
      replace d31 := d31.up g41.f
      replace s35 := ex_t g41.f s35
      refine cs kfb5 (fun _ kfb5 => ?_) (fun _ kfb5 => ?_)
      · exact kfb5.elim
      · refine ⟨_, rfl, ?_⟩
        exact kfb5.h _ _ _ gF39 ⟨_, _, _, rfl⟩
    have g60 := g_.trans (g19.weak (by simp))
    replace r_masses := r_masses.up g19.f
    replace s3 := ex_t g19.f s3
    replace a4 := a4.up g19.f
    have eF17 := g19.s
    obtain ⟨u61, u62, u63, rfl⟩ := i20
    exact k.h _ _ _ g60 rfl
/-! ### check_stretches -/
abbrev s_check_stretches : Stmt := top 20
theorem sc_check_stretches : FnScope ["stretches", "ahead", "index", "low", "high", "height"] ["stretches"] (defScope s_check_stretches) := ⟨rfl, rfl, rfl, by decide +kernel, rfl, by decide +kernel, by decide +kernel⟩
def check_stretches (stretches : (List (Int × Int × Int))) : Mm Unit := (foldM (fun (b5 : Int) (x6 : (Int × (Int × Int × Int))) => (cond (decide (x6.1 = (4 : Int))) (Mm.ok true) ((is_place (x6.2.1)).bd fun b45 => (cond (!b45) (Mm.ok true) ((is_place (x6.2.2.1)).bd fun b56 => (cond (!b56) (Mm.ok true) ((is_mass (x6.2.2.2)).bd fun b67 => Mm.ok (!b67))).bd fun b63 => Mm.ok b63)).bd fun b52 => Mm.ok b52)).bd fun b41 => cond b41 (Mm.bad) (cond ((decide (x6.2.1 < b5)) || (decide (x6.2.2.1 ≤ x6.2.1))) (Mm.bad) (Mm.ok x6.2.2.1))) (-(20 : Int)) (enumL stretches)).bd fun b22 => Mm.ok ()
def sp_check_stretches (K : PySem.W.Frag) : Sp := fun vs H Q E => ∃ (F : Hp) (v_stretches : V) (stretches : (List (Int × Int × Int))), vs = [v_stretches] ∧ Ex F H ∧ Dq K F v_stretches ((eV (e3 PyData.int PyData.int PyData.int)) stretches) ∧ Post (check_stretches stretches) (fun r => Ret [] F H (fun F' _ v => v = V.non) Q) (fun _ => False)
theorem ok_check_stretches {P : Program} {w : World} {K : PySem.W.Frag} {mg : Str → Option Value} {base : Heap} {C f : Addr} {fd : FuncData} (B : Bi mg) (FF : FunD K "check_stretches" "check_stretches" (defArgs s_check_stretches) (defBody s_check_stretches) (defScope s_check_stretches) [] [] f fd) (G_is_place : Kn P w K mg base "is_place" 2 ["number"] (sp_is_place K)) (G_is_mass : Kn P w K mg base "is_mass" 2 ["number"] (sp_is_mass K)) (c_FARTHEST : ∃ t, mg "FARTHEST" = some (.int 20 t)) (c_MOST_STRETCHES : ∃ t, mg "MOST_STRETCHES" = some (.int 4 t)) : FnOk P w K mg base CX0 3 f fd ["stretches"] (sp_check_stretches K) := by
  refine FF.ok sc_check_stretches (fun vs H Q E h => ?_) (fun cdv A outer s H vs Q E hr h => ?_)
  · obtain ⟨F, v_stretches, stretches, rfl, _⟩ := h; rfl
  · obtain ⟨F, v_stretches, stretches, rfl, e, r_stretches, k⟩ := h
    unfold check_stretches at k
    have g_ := Gm.refl (M := []) e
    refine ⟨_, PSs.nox (pss_cons (ps_set (i := 1) sc_check_stretches.nd rfl (Or.inl rfl) (pe_un un_neg (pe_gint c_FARTHEST))) (pss_one (ps_for PassesOwn.never rfl (pi_enumT rfl B.enumerate (pa_cons (pv 0) pa_nil)) (pg_tup (by rfl) (pgs_cons (pg_name (i := 2) sc_check_stretches.nd rfl (Or.inl rfl)) (pgs_cons (pg_tup (by rfl) (pgs_cons (pg_name (i := 3) sc_check_stretches.nd rfl (Or.inl rfl)) (pgs_cons (pg_name (i := 4) sc_check_stretches.nd rfl (Or.inl rfl)) (pgs_cons (pg_name (i := 5) sc_check_stretches.nd rfl (Or.inl rfl)) (pgs_nil))))) (pgs_nil)))) (pss_cons (ps_if (PW.pt (pw_or (pt_cmpR op_eq (pv 2) (pe_gint c_MOST_STRETCHES) (nomark _)) (pw_or (pt_not (pt_val (pe_kn G_is_place (hr.mono (by decide)) (pa_cons (pv 3) (pa_nil))))) (pw_or (pt_not (pt_val (pe_kn G_is_place (hr.mono (by decide)) (pa_cons (pv 4) (pa_nil))))) (pw_or1 (pt_not (pt_val (pe_kn G_is_mass (hr.mono (by decide)) (pa_cons (pv 5) (pa_nil)))))))))) (pss_one ps_never) pss_nil) (pss_cons (ps_if (PW.pt (pw_or (pt_cmpR op_lt (pv 3) (pv 1) (nomark _)) (pw_or1 (pt_cmpR op_le (pv 4) (pv 3) (nomark _))))) (pss_one ps_never) pss_nil) (pss_one (ps_set (i := 1) sc_check_stretches.nd rfl (Or.inl rfl) (pv 4)))))))), ?_⟩
    refine ⟨_, rfl, ?_⟩
    refine ⟨_, rfl, ?_⟩
    obtain ⟨p1, xs2, rfl, s3, a4⟩ := dp_tup r_stretches
    refine ⟨_, _, rfl, (ex_t e s3), ?_⟩
    refine for_m (M := []) (F := F) (wlk_enumT e s3 a4) (fun b5 F' H' σ' => ∃ (u2 : Option V) (u3 : Option V) (u4 : Option V) (u5 : Option V), σ' = [some (V.ref p1), some (V.int b5), u2, u3, u4, u5]) k e ⟨_, _, _, _, rfl⟩ (fun b5 x6 v14 σ16 F7 H8 F9 H10 g11 i15 g12 r13 nx kfb5 => ?_) (fun b22 σ21 F17 H18 g19 i20 k => ?_)
    · replace r_stretches := r_stretches.up g11.f
      replace s3 := ex_t g11.f s3
      replace a4 := a4.up g11.f
      obtain ⟨u23, u24, u25, u26, rfl⟩ := i15
      replace r_stretches := r_stretches.up g12.f
      replace s3 := ex_t g12.f s3
      replace a4 := a4.up g12.f
      have eF9 := g12.s
      have gF9 := g11.trans (g12.weak (by simp))
      obtain ⟨p27, x28, x29, rfl, s30, d31, d32⟩ := dp_tup2 r13
      obtain rfl := dp_int d31
      refine ⟨_, _, rfl, ex_t eF9 s30, rfl, _, _, rfl, _, _, rfl, ?_⟩
      obtain ⟨p33, x34, x35, x36, rfl, s37, d38, d39, d40⟩ := dp_tup3 d32
      obtain rfl := dp_int d38
      obtain rfl := dp_int d39
      obtain rfl := dp_int d40
      refine ⟨_, _, rfl, ex_t eF9 s37, rfl, _, _, rfl, _, _, rfl, _, _, rfl, rfl, rfl, ?_⟩
      refine ⟨_, rfl, rfl, ?_⟩
      rw [decV_int]
      refine ⟨_, rfl, ?_⟩
      refine or_jM (M := []) eF9 kfb5 (fun _ Q' kfb5tb41 => ?_) (fun b41 F42 H43 g44 kfb5 => ?_)
      · have gF9_ := Gm.refl (M := []) eF9
        refine ⟨_, rfl, ?_⟩
        refine ⟨F9, x6.2.1, rfl, eF9, (post_bd kfb5tb41).mono (fun b45 kfb5tb41 v50 F46 H47 g48 r49 => ?_) (fun _ z => z)⟩
        have eF46 := g48.s
        have gF46 := gF9_.trans (g48.weak (by simp))
        replace r_stretches := r_stretches.up g48.f
        replace s3 := ex_t g48.f s3
        replace a4 := a4.up g48.f
        replace r13 := r13.up g48.f
        replace s30 := ex_t g48.f s30
        replace d32 := d32.up g48.f
        replace s37 := ex_t g48.f s37
        subst r49
        refine ⟨_, rfl, ?_⟩
        refine or_jM (M := []) eF46 kfb5tb41 (fun _ Q' kfb5tb41tb52 => ?_) (fun b52 F53 H54 g55 kfb5tb41 => ?_)
        · have gF46_ := Gm.refl (M := []) eF46
          refine ⟨_, rfl, ?_⟩
          refine ⟨F46, x6.2.2.1, rfl, eF46, (post_bd kfb5tb41tb52).mono (fun b56 kfb5tb41tb52 v61 F57 H58 g59 r60 => ?_) (fun _ z => z)⟩
          have eF57 := g59.s
          have gF57 := gF46_.trans (g59.weak (by simp))
          replace r_stretches := r_stretches.up g59.f
          replace s3 := ex_t g59.f s3
          replace a4 := a4.up g59.f
          replace r13 := r13.up g59.f
          replace s30 := ex_t g59.f s30
          replace d32 := d32.up g59.f
          replace s37 := ex_t g59.f s37
          subst r60
          refine ⟨_, rfl, ?_⟩
          refine or_jM (M := []) eF57 kfb5tb41tb52 (fun _ Q' kfb5tb41tb52tb63 => ?_) (fun b63 F64 H65 g66 kfb5tb41tb52 => ?_)
          · have gF57_ := Gm.refl (M := []) eF57
            refine ⟨_, rfl, ?_⟩
            refine ⟨F57, x6.2.2.2, rfl, eF57, (post_bd kfb5tb41tb52tb63).mono (fun b67 kfb5tb41tb52tb63 v72 F68 H69 g70 r71 => ?_) (fun _ z => z)⟩
            have eF68 := g70.s
            have gF68 := gF57_.trans (g70.weak (by simp))
            replace r_stretches := r_stretches.up g70.f
            replace s3 := ex_t g70.f s3
            replace a4 := a4.up g70.f
            replace r13 := r13.up g70.f
            replace s30 := ex_t g70.f s30
            replace d32 := d32.up g70.f
            replace s37 := ex_t g70.f s37
            subst r71
            refine ⟨_, rfl, ?_⟩
            exact kfb5tb41tb52tb63.h _ _ gF68
          have eF64 := g66.s
          have gF64 := gF57.trans (g66.weak (by simp))
          replace r_stretches := r_stretches.up g66.f
          replace s3 := ex_t g66.f s3
          replace a4 := a4.up g66.f
          replace r13 := r13.up g66.f
          replace s30 := ex_t g66.f s30
          replace d32 := d32.up g66.f
          replace s37 := ex_t g66.f s37
          exact kfb5tb41tb52.h _ _ gF64
        have eF53 := g55.s
        have gF53 := gF46.trans (g55.weak (by simp))
        replace r_stretches := r_stretches.up g55.f
        replace s3 := ex_t g55.f s3
        replace a4 := a4.up g55.f
        replace r13 := r13.up g55.f
        replace s30 := ex_t g55.f s30
        replace d32 := d32.up g55.f
        replace s37 := ex_t g55.f s37
        exact kfb5tb41.h _ _ gF53
      have eF42 := g44.s
      have gF42 := gF9.trans (g44.weak (by simp))
      replace r_stretches := r_stretches.up g44.f
      replace s3 := ex_t g44.f s3
      replace a4 := a4.up g44.f
      replace r13 := r13.up g44.f
      replace s30 := ex_t g44.f s30
      replace d32 := d32.up g44.f
      replace s37 := ex_t g44.f s37
      refine cs kfb5 (fun _ kfb5 => ?_) (fun _ kfb5 => ?_)
      · exact kfb5.elim
      · refine ⟨_, rfl, _, rfl, _, _, rfl, rfl, _, rfl, ?_⟩
        refine or_j (b := (decide (x6.2.2.1 ≤ x6.2.1))) (fun _ Q' q => ?_) ?_
        · refine ⟨_, rfl, _, rfl, _, _, rfl, rfl, _, rfl, ?_⟩
          exact q
        refine cs kfb5 (fun _ kfb5 => ?_) (fun _ kfb5 => ?_)
        · exact kfb5.elim
        · refine ⟨_, rfl, ?_⟩
          exact kfb5.h _ _ _ gF42 ⟨_, _, _, _, rfl⟩
    have g74 := g_.trans (g19.weak (by simp))
    replace r_stretches := r_stretches.up g19.f
    replace s3 := ex_t g19.f s3
    replace a4 := a4.up g19.f
    have eF17 := g19.s
    obtain ⟨u75, u76, u77, u78, rfl⟩ := i20
    exact k.h _ _ _ g74 rfl
/-! ### Weighting.__init__ -/
abbrev s_Weighting_init : Stmt := inClass (top 16) 0
theorem sc_Weighting_init : FnScope ["self", "masses", "stretches", "place", "mass", "low", "high", "height"] ["self", "masses", "stretches"] (defScope s_Weighting_init) := ⟨rfl, rfl, rfl, by decide +kernel, rfl, by decide +kernel, by decide +kernel⟩
def Weighting_init (masses : Ms) (stretches : Ss) : Mm Wt := (check_masses (masses)).bd fun b1 => (check_stretches (stretches)).bd fun b8 => (cond (decide ((masses.length : Int) = (0 : Int))) (Mm.ok (decide ((stretches.length : Int) = (0 : Int)))) (Mm.ok false)).bd fun b19 => cond b19 (Mm.bad) ((guardM (masses.length ≤ 50000)).bd fun _ => (mapMm (fun (x29 : (Int × Int)) => Mm.ok (x29.1, x29.2)) masses).bd fun b28 => (guardM (stretches.length ≤ 50000)).bd fun _ => (mapMm (fun (x77 : (Int × Int × Int)) => Mm.ok (x77.1, x77.2.1, x77.2.2)) stretches).bd fun b76 => Mm.ok (b28, b76))
theorem ok_Weighting_init {P : Program} {w : World} {K : PySem.W.Frag} {mg : Str → Option Value} {base : Heap} {C f : Addr} {fd : FuncData} (B : Bi mg) (cl : Cls K C) (n_masses : NoAttr K C "_masses") (n_stretches : NoAttr K C "_stretches") (FF : FunD K "__init__" "Weighting.__init__" (defArgs s_Weighting_init) (defBody s_Weighting_init) (defScope s_Weighting_init) [] [] f fd) (G_check_masses : Kn P w K mg base "check_masses" 3 ["masses"] (sp_check_masses K)) (G_check_stretches : Kn P w K mg base "check_stretches" 3 ["stretches"] (sp_check_stretches K)) : FnOk P w K mg base CX0 4 f fd ["self", "masses", "stretches"] (spW0 Weighting_init K C) := by
  refine FF.ok sc_Weighting_init (fun vs H Q E h => ?_) (fun cdv A outer s H vs Q E hr h => ?_)
  · obtain ⟨F, x, dx, v_masses, v_stretches, masses, stretches, rfl, _⟩ := h; rfl
  · obtain ⟨F, x, dx, v_masses, v_stretches, masses, stretches, rfl, e, hx, fx, r_masses, r_stretches, k⟩ := h
    have o : H x = some (.ins C dx []) ∧ F x = none := ⟨hx, fx⟩
    unfold Weighting_init at k
    have g_ := Gm.refl (M := [x]) e
    refine ⟨_, PSs.nox (pss_cons (ps_expr (pe_kn G_check_masses (hr.mono (by decide)) (pa_cons (pv 1) (pa_nil)))) (pss_cons (ps_expr (pe_kn G_check_stretches (hr.mono (by decide)) (pa_cons (pv 2) (pa_nil)))) (pss_cons (ps_if (PW.pt (pw_and (pt_cmpR op_eq (pe_callB call_lenM (by rfl) B.len (by decide +kernel) (pa_cons (pv 1) pa_nil)) (pe_int) (nomark _)) (pw_and1 (pt_cmpR op_eq (pe_callB call_lenM (by rfl) B.len (by decide +kernel) (pa_cons (pv 2) pa_nil)) (pe_int) (nomark _))))) (pss_one ps_never) pss_nil) (pss_cons (ps_fld (pv 0) (pe_q (pe_callTy call_tuple_of (by rfl) B.tuple (by decide +kernel) (pa_cons (pe_q (pe_lc (own := [("place", 3), ("mass", 4)]) (g := gTup K 2 (gCons (gName 3) (gCons (gName 4) gNil))) rfl sc_Weighting_init.nd (pi_tup (pv 1)) (blkOk_by (N := ["self", "masses", "stretches", "place", "mass", "low", "high", "height"]) (sc := defScope s_Weighting_init) (by decide +kernel)) (fun _ _ _ _ _ => pg_tup (by rfl) (pgs_cons (pg_name (i := 3) sc_Weighting_init.nd rfl (Or.inl rfl)) (pgs_cons (pg_name (i := 4) sc_Weighting_init.nd rfl (Or.inl rfl)) (pgs_nil)))) (fun _ _ _ _ _ => pts_nil) (fun _ _ _ _ _ => pe_q (pe_tup (pa_cons (pv 3) (pa_cons (pv 4) (pa_nil))))))) pa_nil))) rfl) (pss_one (ps_fld (pv 0) (pe_q (pe_callTy call_tuple_of (by rfl) B.tuple (by decide +kernel) (pa_cons (pe_q (pe_lc (own := [("low", 5), ("high", 6), ("height", 7)]) (g := gTup K 3 (gCons (gName 5) (gCons (gName 6) (gCons (gName 7) gNil)))) rfl sc_Weighting_init.nd (pi_tup (pv 2)) (blkOk_by (N := ["self", "masses", "stretches", "place", "mass", "low", "high", "height"]) (sc := defScope s_Weighting_init) (by decide +kernel)) (fun _ _ _ _ _ => pg_tup (by rfl) (pgs_cons (pg_name (i := 5) sc_Weighting_init.nd rfl (Or.inl rfl)) (pgs_cons (pg_name (i := 6) sc_Weighting_init.nd rfl (Or.inl rfl)) (pgs_cons (pg_name (i := 7) sc_Weighting_init.nd rfl (Or.inl rfl)) (pgs_nil))))) (fun _ _ _ _ _ => pts_nil) (fun _ _ _ _ _ => pe_q (pe_tup (pa_cons (pv 5) (pa_cons (pv 6) (pa_cons (pv 7) (pa_nil)))))))) pa_nil))) rfl)))))), ?_⟩
    refine ⟨_, rfl, ?_⟩
    refine ⟨F, _, masses, rfl, e, r_masses, (post_bd k).mono (fun b1 k v6 F2 H3 g4 r5 => ?_) (fun _ z => z)⟩
    have eF2 := g4.s
    have gF2 := g_.trans (g4.weak (by simp))
    replace o := g4.own (by first | exact List.not_mem_nil | (simp only [List.mem_cons, List.not_mem_nil, or_false, not_or]; (repeat' apply And.intro) <;> assumption)) o.1 o.2
    replace r_masses := r_masses.up g4.f
    replace r_stretches := r_stretches.up g4.f
    subst r5
    refine ⟨_, rfl, ?_⟩
    refine ⟨F2, _, stretches, rfl, eF2, r_stretches, (post_bd k).mono (fun b8 k v13 F9 H10 g11 r12 => ?_) (fun _ z => z)⟩
    have eF9 := g11.s
    have gF9 := gF2.trans (g11.weak (by simp))
    replace o := g11.own (by first | exact List.not_mem_nil | (simp only [List.mem_cons, List.not_mem_nil, or_false, not_or]; (repeat' apply And.intro) <;> assumption)) o.1 o.2
    replace r_masses := r_masses.up g11.f
    replace r_stretches := r_stretches.up g11.f
    subst r12
    refine ⟨_, rfl, ?_⟩
    obtain ⟨p15, xs16, rfl, s17, a18⟩ := dp_tup r_masses
    refine ⟨_, _, _, rfl, .inr (ex_t eF9 s17), len_all a18, rfl, ?_⟩
    rw [decV_int]
    refine ⟨_, rfl, ?_⟩
    refine and_jM (M := []) eF9 k (fun _ Q' ktb19 => ?_) (fun b19 F20 H21 g22 k => ?_)
    · have gF9_ := Gm.refl (M := []) eF9
      refine ⟨_, rfl, ?_⟩
      obtain ⟨p23, xs24, rfl, s25, a26⟩ := dp_tup r_stretches
      refine ⟨_, _, _, rfl, .inr (ex_t eF9 s25), len_all a26, rfl, ?_⟩
      rw [decV_int]
      refine ⟨_, rfl, ?_⟩
      exact ktb19.h _ _ gF9_
    have eF20 := g22.s
    have gF20 := gF9.trans (g22.weak (by simp))
    replace o := g22.own (by first | exact List.not_mem_nil | (simp only [List.mem_cons, List.not_mem_nil, or_false, not_or]; (repeat' apply And.intro) <;> assumption)) o.1 o.2
    replace r_masses := r_masses.up g22.f
    replace r_stretches := r_stretches.up g22.f
    replace s17 := ex_t g22.f s17
    replace a18 := a18.up g22.f
    refine cs k (fun _ k => ?_) (fun _ k => ?_)
    · exact k.elim
    · refine ⟨_, rfl, ?_⟩
      refine ⟨_, rfl, ⟨_, (ex_t eF20 s17)⟩, ?_⟩
      obtain ⟨h46, k⟩ := post_guard k
      refine lc_map (K := K) (M := []) (wlk_tup eF20 s17 a18) (e2 PyData.int PyData.int) k eF20 h46 (fun _ _ => by simp) (fun x29 v44 F37 H38 F39 H40 g41 g42 r43 Q' k27 => ?_) (fun _ z => z) (fun b28 v30 F31 H32 g33 r34 k => ?_) (gm_tup (gms_cons gm_name (gms_cons gm_name gms_nil)))
      · have g47 := Gm.refl (M := []) g41.s
        replace o := g41.own (by first | exact List.not_mem_nil | (simp only [List.mem_cons, List.not_mem_nil, or_false, not_or]; (repeat' apply And.intro) <;> assumption)) o.1 o.2
        replace r_masses := r_masses.up g41.f
        replace r_stretches := r_stretches.up g41.f
        replace s17 := ex_t g41.f s17
        replace a18 := a18.up g41.f
        replace o := g42.own (by first | exact List.not_mem_nil | (simp only [List.mem_cons, List.not_mem_nil, or_false, not_or]; (repeat' apply And.intro) <;> assumption)) o.1 o.2
        replace r_masses := r_masses.up g42.f
        replace r_stretches := r_stretches.up g42.f
        replace s17 := ex_t g42.f s17
        replace a18 := a18.up g42.f
        have eF39 := g42.s
        have gF39 := g47.trans (g42.weak (by simp))
        obtain ⟨p48, x49, x50, rfl, s51, d52, d53⟩ := dp_tup2 r43
        obtain rfl := dp_int d52
        obtain rfl := dp_int d53
        refine ⟨_, _, rfl, ex_t eF39 s51, rfl, _, _, rfl, _, _, rfl, rfl, rfl, _, rfl, _, rfl, ?_⟩
        show _ ∧ _
        refine new_tup (K := K) (M := []) eF39 (.cons (Dq.int x29.1) (.cons (Dq.int x29.2) .nil)) (by show 2 ≤ 100000; decide) fun v58 F54 H55 g56 r57 => ?_
        have eF54 := g56.s
        have gF54 := gF39.trans (g56.weak (by simp))
        replace o := g56.own (by first | exact List.not_mem_nil | (simp only [List.mem_cons, List.not_mem_nil, or_false, not_or]; (repeat' apply And.intro) <;> assumption)) o.1 o.2
        replace r_masses := r_masses.up g56.f
        replace r_stretches := r_stretches.up g56.f
        replace s17 := ex_t g56.f s17
        replace a18 := a18.up g56.f
        replace r43 := r43.up g56.f
        replace s51 := ex_t g56.f s51
        replace r57 : Dq K F54 v58 ((e2 PyData.int PyData.int) (x29.1, x29.2)) := r57
        exact k27.h _ _ _ gF54 r57
      have eF31 := g33.s
      have gF31 := gF20.trans (g33.weak (by simp))
      replace o := g33.own (by first | exact List.not_mem_nil | (simp only [List.mem_cons, List.not_mem_nil, or_false, not_or]; (repeat' apply And.intro) <;> assumption)) o.1 o.2
      replace r_masses := r_masses.up g33.f
      replace r_stretches := r_stretches.up g33.f
      replace s17 := ex_t g33.f s17
      replace a18 := a18.up g33.f
      obtain ⟨p60, xs61, rfl, s62, a63⟩ := dp_lst r34
      refine to_VL (K := K) (M := []) eF31 s62 a63 (en := (e2 PyData.int PyData.int)) (l := b28) fun v68 F64 H65 g66 r67 => ?_
      have eF64 := g66.s
      have gF64 := gF31.trans (g66.weak (by simp))
      replace o := g66.own (by first | exact List.not_mem_nil | (simp only [List.mem_cons, List.not_mem_nil, or_false, not_or]; (repeat' apply And.intro) <;> assumption)) o.1 o.2
      replace r_masses := r_masses.up g66.f
      replace r_stretches := r_stretches.up g66.f
      replace s17 := ex_t g66.f s17
      replace a18 := a18.up g66.f
      replace r34 := r34.up g66.f
      replace s62 := g66.f _ _ s62
      replace a63 := a63.up g66.f
      refine ⟨_, rfl, x, C, dx, _, rfl, o.1, cl, n_masses, (by show 0 < 1000; decide), ?_⟩
      have g69 := gF64.putIn (o := .ins C dx (putF "_masses" v68 [])) (by simp) o.1 o.2
      replace o : (upd H65 x (.ins C dx (putF "_masses" v68 []))) x = some (.ins C dx (putF "_masses" v68 [])) ∧ F64 x = none := ⟨upd_same, o.2⟩
      have e70 := g69.s
      refine ⟨_, rfl, ?_⟩
      obtain ⟨p71, xs72, rfl, s73, a74⟩ := dp_tup r_stretches
      refine ⟨_, rfl, ⟨_, (ex_t e70 s73)⟩, ?_⟩
      obtain ⟨h94, k⟩ := post_guard k
      refine lc_map (K := K) (M := []) (wlk_tup e70 s73 a74) (e3 PyData.int PyData.int PyData.int) k e70 h94 (fun _ _ => by simp) (fun x77 v92 F85 H86 F87 H88 g89 g90 r91 Q' k75 => ?_) (fun _ z => z) (fun b76 v78 F79 H80 g81 r82 k => ?_) (gm_tup (gms_cons gm_name (gms_cons gm_name (gms_cons gm_name gms_nil))))
      · have g95 := Gm.refl (M := []) g89.s
        replace o := g89.own (by first | exact List.not_mem_nil | (simp only [List.mem_cons, List.not_mem_nil, or_false, not_or]; (repeat' apply And.intro) <;> assumption)) o.1 o.2
        replace r_masses := r_masses.up g89.f
        replace r_stretches := r_stretches.up g89.f
        replace s17 := ex_t g89.f s17
        replace a18 := a18.up g89.f
        replace r34 := r34.up g89.f
        replace s62 := g89.f _ _ s62
        replace a63 := a63.up g89.f
        replace r67 := r67.up g89.f
        replace s73 := ex_t g89.f s73
        replace a74 := a74.up g89.f
        replace o := g90.own (by first | exact List.not_mem_nil | (simp only [List.mem_cons, List.not_mem_nil, or_false, not_or]; (repeat' apply And.intro) <;> assumption)) o.1 o.2
        replace r_masses := r_masses.up g90.f
        replace r_stretches := r_stretches.up g90.f
        replace s17 := ex_t g90.f s17
        replace a18 := a18.up g90.f
        replace r34 := r34.up g90.f
        replace s62 := g90.f _ _ s62
        replace a63 := a63.up g90.f
        replace r67 := r67.up g90.f
        replace s73 := ex_t g90.f s73
        replace a74 := a74.up g90.f
        have eF87 := g90.s
        have gF87 := g95.trans (g90.weak (by simp))
        obtain ⟨p96, x97, x98, x99, rfl, s100, d101, d102, d103⟩ := dp_tup3 r91
        obtain rfl := dp_int d101
        obtain rfl := dp_int d102
        obtain rfl := dp_int d103
        refine ⟨_, _, rfl, ex_t eF87 s100, rfl, _, _, rfl, _, _, rfl, _, _, rfl, rfl, rfl, _, rfl, _, rfl, _, rfl, ?_⟩
        show _ ∧ _
        refine new_tup (K := K) (M := []) eF87 (.cons (Dq.int x77.1) (.cons (Dq.int x77.2.1) (.cons (Dq.int x77.2.2) .nil))) (by show 3 ≤ 100000; decide) fun v108 F104 H105 g106 r107 => ?_
        have eF104 := g106.s
        have gF104 := gF87.trans (g106.weak (by simp))
        replace o := g106.own (by first | exact List.not_mem_nil | (simp only [List.mem_cons, List.not_mem_nil, or_false, not_or]; (repeat' apply And.intro) <;> assumption)) o.1 o.2
        replace r_masses := r_masses.up g106.f
        replace r_stretches := r_stretches.up g106.f
        replace s17 := ex_t g106.f s17
        replace a18 := a18.up g106.f
        replace r34 := r34.up g106.f
        replace s62 := g106.f _ _ s62
        replace a63 := a63.up g106.f
        replace r67 := r67.up g106.f
        replace s73 := ex_t g106.f s73
        replace a74 := a74.up g106.f
        replace r91 := r91.up g106.f
        replace s100 := ex_t g106.f s100
        replace r107 : Dq K F104 v108 ((e3 PyData.int PyData.int PyData.int) (x77.1, x77.2.1, x77.2.2)) := r107
        exact k75.h _ _ _ gF104 r107
      have eF79 := g81.s
      have gF79 := g69.trans (g81.weak (by simp))
      replace o := g81.own (by first | exact List.not_mem_nil | (simp only [List.mem_cons, List.not_mem_nil, or_false, not_or]; (repeat' apply And.intro) <;> assumption)) o.1 o.2
      replace r_masses := r_masses.up g81.f
      replace r_stretches := r_stretches.up g81.f
      replace s17 := ex_t g81.f s17
      replace a18 := a18.up g81.f
      replace r34 := r34.up g81.f
      replace s62 := g81.f _ _ s62
      replace a63 := a63.up g81.f
      replace r67 := r67.up g81.f
      replace s73 := ex_t g81.f s73
      replace a74 := a74.up g81.f
      obtain ⟨p110, xs111, rfl, s112, a113⟩ := dp_lst r82
      refine to_VL (K := K) (M := []) eF79 s112 a113 (en := (e3 PyData.int PyData.int PyData.int)) (l := b76) fun v118 F114 H115 g116 r117 => ?_
      have eF114 := g116.s
      have gF114 := gF79.trans (g116.weak (by simp))
      replace o := g116.own (by first | exact List.not_mem_nil | (simp only [List.mem_cons, List.not_mem_nil, or_false, not_or]; (repeat' apply And.intro) <;> assumption)) o.1 o.2
      replace r_masses := r_masses.up g116.f
      replace r_stretches := r_stretches.up g116.f
      replace s17 := ex_t g116.f s17
      replace a18 := a18.up g116.f
      replace r34 := r34.up g116.f
      replace s62 := g116.f _ _ s62
      replace a63 := a63.up g116.f
      replace r67 := r67.up g116.f
      replace s73 := ex_t g116.f s73
      replace a74 := a74.up g116.f
      replace r82 := r82.up g116.f
      replace s112 := g116.f _ _ s112
      replace a113 := a113.up g116.f
      refine ⟨_, rfl, x, C, dx, _, rfl, o.1, cl, n_stretches, (by show 1 < 1000; decide), ?_⟩
      have g119 := gF114.putIn (o := .ins C dx (putF "_stretches" v118 (putF "_masses" v68 []))) (by simp) o.1 o.2
      replace o : (upd H115 x (.ins C dx (putF "_stretches" v118 (putF "_masses" v68 [])))) x = some (.ins C dx (putF "_stretches" v118 (putF "_masses" v68 []))) ∧ F114 x = none := ⟨upd_same, o.2⟩
      have e120 := g119.s
      exact k.h _ _ _ _ g119 o.1 o.2 r67 r117
/-! ### fraction_text -/
abbrev s_fraction_text : Stmt := top 24
theorem sc_fraction_text : FnScope ["fraction", "top", "bottom"] ["fraction"] (defScope s_fraction_text) := ⟨rfl, rfl, rfl, by decide +kernel, rfl, by decide +kernel, by decide +kernel⟩
def fraction_text (fraction : (Int × Int)) : Mm (List Nat) := (checked_fraction (fraction)).bd fun b1 => cond (decide (b1.2 = (1 : Int))) ((guardM (b1.1.natAbs < 18446744073709551616)).bd fun _ => Mm.ok (intL b1.1)) ((guardM (b1.1.natAbs < 18446744073709551616)).bd fun _ => (guardM (([] : List Nat).length + (intL b1.1).length ≤ 100000)).bd fun _ => (guardM ((([] : List Nat) ++ (intL b1.1)).length + ([47] : List Nat).length ≤ 100000)).bd fun _ => (guardM (b1.2.natAbs < 18446744073709551616)).bd fun _ => (guardM (((([] : List Nat) ++ (intL b1.1)) ++ ([47] : List Nat)).length + (intL b1.2).length ≤ 100000)).bd fun _ => Mm.ok (((([] : List Nat) ++ (intL b1.1)) ++ ([47] : List Nat)) ++ (intL b1.2)))
def sp_fraction_text (K : PySem.W.Frag) : Sp := fun vs H Q E => ∃ (F : Hp) (v_fraction : V) (fraction : (Int × Int)), vs = [v_fraction] ∧ Ex F H ∧ Dq K F v_fraction ((e2 PyData.int PyData.int) fraction) ∧ Post (fraction_text fraction) (fun r => Ret [] F H (fun F' _ v => v = V.str (sT r)) Q) (fun _ => False)
theorem ok_fraction_text {P : Program} {w : World} {K : PySem.W.Frag} {mg : Str → Option Value} {base : Heap} {C f : Addr} {fd : FuncData} (B : Bi mg) (FF : FunD K "fraction_text" "fraction_text" (defArgs s_fraction_text) (defBody s_fraction_text) (defScope s_fraction_text) [] [] f fd) (G_checked_fraction : Kn P w K mg base "checked_fraction" 2 ["fraction"] (sp_checked_fraction K)) : FnOk P w K mg base CX0 3 f fd ["fraction"] (sp_fraction_text K) := by
  refine FF.ok sc_fraction_text (fun vs H Q E h => ?_) (fun cdv A outer s H vs Q E hr h => ?_)
  · obtain ⟨F, v_fraction, fraction, rfl, _⟩ := h; rfl
  · obtain ⟨F, v_fraction, fraction, rfl, e, r_fraction, k⟩ := h
    unfold fraction_text at k
    have g_ := Gm.refl (M := []) e
    refine ⟨_, PSs.nox (pss_cons (ps_asg (pe_kn G_checked_fraction (hr.mono (by decide)) (pa_cons (pv 0) (pa_nil))) (pg_tup (by rfl) (pgs_cons (pg_name (i := 1) sc_fraction_text.nd rfl (Or.inl rfl)) (pgs_cons (pg_name (i := 2) sc_fraction_text.nd rfl (Or.inl rfl)) (pgs_nil))))) (pss_cons (ps_if (pt_cmpR op_eq (pv 2) (pe_int) (nomark _)) (pss_one (ps_ret (pe_callTy call_strT (by rfl) B.str (by decide +kernel) (pa_cons (pv 1) pa_nil)))) pss_nil) (pss_one (ps_ret (pe_joined (.cons (pe_fmt (pv 1)) (.cons (pe_txt (l := ([47] : List Nat)) (by decide +kernel)) (.cons (pe_fmt (pv 2)) .nil)))))))), ?_⟩
    refine ⟨_, rfl, ?_⟩
    refine ⟨F, _, fraction, rfl, e, r_fraction, (post_bd k).mono (fun b1 k v6 F2 H3 g4 r5 => ?_) (fun _ z => z)⟩
    have eF2 := g4.s
    have gF2 := g_.trans (g4.weak (by simp))
    replace r_fraction := r_fraction.up g4.f
    obtain ⟨p8, x9, x10, rfl, s11, d12, d13⟩ := dp_tup2 r5
    obtain rfl := dp_int d12
    obtain rfl := dp_int d13
    refine ⟨_, _, rfl, ex_t eF2 s11, rfl, _, _, rfl, _, _, rfl, rfl, ?_⟩
    refine ⟨_, rfl, rfl, ?_⟩
    rw [decV_int]
    refine ⟨_, rfl, ?_⟩
    refine cs k (fun _ k => ?_) (fun _ k => ?_)
    · refine ⟨_, rfl, ?_⟩
      obtain ⟨h14, k⟩ := post_guard k
      refine ⟨_, rfl, h14, ?_⟩
      exact k.h _ _ _ gF2 rfl
    · show tJs _ (sT []) _ _ _
      refine ⟨_, rfl, ?_⟩
      obtain ⟨h16, k⟩ := post_guard k
      obtain ⟨h15, k⟩ := post_guard k
      refine js_i (R := fun a_ => tJs _ a_ _ _ _) h16 h15 ?_
      obtain ⟨h17, k⟩ := post_guard k
      refine js_c (R := fun a_ => tJs _ a_ _ _ _) h17 ?_
      refine ⟨_, rfl, ?_⟩
      obtain ⟨h19, k⟩ := post_guard k
      obtain ⟨h18, k⟩ := post_guard k
      refine js_i (R := fun a_ => tJs _ a_ _ _ _) h19 h18 ?_
      exact k.h _ _ _ gF2 rfl
/-! ### term_text -/
abbrev s_term_text : Stmt := top 25
theorem sc_term_text : FnScope ["size", "power", "raised"] ["size", "power"] (defScope s_term_text) := ⟨rfl, rfl, rfl, by decide +kernel, rfl, by decide +kernel, by decide +kernel⟩
def term_text (size : (Int × Int)) (power : Int) : Mm (List Nat) := cond (decide (power = (0 : Int))) ((fraction_text (size)).bd fun b1 => Mm.ok b1) ((cond (decide (power > (1 : Int))) ((guardM (([] : List Nat).length + ([120, 94] : List Nat).length ≤ 100000)).bd fun _ => (guardM (power.natAbs < 18446744073709551616)).bd fun _ => (guardM ((([] : List Nat) ++ ([120, 94] : List Nat)).length + (intL power).length ≤ 100000)).bd fun _ => Mm.ok ((([] : List Nat) ++ ([120, 94] : List Nat)) ++ (intL power))) (Mm.ok ([120] : List Nat))).bd fun b8 => cond (decide (size = ((1, 1) : (Int × Int)))) (Mm.ok b8) ((fraction_text (size)).bd fun b19 => (guardM (([] : List Nat).length + b19.length ≤ 100000)).bd fun _ => (guardM ((([] : List Nat) ++ b19).length + ([32] : List Nat).length ≤ 100000)).bd fun _ => (guardM (((([] : List Nat) ++ b19) ++ ([32] : List Nat)).length + b8.length ≤ 100000)).bd fun _ => Mm.ok (((([] : List Nat) ++ b19) ++ ([32] : List Nat)) ++ b8)))
def sp_term_text (K : PySem.W.Frag) : Sp := fun vs H Q E => ∃ (F : Hp) (v_size : V) (size : (Int × Int)) (power : Int), vs = [v_size, (V.int power)] ∧ Ex F H ∧ Dq K F v_size ((e2 PyData.int PyData.int) size) ∧ Post (term_text size power) (fun r => Ret [] F H (fun F' _ v => v = V.str (sT r)) Q) (fun _ => False)
theorem ok_term_text {P : Program} {w : World} {K : PySem.W.Frag} {mg : Str → Option Value} {base : Heap} {C f : Addr} {fd : FuncData} (B : Bi mg) (FF : FunD K "term_text" "term_text" (defArgs s_term_text) (defBody s_term_text) (defScope s_term_text) [] [] f fd) (G_fraction_text : Kn P w K mg base "fraction_text" 3 ["fraction"] (sp_fraction_text K)) {a_ONE : Addr} (c_ONE : mg "ONE" = some (.ref a_ONE)) (d_ONE : ∀ F, Dq K F (.ref a_ONE) ((e2 PyData.int PyData.int) (1, 1))) : FnOk P w K mg base CX0 4 f fd ["size", "power"] (sp_term_text K) := by
  refine FF.ok sc_term_text (fun vs H Q E h => ?_) (fun cdv A outer s H vs Q E hr h => ?_)
  · obtain ⟨F, v_size, size, power, rfl, _⟩ := h; rfl
  · obtain ⟨F, v_size, size, power, rfl, e, r_size, k⟩ := h
    unfold term_text at k
    have g_ := Gm.refl (M := []) e
    refine ⟨_, PSs.nox (pss_cons (ps_if (pt_cmpR op_eq (pv 1) (pe_int) (nomark _)) (pss_one (ps_ret (pe_kn G_fraction_text (hr.mono (by decide)) (pa_cons (pv 0) (pa_nil))))) pss_nil) (pss_cons (ps_set (i := 2) sc_term_text.nd rfl (Or.inl rfl) (pe_txt (l := ([120] : List Nat)) (by decide +kernel))) (pss_cons (ps_if (pt_cmpR op_gt (pv 1) (pe_int) (nomark _)) (pss_one (ps_set (i := 2) sc_term_text.nd rfl (Or.inl rfl) (pe_joined (.cons (pe_txt (l := ([120, 94] : List Nat)) (by decide +kernel)) (.cons (pe_fmt (pv 1)) .nil))))) (pss_nil)) (pss_cons (ps_if (pt_cmpR (r := rEqM K (e2 PyData.int PyData.int)) (op_eqM (sh_e2 sh_int sh_int) (units_of hr)) (pv 0) (pe_gref c_ONE) (nomark _)) (pss_one (ps_ret (pv 2))) pss_nil) (pss_one (ps_ret (pe_joined (.cons (pe_fmt (pe_kn G_fraction_text (hr.mono (by decide)) (pa_cons (pv 0) (pa_nil)))) (.cons (pe_txt (l := ([32] : List Nat)) (by decide +kernel)) (.cons (pe_fmt (pv 2)) .nil)))))))))), ?_⟩
    refine ⟨_, rfl, rfl, ?_⟩
    rw [decV_int]
    refine ⟨_, rfl, ?_⟩
    refine cs k (fun _ k => ?_) (fun _ k => ?_)
    · refine ⟨_, rfl, ?_⟩
      refine ⟨F, _, size, rfl, e, r_size, (post_bd k).mono (fun b1 k v6 F2 H3 g4 r5 => ?_) (fun _ z => z)⟩
      have eF2 := g4.s
      have gF2 := g_.trans (g4.weak (by simp))
      replace r_size := r_size.up g4.f
      subst r5
      exact k.h _ _ _ gF2 rfl
    · refine ⟨_, rfl, _, _, rfl, rfl, _, rfl, ?_⟩
      refine ifs_jM (M := []) (F := F) (fun b8 F' H' σ' => σ' = [some v_size, some (V.int power), some (V.str (sT b8))]) k (fun _ nx kjb8 => ?_) (fun _ nx kjb8 => ?_) (fun b8 σ12 F9 H10 g11 i13 k => ?_)
      · have gF_ := Gm.refl (M := []) e
        show tJs _ (sT []) _ _ _
        obtain ⟨h14, kjb8⟩ := post_guard kjb8
        refine js_c (R := fun a_ => tJs _ a_ _ _ _) h14 ?_
        refine ⟨_, rfl, ?_⟩
        obtain ⟨h16, kjb8⟩ := post_guard kjb8
        obtain ⟨h15, kjb8⟩ := post_guard kjb8
        refine js_i (R := fun a_ => tJs _ a_ _ _ _) h16 h15 ?_
        exact kjb8.h _ _ _ gF_ rfl
      · have gF_ := Gm.refl (M := []) e
        exact kjb8.h _ _ _ gF_ rfl
      have g17 := g_.trans (g11.weak (by simp))
      replace r_size := r_size.up g11.f
      have eF9 := g11.s
      obtain rfl := i13
      refine ⟨_, rfl, size, ((1, 1) : (Int × Int)), r_size.dp eF9, (d_ONE F9).dp eF9, ?_⟩
      refine ⟨_, rfl, ?_⟩
      refine cs k (fun _ k => ?_) (fun _ k => ?_)
      · refine ⟨_, rfl, ?_⟩
        exact k.h _ _ _ g17 rfl
      · show tJs _ (sT []) _ _ _
        refine ⟨_, rfl, ?_⟩
        refine ⟨F9, _, size, rfl, eF9, r_size, (post_bd k).mono (fun b19 k v24 F20 H21 g22 r23 => ?_) (fun _ z => z)⟩
        have eF20 := g22.s
        have gF20 := g17.trans (g22.weak (by simp))
        replace r_size := r_size.up g22.f
        subst r23
        obtain ⟨h18, k⟩ := post_guard k
        refine js_t (R := fun a_ => tJs _ a_ _ _ _) h18 ?_
        obtain ⟨h26, k⟩ := post_guard k
        refine js_c (R := fun a_ => tJs _ a_ _ _ _) h26 ?_
        refine ⟨_, rfl, ?_⟩
        obtain ⟨h27, k⟩ := post_guard k
        refine js_t (R := fun a_ => tJs _ a_ _ _ _) h27 ?_
        exact k.h _ _ _ gF20 rfl
/-! ### sign_text -/
abbrev s_sign_text : Stmt := top 26
theorem sc_sign_text : FnScope ["top", "is_first"] ["top", "is_first"] (defScope s_sign_text) := ⟨rfl, rfl, rfl, by decide +kernel, rfl, by decide +kernel, by decide +kernel⟩
def sign_text (top : Int) (is_first : Bool) : Mm (List Nat) := cond is_first ((cond (decide (top < (0 : Int))) (Mm.ok ([45] : List Nat)) (Mm.ok ([] : List Nat))).bd fun b6 => Mm.ok b6) ((cond (decide (top < (0 : Int))) (Mm.ok ([32, 45, 32] : List Nat)) (Mm.ok ([32, 43, 32] : List Nat))).bd fun b13 => Mm.ok b13)
def sp_sign_text (K : PySem.W.Frag) : Sp := fun vs H Q E => ∃ (F : Hp) (top : Int) (is_first : Bool), vs = [(V.int top), (V.bl is_first)] ∧ Ex F H ∧ Post (sign_text top is_first) (fun r => Ret [] F H (fun F' _ v => v = V.str (sT r)) Q) (fun _ => False)
theorem ok_sign_text {P : Program} {w : World} {K : PySem.W.Frag} {mg : Str → Option Value} {base : Heap} {C f : Addr} {fd : FuncData} (B : Bi mg) (FF : FunD K "sign_text" "sign_text" (defArgs s_sign_text) (defBody s_sign_text) (defScope s_sign_text) [] [] f fd) : FnOk P w K mg base CX0 1 f fd ["top", "is_first"] (sp_sign_text K) := by
  refine FF.ok sc_sign_text (fun vs H Q E h => ?_) (fun cdv A outer s H vs Q E hr h => ?_)
  · obtain ⟨F, top, is_first, rfl, _⟩ := h; rfl
  · obtain ⟨F, top, is_first, rfl, e, k⟩ := h
    unfold sign_text at k
    have g_ := Gm.refl (M := []) e
    refine ⟨_, PSs.nox (pss_cons (ps_if (pt_val (pv 1)) (pss_one (ps_ret (pe_ifExp (pt_cmpR op_lt (pv 0) (pe_int) (nomark _)) (pe_txt (l := ([45] : List Nat)) (by decide +kernel)) (pe_txt (l := ([] : List Nat)) (by decide +kernel))))) pss_nil) (pss_one (ps_ret (pe_ifExp (pt_cmpR op_lt (pv 0) (pe_int) (nomark _)) (pe_txt (l := ([32, 45, 32] : List Nat)) (by decide +kernel)) (pe_txt (l := ([32, 43, 32] : List Nat)) (by decide +kernel)))))), ?_⟩
    refine ⟨_, rfl, _, rfl, ?_⟩
    refine cs k (fun _ k => ?_) (fun _ k => ?_)
    · refine ⟨_, rfl, _, _, rfl, rfl, _, rfl, ?_⟩
      refine if_jM (M := []) (F := F) (fun b F' H' v => v = V.str (sT b)) k (fun _ Q' kib6 => ?_) (fun _ Q' kib6 => ?_) (fun b6 v1 F2 H3 g4 r5 k => ?_)
      · have gF_ := Gm.refl (M := []) e
        exact kib6.h _ _ _ gF_ rfl
      · have gF_ := Gm.refl (M := []) e
        exact kib6.h _ _ _ gF_ rfl
      have eF2 := g4.s
      have gF2 := g_.trans (g4.weak (by simp))
      subst r5
      exact k.h _ _ _ gF2 rfl
    · refine ⟨_, rfl, _, _, rfl, rfl, _, rfl, ?_⟩
      refine if_jM (M := []) (F := F) (fun b F' H' v => v = V.str (sT b)) k (fun _ Q' kib13 => ?_) (fun _ Q' kib13 => ?_) (fun b13 v8 F9 H10 g11 r12 k => ?_)
      · have gF_ := Gm.refl (M := []) e
        exact kib13.h _ _ _ gF_ rfl
      · have gF_ := Gm.refl (M := []) e
        exact kib13.h _ _ _ gF_ rfl
      have eF9 := g11.s
      have gF9 := g_.trans (g11.weak (by simp))
      subst r12
      exact k.h _ _ _ gF9 rfl
/-! ### polynomial_text -/
abbrev s_polynomial_text : Stmt := top 27
theorem sc_polynomial_text : FnScope ["polynomial", "coefficients", "text", "power", "top", "bottom", "coefficient"] ["polynomial"] (defScope s_polynomial_text) := ⟨rfl, rfl, rfl, by decide +kernel, rfl, by decide +kernel, by decide +kernel⟩
def polynomial_text (polynomial : (List (Int × Int))) : Mm (List Nat) := (guardM (polynomial.length ≤ 50000)).bd fun _ => (mapMm (fun (x7 : (Int × Int)) => (checked_fraction (x7)).bd fun b26 => Mm.ok b26) polynomial).bd fun b6 => (guardM (0 ≤ (b6.length : Int) ∧ (b6.length : Int) ≤ 100000)).bd fun _ => (foldM (fun (b39 : (List Nat)) (x40 : Int) => (getM b6 x40).bd fun i61 => cond (!(decide (i61.1 = (0 : Int)))) ((sign_text (i61.1) ((decide (b39 = ([] : List Nat))))).bd fun b72 => (guardM (b39.length + b72.length ≤ 100000)).bd fun _ => (term_text (((absI i61.1), i61.2)) (x40)).bd fun b85 => (guardM ((b39 ++ b72).length + b85.length ≤ 100000)).bd fun _ => Mm.ok ((b39 ++ b72) ++ b85)) (Mm.ok b39)) ([] : List Nat) (revL (b6.length : Int))).bd fun b56 => cond (decide (b56 = ([] : List Nat))) (Mm.ok ([48] : List Nat)) (Mm.ok b56)
def sp_polynomial_text (K : PySem.W.Frag) : Sp := fun vs H Q E => ∃ (F : Hp) (v_polynomial : V) (polynomial : (List (Int × Int))), vs = [v_polynomial] ∧ Ex F H ∧ Dq K F v_polynomial ((eV (e2 PyData.int PyData.int)) polynomial) ∧ Post (polynomial_text polynomial) (fun r => Ret [] F H (fun F' _ v => v = V.str (sT r)) Q) (fun _ => False)
theorem ok_polynomial_text {P : Program} {w : World} {K : PySem.W.Frag} {mg : Str → Option Value} {base : Heap} {C f : Addr} {fd : FuncData} (B : Bi mg) (FF : FunD K "polynomial_text" "polynomial_text" (defArgs s_polynomial_text) (defBody s_polynomial_text) (defScope s_polynomial_text) [] [] f fd) (G_checked_fraction : Kn P w K mg base "checked_fraction" 2 ["fraction"] (sp_checked_fraction K)) (G_sign_text : Kn P w K mg base "sign_text" 1 ["top", "is_first"] (sp_sign_text K)) (G_term_text : Kn P w K mg base "term_text" 4 ["size", "power"] (sp_term_text K)) : FnOk P w K mg base CX0 5 f fd ["polynomial"] (sp_polynomial_text K) := by
  refine FF.ok sc_polynomial_text (fun vs H Q E h => ?_) (fun cdv A outer s H vs Q E hr h => ?_)
  · obtain ⟨F, v_polynomial, polynomial, rfl, _⟩ := h; rfl
  · obtain ⟨F, v_polynomial, polynomial, rfl, e, r_polynomial, k⟩ := h
    unfold polynomial_text at k
    have g_ := Gm.refl (M := []) e
    refine ⟨_, PSs.nox (pss_cons (ps_q (ps_setLc (i := 1) (own := [("coefficient", 6)]) (g := gName 6) rfl sc_polynomial_text.nd rfl rfl (sw_true rfl rfl rfl (by decide +kernel)) (pi_tup (pv 0)) (blkOk_by (N := ["polynomial", "coefficients", "text", "power", "top", "bottom", "coefficient"]) (sc := defScope s_polynomial_text) (by decide +kernel)) (fun _ _ _ _ _ => pg_name (i := 6) sc_polynomial_text.nd rfl (Or.inl rfl)) (fun _ _ _ _ _ => pts_nil) (fun _ _ _ _ _ => pe_kn G_checked_fraction (hr.mono (by decide)) (pa_cons (pv 6) (pa_nil))))) (pss_cons (ps_set (i := 2) sc_polynomial_text.nd rfl (Or.inl rfl) (pe_txt (l := ([] : List Nat)) (by decide +kernel))) (pss_cons (ps_for PassesOwn.never rfl (pi_revR rfl B.reversed (prg_1 rfl B.range (pe_callB call_lenM (by rfl) B.len (by decide +kernel) (pa_cons (pv 1) pa_nil)))) (pg_name (i := 3) sc_polynomial_text.nd rfl (Or.inl rfl)) (pss_cons (ps_asg (pe_ix (r := rIxL K) ix_list (pv 1) (pv 3) (fun _ _ => rfl)) (pg_tup (by rfl) (pgs_cons (pg_name (i := 4) sc_polynomial_text.nd rfl (Or.inl rfl)) (pgs_cons (pg_name (i := 5) sc_polynomial_text.nd rfl (Or.inl rfl)) (pgs_nil))))) (pss_one (ps_if (pt_cmpR op_ne (pv 4) (pe_int) (nomark _)) (pss_one (ps_set (i := 2) sc_polynomial_text.nd rfl (Or.inl rfl) (pe_op op_addT (pe_op op_addT (pv 2) (pe_kn G_sign_text (hr.mono (by decide)) (pa_cons (pv 4) (pa_cons (pe_cmpR op_eq (pv 2) (pe_txt (l := ([] : List Nat)) (by decide +kernel)) (nomark _)) (pa_nil))))) (pe_kn G_term_text (hr.mono (by decide)) (pa_cons (pe_q (pe_tup (pa_cons (pe_callB call_abs (by rfl) B.abs (by decide +kernel) (pa_cons (pv 4) pa_nil)) (pa_cons (pv 5) (pa_nil))))) (pa_cons (pv 3) (pa_nil))))))) (pss_nil))))) (pss_cons (ps_if (pt_cmpR op_eq (pv 2) (pe_txt (l := ([] : List Nat)) (by decide +kernel)) (nomark _)) (pss_one (ps_ret (pe_txt (l := ([48] : List Nat)) (by decide +kernel)))) pss_nil) (pss_one (ps_ret (pv 2))))))), ?_⟩
    refine ⟨_, rfl, ?_⟩
    obtain ⟨p1, xs2, rfl, s3, a4⟩ := dp_tup r_polynomial
    refine ⟨_, rfl, ⟨_, (ex_t e s3)⟩, ?_⟩
    obtain ⟨h24, k⟩ := post_guard k
    refine lc_map (K := K) (M := []) (wlk_tup e s3 a4) (e2 PyData.int PyData.int) k e h24 (fun _ _ => by simp) (fun x7 v22 F15 H16 F17 H18 g19 g20 r21 Q' k5 => ?_) (fun _ z => z) (fun b6 v8 F9 H10 g11 r12 k => ?_) gm_name
    · have g25 := Gm.refl (M := []) g19.s
      replace r_polynomial := r_polynomial.up g19.f
      replace s3 := ex_t g19.f s3
      replace a4 := a4.up g19.f
      replace r_polynomial := r_polynomial.up g20.f
      replace s3 := ex_t g20.f s3
      replace a4 := a4.up g20.f
      have eF17 := g20.s
      have gF17 := g25.trans (g20.weak (by simp))
      refine ⟨rfl, _, rfl, ?_⟩
      refine ⟨F17, _, x7, rfl, eF17, r21, (post_bd k5).mono (fun b26 k5 v31 F27 H28 g29 r30 => ?_) (fun _ z => z)⟩
      have eF27 := g29.s
      have gF27 := gF17.trans (g29.weak (by simp))
      replace r_polynomial := r_polynomial.up g29.f
      replace s3 := ex_t g29.f s3
      replace a4 := a4.up g29.f
      replace r21 := r21.up g29.f
      exact k5.h _ _ _ gF27 r30
    have eF9 := g11.s
    have gF9 := g_.trans (g11.weak (by simp))
    replace r_polynomial := r_polynomial.up g11.f
    replace s3 := ex_t g11.f s3
    replace a4 := a4.up g11.f
    refine ⟨_, rfl, ?_⟩
    obtain ⟨p34, xs35, rfl, s36, a37⟩ := dp_lst r12
    refine ⟨_, _, _, rfl, .inl (sq_of (eF9 _ _ s36)), len_all a37, ?_⟩
    obtain ⟨h38, k⟩ := post_guard k
    refine ⟨_, rfl, (by omega), (by omega), (by omega), (by omega), ?_⟩
    refine for_m (M := []) (F := F9) wlk_rangeDn (fun b39 F' H' σ' => ∃ (u3 : Option V) (u4 : Option V) (u5 : Option V) (u6 : Option V), σ' = [some (V.ref p1), some (V.ref p34), some (V.str (sT b39)), u3, u4, u5, u6]) k eF9 ⟨_, _, _, _, rfl⟩ (fun b39 x40 v48 σ50 F41 H42 F43 H44 g45 i49 g46 r47 nx kfb39 => ?_) (fun b56 σ55 F51 H52 g53 i54 k => ?_)
    · replace r_polynomial := r_polynomial.up g45.f
      replace s3 := ex_t g45.f s3
      replace a4 := a4.up g45.f
      replace r12 := r12.up g45.f
      replace s36 := g45.f _ _ s36
      replace a37 := a37.up g45.f
      obtain ⟨u57, u58, u59, u60, rfl⟩ := i49
      replace r_polynomial := r_polynomial.up g46.f
      replace s3 := ex_t g46.f s3
      replace a4 := a4.up g46.f
      replace r12 := r12.up g46.f
      replace s36 := g46.f _ _ s36
      replace a37 := a37.up g46.f
      have eF43 := g46.s
      have gF43 := g45.trans (g46.weak (by simp))
      subst r47
      refine ⟨_, rfl, _, rfl, ?_⟩
      obtain ⟨i61, h62, kfb39⟩ := post_get kfb39
      obtain ⟨v63, h64, r65⟩ := dq_at a37 h62
      refine ⟨_, _, _, _, rfl, rfl, (sq_of (eF43 _ _ s36)), h64, ?_⟩
      obtain ⟨p66, x67, x68, rfl, s69, d70, d71⟩ := dp_tup2 r65
      obtain rfl := dp_int d70
      obtain rfl := dp_int d71
      refine ⟨_, _, rfl, ex_t eF43 s69, rfl, _, _, rfl, _, _, rfl, rfl, ?_⟩
      refine ⟨_, rfl, rfl, ?_⟩
      rw [decV_int]
      refine ⟨_, rfl, ?_⟩
      refine cs kfb39 (fun _ kfb39 => ?_) (fun _ kfb39 => ?_)
      · refine ⟨_, rfl, _, rfl, _, rfl, rfl, ?_⟩
        rw [decV_txt]
        refine ⟨F43, i61.1, (decide (b39 = ([] : List Nat))), rfl, eF43, (post_bd kfb39).mono (fun b72 kfb39 v77 F73 H74 g75 r76 => ?_) (fun _ z => z)⟩
        have eF73 := g75.s
        have gF73 := gF43.trans (g75.weak (by simp))
        replace r_polynomial := r_polynomial.up g75.f
        replace s3 := ex_t g75.f s3
        replace a4 := a4.up g75.f
        replace r12 := r12.up g75.f
        replace s36 := g75.f _ _ s36
        replace a37 := a37.up g75.f
        replace r65 := r65.up g75.f
        replace s69 := ex_t g75.f s69
        subst r76
        obtain ⟨h79, kfb39⟩ := post_guard kfb39
        refine ⟨_, _, rfl, rfl, h79, _, rfl, _, rfl, _, rfl, ?_⟩
        show _ ∧ _
        refine new_tup (K := K) (M := []) eF73 (.cons (Dq.int (absI i61.1)) (.cons (Dq.int i61.2) .nil)) (by show 2 ≤ 100000; decide) fun v84 F80 H81 g82 r83 => ?_
        have eF80 := g82.s
        have gF80 := gF73.trans (g82.weak (by simp))
        replace r_polynomial := r_polynomial.up g82.f
        replace s3 := ex_t g82.f s3
        replace a4 := a4.up g82.f
        replace r12 := r12.up g82.f
        replace s36 := g82.f _ _ s36
        replace a37 := a37.up g82.f
        replace r65 := r65.up g82.f
        replace s69 := ex_t g82.f s69
        replace r83 : Dq K F80 v84 ((e2 PyData.int PyData.int) ((absI i61.1), i61.2)) := r83
        refine ⟨_, rfl, ?_⟩
        refine ⟨F80, _, ((absI i61.1), i61.2), x40, rfl, eF80, r83, (post_bd kfb39).mono (fun b85 kfb39 v90 F86 H87 g88 r89 => ?_) (fun _ z => z)⟩
        have eF86 := g88.s
        have gF86 := gF80.trans (g88.weak (by simp))
        replace r_polynomial := r_polynomial.up g88.f
        replace s3 := ex_t g88.f s3
        replace a4 := a4.up g88.f
        replace r12 := r12.up g88.f
        replace s36 := g88.f _ _ s36
        replace a37 := a37.up g88.f
        replace r65 := r65.up g88.f
        replace s69 := ex_t g88.f s69
        replace r83 := r83.up g88.f
        subst r89
        obtain ⟨h92, kfb39⟩ := post_guard kfb39
        refine ⟨_, _, rfl, rfl, h92, ?_⟩
        exact kfb39.h _ _ _ gF86 ⟨_, _, _, _, rfl⟩
      · exact kfb39.h _ _ _ gF43 ⟨_, _, _, _, rfl⟩
    have g93 := gF9.trans (g53.weak (by simp))
    replace r_polynomial := r_polynomial.up g53.f
    replace s3 := ex_t g53.f s3
    replace a4 := a4.up g53.f
    replace r12 := r12.up g53.f
    replace s36 := g53.f _ _ s36
    replace a37 := a37.up g53.f
    have eF51 := g53.s
    obtain ⟨u94, u95, u96, u97, rfl⟩ := i54
    refine ⟨_, rfl, rfl, ?_⟩
    rw [decV_txt]
    refine ⟨_, rfl, ?_⟩
    refine cs k (fun _ k => ?_) (fun _ k => ?_)
    · exact k.h _ _ _ g93 rfl
    · refine ⟨_, rfl, ?_⟩
      exact k.h _ _ _ g93 rfl
/-! ### number_of -/
abbrev s_number_of : Stmt := top 28
theorem sc_number_of : FnScope ["word", "digits", "number", "digit"] ["word"] (defScope s_number_of) := ⟨rfl, rfl, rfl, by decide +kernel, rfl, by decide +kernel, by decide +kernel⟩
def number_of (word : (List Nat)) : Mm (Option Int) := (guardM (word.length ≤ 100000)).bd fun _ => (guardM ((rmT ([45] : List Nat) word).length ≤ 100000)).bd fun _ => (cond (!((decide ((1 : Int) ≤ ((rmT ([45] : List Nat) word).length : Int))) && (decide (((rmT ([45] : List Nat) word).length : Int) ≤ (2 : Int))))) (Mm.ok true) ((guardM ((signsT (rmT ([45] : List Nat) word)).length ≤ 50000)).bd fun _ => (mapMm (fun (x9 : (List Nat)) => Mm.ok ((leT ([48] : List Nat) x9) && (leT x9 ([57] : List Nat)))) (signsT (rmT ([45] : List Nat) word))).bd fun b8 => Mm.ok (!(List.all b8 id)))).bd fun b3 => cond b3 (Mm.ok none) ((intT word).bd fun n33 => (guardM (n33.natAbs < 18446744073709551616)).bd fun _ => cond (!(decide ((intL n33) = word))) (Mm.ok none) (Mm.ok (some n33)))
def sp_number_of (K : PySem.W.Frag) : Sp := fun vs H Q E => ∃ (F : Hp) (word : (List Nat)), vs = [(V.str (sT word))] ∧ Ex F H ∧ Post (number_of word) (fun r => Ret [] F H (fun F' _ v => Dq K F' v ((eO PyData.int) r)) Q) (fun _ => False)
theorem ok_number_of {P : Program} {w : World} {K : PySem.W.Frag} {mg : Str → Option Value} {base : Heap} {C f : Addr} {fd : FuncData} (B : Bi mg) (FF : FunD K "number_of" "number_of" (defArgs s_number_of) (defBody s_number_of) (defScope s_number_of) [] [] f fd) (c_MOST_DIGITS : ∃ t, mg "MOST_DIGITS" = some (.int 2 t)) (b_all : mg "all" = none) : FnOk P w K mg base CX0 1 f fd ["word"] (sp_number_of K) := by
  refine FF.ok sc_number_of (fun vs H Q E h => ?_) (fun cdv A outer s H vs Q E hr h => ?_)
  · obtain ⟨F, word, rfl, _⟩ := h; rfl
  · obtain ⟨F, word, rfl, e, k⟩ := h
    unfold number_of at k
    have g_ := Gm.refl (M := []) e
    refine ⟨_, PSs.nox (pss_cons (ps_set (i := 1) sc_number_of.nd rfl (Or.inl rfl) (pe_m1 PySem.F.slot_str_removeprefix PySem.F.type_str_removeprefix mt_rmT (pv 0) (pe_txt (l := ([45] : List Nat)) (by decide +kernel)))) (pss_cons (ps_if (PW.pt (pw_or (pt_not (pt_chain op_le op_le (pe_int) (pe_callB call_lenT (by rfl) B.len (by decide +kernel) (pa_cons (pv 1) pa_nil)) (pe_gint c_MOST_DIGITS))) (pw_or1 (pt_not (pt_val (pe_callB (cr_all rfl) (by rfl) b_all (by decide +kernel) (pa_cons (pe_q (pe_lc (own := [("digit", 3)]) (g := gName 3) rfl sc_number_of.nd (pi_str (pv 1)) (blkOk_by (N := ["word", "digits", "number", "digit"]) (sc := defScope s_number_of) (by decide +kernel)) (fun _ _ _ _ _ => pg_name (i := 3) sc_number_of.nd rfl (Or.inl rfl)) (fun _ _ _ _ _ => pts_nil) (fun _ _ _ _ _ => pe_chain op_leT op_leT (pe_txt (l := ([48] : List Nat)) (by decide +kernel)) (pv 3) (pe_txt (l := ([57] : List Nat)) (by decide +kernel))))) pa_nil))))))) (pss_one (ps_ret (pe_non))) pss_nil) (pss_cons (ps_set (i := 2) sc_number_of.nd rfl (Or.inl rfl) (pe_callTy call_intT (by rfl) B.int (by decide +kernel) (pa_cons (pv 0) pa_nil))) (pss_cons (ps_if (pt_cmpR op_ne (pe_callTy call_strT (by rfl) B.str (by decide +kernel) (pa_cons (pv 2) pa_nil)) (pv 0) (nomark _)) (pss_one (ps_ret (pe_non))) pss_nil) (pss_one (ps_ret (pv 2))))))), ?_⟩
    refine ⟨_, rfl, ⟨_, rfl⟩, ?_⟩
    obtain ⟨h1, k⟩ := post_guard k
    refine ⟨_, _, rfl, rfl, h1, ?_⟩
    refine ⟨_, rfl, ?_⟩
    obtain ⟨h2, k⟩ := post_guard k
    refine ⟨_, rfl, h2, _, _, rfl, rfl, _, rfl, ?_⟩
    refine chain_j (b := (decide (((rmT ([45] : List Nat) word).length : Int) ≤ (2 : Int)))) (fun _ Q' q => ?_) ?_
    · refine ⟨_, _, rfl, rfl, ?_⟩
      exact q
    refine ⟨_, rfl, ?_⟩
    refine or_jM (M := []) e k (fun _ Q' ktb3 => ?_) (fun b3 F4 H5 g6 k => ?_)
    · have gF_ := Gm.refl (M := []) e
      refine ⟨_, rfl, ?_⟩
      refine ⟨_, rfl, ?_⟩
      obtain ⟨h26, ktb3⟩ := post_guard ktb3
      refine lc_map (K := K) (M := []) (wlk_str (K := K)) PyData.bool ktb3 e h26 (fun _ _ => by simp) (fun x9 v24 F17 H18 F19 H20 g21 g22 r23 Q' k7 => ?_) (fun _ z => z) (fun b8 v10 F11 H12 g13 r14 ktb3 => ?_) gm_name
      · have g27 := Gm.refl (M := []) g21.s
        have eF19 := g22.s
        have gF19 := g27.trans (g22.weak (by simp))
        obtain rfl := dp_str r23
        refine ⟨rfl, _, rfl, _, _, rfl, rfl, _, rfl, ?_⟩
        refine @chain_j _ (leT ([48] : List Nat) x9) (leT x9 ([57] : List Nat)) _ _ (tC (V.str (sT ([57] : List Nat)))) (fun w_ H_ Q_ => ∃ a b, (V.str (sT x9)) = V.str (sT a) ∧ w_ = V.str (sT b) ∧ Q_ (V.bl (leT a b)) H_) (fun _ Q' q => ?_) ?_
        · refine ⟨_, _, rfl, rfl, ?_⟩
          exact q
        exact k7.h _ _ _ gF19 (Dq.bl ((leT ([48] : List Nat) x9) && (leT x9 ([57] : List Nat))))
      have eF11 := g13.s
      have gF11 := gF_.trans (g13.weak (by simp))
      obtain ⟨p29, xs30, rfl, s31, a32⟩ := dp_lst r14
      obtain rfl := all_bls a32
      refine ⟨_, _, rfl, (sq_of (eF11 _ _ s31)), _, rfl, ?_⟩
      exact ktb3.h _ _ gF11
    have eF4 := g6.s
    have gF4 := g_.trans (g6.weak (by simp))
    refine cs k (fun _ k => ?_) (fun _ k => ?_)
    · exact k.h _ _ _ gF4 Dq.non
    · refine ⟨_, rfl, ?_⟩
      obtain ⟨n33, h34, k⟩ := post_intT k
      refine ⟨_, _, rfl, h34, ?_⟩
      refine ⟨_, rfl, ?_⟩
      obtain ⟨h35, k⟩ := post_guard k
      refine ⟨_, rfl, h35, _, rfl, rfl, ?_⟩
      rw [decV_txt]
      refine ⟨_, rfl, ?_⟩
      refine cs k (fun _ k => ?_) (fun _ k => ?_)
      · exact k.h _ _ _ gF4 Dq.non
      · refine ⟨_, rfl, ?_⟩
        exact k.h _ _ _ gF4 (Dq.int n33)
/-! ### wrong_word -/
abbrev s_wrong_word : Stmt := top 29
theorem sc_wrong_word : FnScope ["words", "count", "index"] ["words", "count"] (defScope s_wrong_word) := ⟨rfl, rfl, rfl, by decide +kernel, rfl, by decide +kernel, by decide +kernel⟩
def wrong_word (words : (List (List Nat))) (count : Int) : Mm (Option Int) := (rangeM2 (1 : Int) (count + (1 : Int))).bd fun l2 => (foldL (R := (Option Int)) (fun (b3 : Unit) (x4 : Int) => (cond (decide (x4 = (words.length : Int))) (Mm.ok true) ((getM words x4).bd fun i30 => (number_of (i30)).bd fun b35 => Mm.ok b35.isNone)).bd fun b26 => cond b26 (Mm.ok (Fl.ret (some x4))) (Mm.ok (Fl.go ()))) () (rangeL (1 : Int) ((count + (1 : Int)) - (1 : Int)).toNat)).bd fun o => o.el (fun b20 => cond (decide ((words.length : Int) > (count + (1 : Int)))) (Mm.ok (some (count + (1 : Int)))) (Mm.ok none)) (fun r => Mm.ok r)
def sp_wrong_word (K : PySem.W.Frag) : Sp := fun vs H Q E => ∃ (F : Hp) (v_words : V) (words : (List (List Nat))) (count : Int), vs = [v_words, (V.int count)] ∧ Ex F H ∧ Dq K F v_words ((eL eT) words) ∧ Post (wrong_word words count) (fun r => Ret [] F H (fun F' _ v => Dq K F' v ((eO PyData.int) r)) Q) (fun _ => False)
theorem ok_wrong_word {P : Program} {w : World} {K : PySem.W.Frag} {mg : Str → Option Value} {base : Heap} {C f : Addr} {fd : FuncData} (B : Bi mg) (FF : FunD K "wrong_word" "wrong_word" (defArgs s_wrong_word) (defBody s_wrong_word) (defScope s_wrong_word) [] [] f fd) (G_number_of : Kn P w K mg base "number_of" 1 ["word"] (sp_number_of K)) : FnOk P w K mg base CX0 2 f fd ["words", "count"] (sp_wrong_word K) := by
  refine FF.ok sc_wrong_word (fun vs H Q E h => ?_) (fun cdv A outer s H vs Q E hr h => ?_)
  · obtain ⟨F, v_words, words, count, rfl, _⟩ := h; rfl
  · obtain ⟨F, v_words, words, count, rfl, e, r_words, k⟩ := h
    unfold wrong_word at k
    have g_ := Gm.refl (M := []) e
    refine ⟨_, PSs.nox (pss_cons (ps_for PassesOwn.never rfl (pi_range2 rfl B.range (pa_cons (pe_int) (pa_cons (pe_op op_add (pv 1) (pe_int)) (pa_nil)))) (pg_name (i := 2) sc_wrong_word.nd rfl (Or.inl rfl)) (pss_one (ps_if (PW.pt (pw_or (pt_cmpR op_eq (pv 2) (pe_callB call_lenM (by rfl) B.len (by decide +kernel) (pa_cons (pv 0) pa_nil)) (nomark _)) (pw_or1 (pt_cmp (pc_isN (pe_kn G_number_of (hr.mono (by decide)) (pa_cons (pe_ix (r := rIxL K) ix_list (pv 0) (pv 2) (fun _ _ => rfl)) (pa_nil)))) rfl)))) (pss_one (ps_ret (pv 2))) pss_nil))) (pss_cons (ps_if (pt_cmpR op_gt (pe_callB call_lenM (by rfl) B.len (by decide +kernel) (pa_cons (pv 0) pa_nil)) (pe_op op_add (pv 1) (pe_int)) (nomark _)) (pss_one (ps_ret (pe_op op_add (pv 1) (pe_int)))) pss_nil) (pss_one (ps_ret (pe_non))))), ?_⟩
    refine ⟨_, rfl, _, _, rfl, rfl, ?_⟩
    obtain ⟨h1, k⟩ := post_range2 k
    refine ⟨_, _, rfl, h1, ?_⟩
    refine for_mL (M := []) (F := F) wlk_range (fun b3 F' H' σ' => ∃ (u2 : Option V), σ' = [some v_words, some (V.int count), u2]) k e ⟨_, rfl⟩ (fun b3 x4 v12 σ14 F5 H6 F7 H8 g9 i13 g10 r11 nx kfb3 => ?_) (fun b20 σ19 F15 H16 g17 i18 k => ?_)
    · replace r_words := r_words.up g9.f
      obtain ⟨u21, rfl⟩ := i13
      replace r_words := r_words.up g10.f
      have eF7 := g10.s
      have gF7 := g9.trans (g10.weak (by simp))
      subst r11
      refine ⟨_, rfl, _, rfl, ?_⟩
      obtain ⟨p22, xs23, rfl, s24, a25⟩ := dp_lst r_words
      refine ⟨_, _, _, rfl, .inl (sq_of (eF7 _ _ s24)), len_all a25, rfl, ?_⟩
      rw [decV_int]
      refine ⟨_, rfl, ?_⟩
      refine or_jM (M := []) eF7 kfb3 (fun _ Q' kfb3tb26 => ?_) (fun b26 F27 H28 g29 kfb3 => ?_)
      · have gF7_ := Gm.refl (M := []) eF7
        refine ⟨_, rfl, _, rfl, ?_⟩
        obtain ⟨i30, h31, kfb3tb26⟩ := post_get kfb3tb26
        obtain ⟨v32, h33, r34⟩ := dq_at a25 h31
        refine ⟨_, _, _, _, rfl, rfl, (sq_of (eF7 _ _ s24)), h33, ?_⟩
        obtain rfl := dp_str r34
        refine ⟨F7, i30, rfl, eF7, (post_bd kfb3tb26).mono (fun b35 kfb3tb26 v40 F36 H37 g38 r39 => ?_) (fun _ z => z)⟩
        have eF36 := g38.s
        have gF36 := gF7_.trans (g38.weak (by simp))
        replace r_words := r_words.up g38.f
        replace s24 := g38.f _ _ s24
        replace a25 := a25.up g38.f
        refine ⟨_, rfl, ?_⟩
        rw [none_O r39]
        exact kfb3tb26.h _ _ gF36
      have eF27 := g29.s
      have gF27 := gF7.trans (g29.weak (by simp))
      replace r_words := r_words.up g29.f
      replace s24 := g29.f _ _ s24
      replace a25 := a25.up g29.f
      refine cs kfb3 (fun _ kfb3 => ?_) (fun _ kfb3 => ?_)
      · refine ⟨_, rfl, ?_⟩
        exact (show Post (Mm.ok _) _ _ from kfb3.h).h _ _ _ (g_.trans gF27) (Dq.int x4)
      · exact kfb3.h _ _ _ gF27 ⟨_, rfl⟩
    have g42 := g_.trans (g17.weak (by simp))
    replace r_words := r_words.up g17.f
    have eF15 := g17.s
    obtain ⟨u43, rfl⟩ := i18
    refine ⟨_, rfl, ?_⟩
    obtain ⟨p44, xs45, rfl, s46, a47⟩ := dp_lst r_words
    refine ⟨_, _, _, rfl, .inl (sq_of (eF15 _ _ s46)), len_all a47, _, rfl, _, _, rfl, rfl, _, _, rfl, rfl, _, rfl, ?_⟩
    refine cs k (fun _ k => ?_) (fun _ k => ?_)
    · refine ⟨_, rfl, _, _, rfl, rfl, ?_⟩
      exact k.h _ _ _ g42 (Dq.int (count + (1 : Int)))
    · exact k.h _ _ _ g42 Dq.non
/-! ### row_text -/
abbrev s_row_text : Stmt := top 30
theorem sc_row_text : FnScope ["word", "numbers", "number"] ["word", "numbers"] (defScope s_row_text) := ⟨rfl, rfl, rfl, by decide +kernel, rfl, by decide +kernel, by decide +kernel⟩
def row_text (word : (List Nat)) (numbers : (List Int)) : Mm (List Nat) := (guardM (numbers.length ≤ 50000)).bd fun _ => (mapMm (fun (x7 : Int) => (guardM (x7.natAbs < 18446744073709551616)).bd fun _ => Mm.ok (intL x7)) numbers).bd fun b6 => (guardM ([word].length + b6.length ≤ 100000)).bd fun _ => (guardM (joinC ([32] : List Nat) ([word] ++ b6))).bd fun _ => Mm.ok (joinT ([32] : List Nat) ([word] ++ b6))
def sp_row_text (K : PySem.W.Frag) : Sp := fun vs H Q E => ∃ (F : Hp) (word : (List Nat)) (v_numbers : V) (numbers : (List Int)), vs = [(V.str (sT word)), v_numbers] ∧ Ex F H ∧ Dq K F v_numbers ((eV PyData.int) numbers) ∧ Post (row_text word numbers) (fun r => Ret [] F H (fun F' _ v => v = V.str (sT r)) Q) (fun _ => False)
theorem ok_row_text {P : Program} {w : World} {K : PySem.W.Frag} {mg : Str → Option Value} {base : Heap} {C f : Addr} {fd : FuncData} (B : Bi mg) (FF : FunD K "row_text" "row_text" (defArgs s_row_text) (defBody s_row_text) (defScope s_row_text) [] [] f fd) : FnOk P w K mg base CX0 1 f fd ["word", "numbers"] (sp_row_text K) := by
  refine FF.ok sc_row_text (fun vs H Q E h => ?_) (fun cdv A outer s H vs Q E hr h => ?_)
  · obtain ⟨F, word, v_numbers, numbers, rfl, _⟩ := h; rfl
  · obtain ⟨F, word, v_numbers, numbers, rfl, e, r_numbers, k⟩ := h
    unfold row_text at k
    have g_ := Gm.refl (M := []) e
    refine ⟨_, PSs.nox (pss_one (ps_ret (pe_m1 PySem.F.slot_str_join PySem.F.type_str_join (mt_joinK K) (pe_txt (l := ([32] : List Nat)) (by decide +kernel)) (pe_q (pe_lst (pa_cons (pv 0) (pa_star (pe_q (pe_lc (own := [("number", 2)]) (g := gName 2) rfl sc_row_text.nd (pi_tup (pv 1)) (blkOk_by (N := ["word", "numbers", "number"]) (sc := defScope s_row_text) (by decide +kernel)) (fun _ _ _ _ _ => pg_name (i := 2) sc_row_text.nd rfl (Or.inl rfl)) (fun _ _ _ _ _ => pts_nil) (fun _ _ _ _ _ => pe_callTy call_strT (by rfl) B.str (by decide +kernel) (pa_cons (pv 2) pa_nil)))) pa_nil))))))), ?_⟩
    refine ⟨⟨_, rfl⟩, _, rfl, _, rfl, ?_⟩
    obtain ⟨p1, xs2, rfl, s3, a4⟩ := dp_tup r_numbers
    refine ⟨_, rfl, ⟨_, (ex_t e s3)⟩, ?_⟩
    obtain ⟨h24, k⟩ := post_guard k
    refine lc_map (K := K) (M := []) (wlk_tup e s3 a4) eT k e h24 (fun _ _ => by simp) (fun x7 v22 F15 H16 F17 H18 g19 g20 r21 Q' k5 => ?_) (fun _ z => z) (fun b6 v8 F9 H10 g11 r12 k => ?_) gm_name
    · have g25 := Gm.refl (M := []) g19.s
      replace r_numbers := r_numbers.up g19.f
      replace s3 := ex_t g19.f s3
      replace a4 := a4.up g19.f
      replace r_numbers := r_numbers.up g20.f
      replace s3 := ex_t g20.f s3
      replace a4 := a4.up g20.f
      have eF17 := g20.s
      have gF17 := g25.trans (g20.weak (by simp))
      obtain rfl := dp_int r21
      refine ⟨rfl, _, rfl, ?_⟩
      obtain ⟨h26, k5⟩ := post_guard k5
      refine ⟨_, rfl, h26, ?_⟩
      exact k5.h _ _ _ gF17 (Dq.str (sT (intL x7)))
    have eF9 := g11.s
    have gF9 := g_.trans (g11.weak (by simp))
    replace r_numbers := r_numbers.up g11.f
    replace s3 := ex_t g11.f s3
    replace a4 := a4.up g11.f
    obtain ⟨p28, xs29, rfl, s30, a31⟩ := dp_lst r12
    refine ⟨_, _, rfl, .inr (sq_of (eF9 _ _ s30)), ?_⟩
    obtain ⟨h32, k⟩ := post_guard k
    show _ ∧ _
    refine new_star (K := K) (M := []) (en := eT) (pre := [(V.str (sT word))]) (pm := [word]) (xs := xs29) (l := b6) eF9 (.cons (Dq.str (sT word)) .nil) a31 h32 fun v37 F33 H34 g35 r36 => ?_
    have eF33 := g35.s
    have gF33 := gF9.trans (g35.weak (by simp))
    replace r_numbers := r_numbers.up g35.f
    replace s3 := ex_t g35.f s3
    replace a4 := a4.up g35.f
    replace r12 := r12.up g35.f
    replace s30 := g35.f _ _ s30
    replace a31 := a31.up g35.f
    obtain ⟨p40, xs41, rfl, s42, a43⟩ := dp_lst r36
    obtain ⟨h38, k⟩ := post_guard k
    have q39 : SqL K H34 p40 xs41 := (sq_of (eF33 _ _ s42))
    rw [all_txts a43] at q39
    refine ⟨_, _, _, rfl, rfl, .inl q39, h38, ?_⟩
    exact k.h _ _ _ gF33 rfl
/-! ### format_weighting -/
abbrev s_format_weighting : Stmt := top 31
theorem sc_format_weighting : FnScope ["weighting", "masses", "stretches", "mass", "stretch"] ["weighting"] (defScope s_format_weighting) := ⟨rfl, rfl, rfl, by decide +kernel, rfl, by decide +kernel, by decide +kernel⟩
def format_weighting (weighting : Wt) : Mm (List Nat) := (guardM (weighting.1.length ≤ 50000)).bd fun _ => (mapMm (fun (x14 : (Int × Int)) => (row_text (([109, 97, 115, 115] : List Nat)) ([x14.1, x14.2])).bd fun b34 => Mm.ok b34) weighting.1).bd fun b13 => (guardM (weighting.2.length ≤ 50000)).bd fun _ => (mapMm (fun (x48 : (Int × Int × Int)) => (row_text (([115, 116, 114, 101, 116, 99, 104] : List Nat)) ([x48.1, x48.2.1, x48.2.2])).bd fun b68 => Mm.ok b68) weighting.2).bd fun b47 => (guardM (b13.length + b47.length ≤ 100000)).bd fun _ => (guardM (joinC ([10] : List Nat) (b13 ++ b47))).bd fun _ => Mm.ok (joinT ([10] : List Nat) (b13 ++ b47))
def sp_format_weighting (K : PySem.W.Frag) (C : Addr) : Sp := fun vs H Q E => ∃ (F : Hp) (v_weighting : V) (weighting : Wt), vs = [v_weighting] ∧ Ex F H ∧ IsW K C F v_weighting weighting ∧ Post (format_weighting weighting) (fun r => Ret [] F H (fun F' _ v => v = V.str (sT r)) Q) (fun _ => False)
theorem ok_format_weighting {P : Program} {w : World} {K : PySem.W.Frag} {mg : Str → Option Value} {base : Heap} {C f : Addr} {fd : FuncData} (B : Bi mg) (FF : FunD K "format_weighting" "format_weighting" (defArgs s_format_weighting) (defBody s_format_weighting) (defScope s_format_weighting) [] [] f fd) (G_row_text : Kn P w K mg base "row_text" 1 ["word", "numbers"] (sp_row_text K)) (GP_masses : KnP P w K mg base C "masses" "_masses") (GP_stretches : KnP P w K mg base C "stretches" "_stretches") : FnOk P w K mg base CX0 3 f fd ["weighting"] (sp_format_weighting K C) := by
  refine FF.ok sc_format_weighting (fun vs H Q E h => ?_) (fun cdv A outer s H vs Q E hr h => ?_)
  · obtain ⟨F, v_weighting, weighting, rfl, _⟩ := h; rfl
  · obtain ⟨F, v_weighting, weighting, rfl, e, r_weighting, k⟩ := h
    unfold format_weighting at k
    have g_ := Gm.refl (M := []) e
    refine ⟨_, PSs.nox (pss_cons (ps_q (ps_setLc (i := 1) (own := [("mass", 3)]) (g := gName 3) rfl sc_format_weighting.nd rfl rfl (sw_true rfl rfl rfl (by decide +kernel)) (pi_tup (pe_propK GP_masses (hr.mono (by decide)) (pv 0))) (blkOk_by (N := ["weighting", "masses", "stretches", "mass", "stretch"]) (sc := defScope s_format_weighting) (by decide +kernel)) (fun _ _ _ _ _ => pg_name (i := 3) sc_format_weighting.nd rfl (Or.inl rfl)) (fun _ _ _ _ _ => pts_nil) (fun _ _ _ _ _ => pe_kn G_row_text (hr.mono (by decide)) (pa_cons (pe_txt (l := ([109, 97, 115, 115] : List Nat)) (by decide +kernel)) (pa_cons (pv 3) (pa_nil)))))) (pss_cons (ps_q (ps_setLc (i := 2) (own := [("stretch", 4)]) (g := gName 4) rfl sc_format_weighting.nd rfl rfl (sw_true rfl rfl rfl (by decide +kernel)) (pi_tup (pe_propK GP_stretches (hr.mono (by decide)) (pv 0))) (blkOk_by (N := ["weighting", "masses", "stretches", "mass", "stretch"]) (sc := defScope s_format_weighting) (by decide +kernel)) (fun _ _ _ _ _ => pg_name (i := 4) sc_format_weighting.nd rfl (Or.inl rfl)) (fun _ _ _ _ _ => pts_nil) (fun _ _ _ _ _ => pe_kn G_row_text (hr.mono (by decide)) (pa_cons (pe_txt (l := ([115, 116, 114, 101, 116, 99, 104] : List Nat)) (by decide +kernel)) (pa_cons (pv 4) (pa_nil)))))) (pss_one (ps_ret (pe_m1 PySem.F.slot_str_join PySem.F.type_str_join (mt_joinK K) (pe_txt (l := ([10] : List Nat)) (by decide +kernel)) (pe_q (pe_op op_cat (pv 1) (pv 2)))))))), ?_⟩
    refine ⟨_, rfl, ?_⟩
    obtain ⟨a1, dx2, m3, t4, rfl, h5, r6, r7⟩ := r_weighting.ex
    refine ⟨_, _, _, rfl, e _ _ h5, _, _, _, _, rfl, e _ _ h5, wf_m _ _, ?_⟩
    obtain ⟨p8, xs9, rfl, s10, a11⟩ := dp_tup r6
    refine ⟨_, rfl, ⟨_, (ex_t e s10)⟩, ?_⟩
    obtain ⟨h31, k⟩ := post_guard k
    refine lc_map (K := K) (M := []) (wlk_tup e s10 a11) eT k e h31 (fun _ _ => by simp) (fun x14 v29 F22 H23 F24 H25 g26 g27 r28 Q' k12 => ?_) (fun _ z => z) (fun b13 v15 F16 H17 g18 r19 k => ?_) gm_name
    · have g32 := Gm.refl (M := []) g26.s
      replace r_weighting := r_weighting.up g26.f
      replace h5 := g26.f _ _ h5
      replace r6 := r6.up g26.f
      replace r7 := r7.up g26.f
      replace s10 := ex_t g26.f s10
      replace a11 := a11.up g26.f
      replace r_weighting := r_weighting.up g27.f
      replace h5 := g27.f _ _ h5
      replace r6 := r6.up g27.f
      replace r7 := r7.up g27.f
      replace s10 := ex_t g27.f s10
      replace a11 := a11.up g27.f
      have eF24 := g27.s
      have gF24 := g32.trans (g27.weak (by simp))
      refine ⟨rfl, _, rfl, ?_⟩
      have r33 : Dq K F24 v29 ((eV PyData.int) [x14.1, x14.2]) := r28
      refine ⟨F24, ([109, 97, 115, 115] : List Nat), _, [x14.1, x14.2], rfl, eF24, r33, (post_bd k12).mono (fun b34 k12 v39 F35 H36 g37 r38 => ?_) (fun _ z => z)⟩
      have eF35 := g37.s
      have gF35 := gF24.trans (g37.weak (by simp))
      replace r_weighting := r_weighting.up g37.f
      replace h5 := g37.f _ _ h5
      replace r6 := r6.up g37.f
      replace r7 := r7.up g37.f
      replace s10 := ex_t g37.f s10
      replace a11 := a11.up g37.f
      replace r28 := r28.up g37.f
      replace r33 := r33.up g37.f
      subst r38
      exact k12.h _ _ _ gF35 (Dq.str (sT b34))
    have eF16 := g18.s
    have gF16 := g_.trans (g18.weak (by simp))
    replace r_weighting := r_weighting.up g18.f
    replace h5 := g18.f _ _ h5
    replace r6 := r6.up g18.f
    replace r7 := r7.up g18.f
    replace s10 := ex_t g18.f s10
    replace a11 := a11.up g18.f
    refine ⟨_, rfl, ?_⟩
    refine ⟨_, _, _, rfl, eF16 _ _ h5, _, _, _, _, rfl, eF16 _ _ h5, wf_s _ _, ?_⟩
    obtain ⟨p42, xs43, rfl, s44, a45⟩ := dp_tup r7
    refine ⟨_, rfl, ⟨_, (ex_t eF16 s44)⟩, ?_⟩
    obtain ⟨h65, k⟩ := post_guard k
    refine lc_map (K := K) (M := []) (wlk_tup eF16 s44 a45) eT k eF16 h65 (fun _ _ => by simp) (fun x48 v63 F56 H57 F58 H59 g60 g61 r62 Q' k46 => ?_) (fun _ z => z) (fun b47 v49 F50 H51 g52 r53 k => ?_) gm_name
    · have g66 := Gm.refl (M := []) g60.s
      replace r_weighting := r_weighting.up g60.f
      replace h5 := g60.f _ _ h5
      replace r6 := r6.up g60.f
      replace r7 := r7.up g60.f
      replace s10 := ex_t g60.f s10
      replace a11 := a11.up g60.f
      replace r19 := r19.up g60.f
      replace s44 := ex_t g60.f s44
      replace a45 := a45.up g60.f
      replace r_weighting := r_weighting.up g61.f
      replace h5 := g61.f _ _ h5
      replace r6 := r6.up g61.f
      replace r7 := r7.up g61.f
      replace s10 := ex_t g61.f s10
      replace a11 := a11.up g61.f
      replace r19 := r19.up g61.f
      replace s44 := ex_t g61.f s44
      replace a45 := a45.up g61.f
      have eF58 := g61.s
      have gF58 := g66.trans (g61.weak (by simp))
      refine ⟨rfl, _, rfl, ?_⟩
      have r67 : Dq K F58 v63 ((eV PyData.int) [x48.1, x48.2.1, x48.2.2]) := r62
      refine ⟨F58, ([115, 116, 114, 101, 116, 99, 104] : List Nat), _, [x48.1, x48.2.1, x48.2.2], rfl, eF58, r67, (post_bd k46).mono (fun b68 k46 v73 F69 H70 g71 r72 => ?_) (fun _ z => z)⟩
      have eF69 := g71.s
      have gF69 := gF58.trans (g71.weak (by simp))
      replace r_weighting := r_weighting.up g71.f
      replace h5 := g71.f _ _ h5
      replace r6 := r6.up g71.f
      replace r7 := r7.up g71.f
      replace s10 := ex_t g71.f s10
      replace a11 := a11.up g71.f
      replace r19 := r19.up g71.f
      replace s44 := ex_t g71.f s44
      replace a45 := a45.up g71.f
      replace r62 := r62.up g71.f
      replace r67 := r67.up g71.f
      subst r72
      exact k46.h _ _ _ gF69 (Dq.str (sT b68))
    have eF50 := g52.s
    have gF50 := gF16.trans (g52.weak (by simp))
    replace r_weighting := r_weighting.up g52.f
    replace h5 := g52.f _ _ h5
    replace r6 := r6.up g52.f
    replace r7 := r7.up g52.f
    replace s10 := ex_t g52.f s10
    replace a11 := a11.up g52.f
    replace r19 := r19.up g52.f
    replace s44 := ex_t g52.f s44
    replace a45 := a45.up g52.f
    refine ⟨⟨_, rfl⟩, _, rfl, _, rfl, ?_⟩
    obtain ⟨p76, xs77, rfl, s78, a79⟩ := dp_lst r19
    obtain ⟨p80, xs81, rfl, s82, a83⟩ := dp_lst r53
    obtain ⟨h85, k⟩ := post_guard k
    refine ⟨_, _, _, _, rfl, rfl, eF50 _ _ s78, eF50 _ _ s82, cat_len a79 a83 h85, new_lstC (K := K) (M := []) (en := eT) (l := b13) (l' := b47) eF50 a79 a83 fun v90 F86 H87 g88 r89 => ?_⟩
    have eF86 := g88.s
    have gF86 := gF50.trans (g88.weak (by simp))
    replace r_weighting := r_weighting.up g88.f
    replace h5 := g88.f _ _ h5
    replace r6 := r6.up g88.f
    replace r7 := r7.up g88.f
    replace s10 := ex_t g88.f s10
    replace a11 := a11.up g88.f
    replace r19 := r19.up g88.f
    replace s44 := ex_t g88.f s44
    replace a45 := a45.up g88.f
    replace r53 := r53.up g88.f
    replace s78 := g88.f _ _ s78
    replace a79 := a79.up g88.f
    replace s82 := g88.f _ _ s82
    replace a83 := a83.up g88.f
    obtain ⟨p93, xs94, rfl, s95, a96⟩ := dp_lst r89
    obtain ⟨h91, k⟩ := post_guard k
    have q92 : SqL K H87 p93 xs94 := (sq_of (eF86 _ _ s95))
    rw [all_txts a96] at q92
    refine ⟨_, _, _, rfl, rfl, .inl q92, h91, ?_⟩
    exact k.h _ _ _ gF86 rfl
/-! ### parse_weighting -/
abbrev s_parse_weighting : Stmt := top 32
theorem sc_parse_weighting : FnScope ["text", "masses", "stretches", "row", "line", "words", "first", "wrong", "numbers", "word"] ["text"] (defScope s_parse_weighting) := ⟨rfl, rfl, rfl, by decide +kernel, rfl, by decide +kernel, by decide +kernel⟩
def parse_weighting (text : (List Nat)) : Mm Wt := (guardM (text.length + 2 ≤ 100000)).bd fun _ => (foldM (fun (b25 : ((List (List (Option Int))) × (List (List (Option Int))))) (x26 : (Int × (List Nat))) => (guardM (x26.2.length + 2 ≤ 100000)).bd fun _ => (getM (splT ([32] : List Nat) x26.2) (0 : Int)).bd fun i72 => (cond (!(List.lookup i72 tb_NUMBERS).isSome) (Mm.ok true) ((cond (decide (i72 = ([109, 97, 115, 115] : List Nat))) (Mm.ok (decide ((b25.2.length : Int) > (0 : Int)))) (Mm.ok false)).bd fun b81 => Mm.ok b81)).bd fun b77 => cond b77 (Mm.bad) ((getO (List.lookup i72 tb_NUMBERS)).bd fun b85 => (wrong_word ((splT ([32] : List Nat) x26.2)) (b85)).bd fun b87 => cond (!b87.isNone) ((getO b87).bd fun a94 => Mm.bad) ((guardM ((cutL (splT ([32] : List Nat) x26.2) (some (1 : Int)) none).length ≤ 50000)).bd fun _ => (mapMm (fun (x107 : (List Nat)) => (number_of (x107)).bd fun b126 => Mm.ok b126) (cutL (splT ([32] : List Nat) x26.2) (some (1 : Int)) none)).bd fun b106 => cond (decide (i72 = ([109, 97, 115, 115] : List Nat))) ((guardM (b25.1.length < 100000)).bd fun _ => Mm.ok ((b25.1 ++ [b106]), b25.2)) ((guardM (b25.2.length < 100000)).bd fun _ => Mm.ok (b25.1, (b25.2 ++ [b106])))))) ([], []) (enumL (splT ([10] : List Nat) text))).bd fun b42 => (castF2 b42.1).bd fun l169 => (castF3 b42.2).bd fun l177 => (Weighting_init l169 l177).bd fun b180 => Mm.ok b180
def sp_parse_weighting (K : PySem.W.Frag) (C : Addr) : Sp := fun vs H Q E => ∃ (F : Hp) (text : (List Nat)), vs = [(V.str (sT text))] ∧ Ex F H ∧ Post (parse_weighting text) (fun r => Ret [] F H (fun F' _ v => IsW K C F' v r) Q) (fun _ => False)
theorem ok_parse_weighting {P : Program} {w : World} {K : PySem.W.Frag} {mg : Str → Option Value} {base : Heap} {C f : Addr} {fd : FuncData} (B : Bi mg) (FF : FunD K "parse_weighting" "parse_weighting" (defArgs s_parse_weighting) (defBody s_parse_weighting) (defScope s_parse_weighting) [] [] f fd) (G_wrong_word : Kn P w K mg base "wrong_word" 2 ["words", "count"] (sp_wrong_word K)) (G_number_of : Kn P w K mg base "number_of" 1 ["word"] (sp_number_of K)) (GC_Weighting : KnC P w K mg base CX0 "Weighting" C 4 ["self", "masses", "stretches"] (spW0 Weighting_init K C)) (TD_NUMBERS : TabD K w (He.ga K "NUMBERS") (tabI tb_NUMBERS)) (c_NUMBERS : mg "NUMBERS" = some (.ref (He.ga K "NUMBERS"))) : FnOk P w K mg base CX0 6 f fd ["text"] (sp_parse_weighting K C) := by
  refine FF.ok sc_parse_weighting (fun vs H Q E h => ?_) (fun cdv A outer s H vs Q E hr h => ?_)
  · obtain ⟨F, text, rfl, _⟩ := h; rfl
  · obtain ⟨F, text, rfl, e, k⟩ := h
    unfold parse_weighting at k
    have g_ := Gm.refl (M := []) e
    refine ⟨_, PSs.nox (pss_cons (ps_set (i := 1) sc_parse_weighting.nd rfl (Or.inl rfl) (pe_q (pe_lst (pa_nil)))) (pss_cons (ps_set (i := 2) sc_parse_weighting.nd rfl (Or.inl rfl) (pe_q (pe_lst (pa_nil)))) (pss_cons (ps_for PassesOwn.never rfl (pi_enum rfl B.enumerate (pa_cons (pe_q (pe_m1 PySem.F.slot_str_split PySem.F.type_str_split mt_split (pv 0) (pe_txt (l := ([10] : List Nat)) (by decide +kernel)))) pa_nil)) (pg_tup (by rfl) (pgs_cons (pg_name (i := 3) sc_parse_weighting.nd rfl (Or.inl rfl)) (pgs_cons (pg_name (i := 4) sc_parse_weighting.nd rfl (Or.inl rfl)) (pgs_nil)))) (pss_cons (ps_set (i := 5) sc_parse_weighting.nd rfl (Or.inl rfl) (pe_q (pe_m1 PySem.F.slot_str_split PySem.F.type_str_split mt_split (pv 4) (pe_txt (l := ([32] : List Nat)) (by decide +kernel))))) (pss_cons (ps_set (i := 6) sc_parse_weighting.nd rfl (Or.inl rfl) (pe_ix (r := rIxL K) ix_list (pv 5) (pe_int) (fun _ _ => rfl))) (pss_cons (ps_if (PW.pt (pw_or (pt_cmpR (op_notInI TD_NUMBERS) (pv 6) (pe_gref c_NUMBERS) (by rfl)) (pw_or1 (PW.pt (pw_and (pt_cmpR op_eq (pv 6) (pe_txt (l := ([109, 97, 115, 115] : List Nat)) (by decide +kernel)) (nomark _)) (pw_and1 (pt_cmpR op_gt (pe_callB call_lenM (by rfl) B.len (by decide +kernel) (pa_cons (pv 2) pa_nil)) (pe_int) (nomark _)))))))) (pss_one ps_never) pss_nil) (pss_cons (ps_set (i := 7) sc_parse_weighting.nd rfl (Or.inl rfl) (pe_kn G_wrong_word (hr.mono (by decide)) (pa_cons (pv 5) (pa_cons (pe_ix (ix_tabI TD_NUMBERS) (pe_gref c_NUMBERS) (pv 6) (fun _ _ => rfl)) (pa_nil))))) (pss_cons (ps_if (pt_cmp (pc_notN (pv 7)) rfl) (pss_one ps_never) pss_nil) (pss_cons (ps_set (i := 8) sc_parse_weighting.nd rfl (Or.inl rfl) (pe_q (pe_callTy call_tuple_of (by rfl) B.tuple (by decide +kernel) (pa_cons (pe_q (pe_lc (own := [("word", 9)]) (g := gName 9) rfl sc_parse_weighting.nd (pi_list (pe_q (pe_slice (r := rSlL K) sl_list (pv 5) (po_some (pe_int)) po_none))) (blkOk_by (N := ["text", "masses", "stretches", "row", "line", "words", "first", "wrong", "numbers", "word"]) (sc := defScope s_parse_weighting) (by decide +kernel)) (fun _ _ _ _ _ => pg_name (i := 9) sc_parse_weighting.nd rfl (Or.inl rfl)) (fun _ _ _ _ _ => pts_nil) (fun _ _ _ _ _ => pe_kn G_number_of (hr.mono (by decide)) (pa_cons (pv 9) (pa_nil))))) pa_nil)))) (pss_one (ps_if (pt_cmpR op_eq (pv 6) (pe_txt (l := ([109, 97, 115, 115] : List Nat)) (by decide +kernel)) (nomark _)) (pss_one (ps_expr (pe_bm PySem.F.plainAttrs_list PySem.F.slot_list_append PySem.F.type_list_append mt_append (pv 1) (pa_cons (pv 8) pa_nil)))) (pss_one (ps_expr (pe_bm PySem.F.plainAttrs_list PySem.F.slot_list_append PySem.F.type_list_append mt_append (pv 2) (pa_cons (pv 8) pa_nil))))))))))))) (pss_one (ps_ret (pe_q (pe_knC GC_Weighting (hr.mono (by decide)) pass0 (pa_cons (pe_q (pe_callTy call_tuple_of (by rfl) B.tuple (by decide +kernel) (pa_cons (pv 1) pa_nil))) (pa_cons (pe_q (pe_callTy call_tuple_of (by rfl) B.tuple (by decide +kernel) (pa_cons (pv 2) pa_nil))) pa_nil))))))))), ?_⟩
    show _ ∧ _
    refine new_own (K := K) e .nil (by show 0 ≤ 100000; decide) fun p1 H2 g3 y4 o5 => ?_
    have a6 : DqAll K F [] (List.map (eV (eO PyData.int)) []) := .nil
    have zp1 := g_.fresh y4
    have eH2 := g3.s
    have gH2 := g_.trans (g3.weak (by simp))
    show _ ∧ _
    refine new_own (K := K) eH2 .nil (by show 0 ≤ 100000; decide) fun p8 H9 g10 y11 o12 => ?_
    have a13 : DqAll K F [] (List.map (eV (eO PyData.int)) []) := .nil
    have np1_p8 := ne_of_none o5.1 y11
    have np8_p1 := np1_p8.symm
    have zp8 := gH2.fresh y11
    have eH9 := g10.s
    have gH9 := gH2.trans (g10.weak (by simp))
    replace o5 := g10.own (by simp) o5.1 o5.2
    refine ⟨_, rfl, ⟨_, rfl⟩, ?_⟩
    obtain ⟨h15, k⟩ := post_guard k
    refine new_split (K := K) (M := []) eH9 (by decide) h15 fun v20 F16 H17 g18 r19 => ?_
    have eF16 := g18.s
    have gF16 := gH9.trans (g18.weak (by simp))
    replace o5 := g18.own (by first | exact List.not_mem_nil | (simp only [List.mem_cons, List.not_mem_nil, or_false, not_or]; (repeat' apply And.intro) <;> assumption)) o5.1 o5.2
    replace a6 := a6.up g18.f
    replace o12 := g18.own (by first | exact List.not_mem_nil | (simp only [List.mem_cons, List.not_mem_nil, or_false, not_or]; (repeat' apply And.intro) <;> assumption)) o12.1 o12.2
    replace a13 := a13.up g18.f
    obtain ⟨p21, xs22, rfl, s23, a24⟩ := dp_lst r19
    refine ⟨_, _, rfl, (sq_of (eF16 _ _ s23)), ?_⟩
    refine for_m (M := [p1, p8]) (F := F16) (wlk_enum eF16 s23 a24) (fun b25 F' H' σ' => ∃ (u3 : Option V) (u4 : Option V) (u5 : Option V) (u6 : Option V) (u7 : Option V) (u8 : Option V) (u9 : Option V) (xs1 : List V) (xs2 : List V), σ' = [some (V.str (sT text)), some (V.ref p1), some (V.ref p8), u3, u4, u5, u6, u7, u8, u9] ∧ (H' p1 = some (.lst xs1) ∧ F' p1 = none) ∧ DqAll K F' xs1 (List.map (eV (eO PyData.int)) b25.1) ∧ (H' p8 = some (.lst xs2) ∧ F' p8 = none) ∧ DqAll K F' xs2 (List.map (eV (eO PyData.int)) b25.2)) k eF16 ⟨_, _, _, _, _, _, _, _, _, rfl, o5, a6, o12, a13⟩ (fun b25 x26 v34 σ36 F27 H28 F29 H30 g31 i35 g32 r33 nx kfb25 => ?_) (fun b42 σ41 F37 H38 g39 i40 k => ?_)
    · replace r19 := r19.up g31.f
      replace s23 := g31.f _ _ s23
      replace a24 := a24.up g31.f
      obtain ⟨u43, u44, u45, u46, u47, u48, u49, xs50, xs53, rfl, o51, a52, o54, a55⟩ := i35
      replace r19 := r19.up g32.f
      replace s23 := g32.f _ _ s23
      replace a24 := a24.up g32.f
      replace o51 := g32.own (by first | exact List.not_mem_nil | (simp only [List.mem_cons, List.not_mem_nil, or_false, not_or]; (repeat' apply And.intro) <;> assumption)) o51.1 o51.2
      replace a52 := a52.up g32.f
      replace o54 := g32.own (by first | exact List.not_mem_nil | (simp only [List.mem_cons, List.not_mem_nil, or_false, not_or]; (repeat' apply And.intro) <;> assumption)) o54.1 o54.2
      replace a55 := a55.up g32.f
      have eF29 := g32.s
      have gF29 := g31.trans (g32.weak (by simp))
      obtain ⟨p56, x57, x58, rfl, s59, d60, d61⟩ := dp_tup2 r33
      obtain rfl := dp_int d60
      obtain rfl := dp_str d61
      refine ⟨_, _, rfl, ex_t eF29 s59, rfl, _, _, rfl, _, _, rfl, rfl, ?_⟩
      refine ⟨_, rfl, ⟨_, rfl⟩, ?_⟩
      obtain ⟨h62, kfb25⟩ := post_guard kfb25
      refine new_split (K := K) (M := []) eF29 (by decide) h62 fun v67 F63 H64 g65 r66 => ?_
      have eF63 := g65.s
      have gF63 := gF29.trans (g65.weak (by simp))
      replace r19 := r19.up g65.f
      replace s23 := g65.f _ _ s23
      replace a24 := a24.up g65.f
      replace o51 := g65.own (by first | exact List.not_mem_nil | (simp only [List.mem_cons, List.not_mem_nil, or_false, not_or]; (repeat' apply And.intro) <;> assumption)) o51.1 o51.2
      replace a52 := a52.up g65.f
      replace o54 := g65.own (by first | exact List.not_mem_nil | (simp only [List.mem_cons, List.not_mem_nil, or_false, not_or]; (repeat' apply And.intro) <;> assumption)) o54.1 o54.2
      replace a55 := a55.up g65.f
      replace r33 := r33.up g65.f
      replace s59 := ex_t g65.f s59
      refine ⟨_, rfl, ?_⟩
      obtain ⟨p68, xs69, rfl, s70, a71⟩ := dp_lst r66
      obtain ⟨i72, h73, kfb25⟩ := post_get kfb25
      obtain ⟨v74, h75, r76⟩ := dq_at a71 h73
      refine ⟨_, _, _, _, rfl, rfl, (sq_of (eF63 _ _ s70)), h75, ?_⟩
      obtain rfl := dp_str r76
      refine ⟨_, rfl, _, rfl, rfl, _, rfl, ?_⟩
      refine or_jM (M := []) eF63 kfb25 (fun _ Q' kfb25tb77 => ?_) (fun b77 F78 H79 g80 kfb25 => ?_)
      · have gF63_ := Gm.refl (M := []) eF63
        refine ⟨_, rfl, rfl, ?_⟩
        rw [decV_txt]
        refine ⟨_, rfl, ?_⟩
        refine and_jM (M := []) eF63 kfb25tb77 (fun _ Q' kfb25tb77tb81 => ?_) (fun b81 F82 H83 g84 kfb25tb77 => ?_)
        · have gF63_ := Gm.refl (M := []) eF63
          refine ⟨_, rfl, ?_⟩
          refine ⟨_, _, _, rfl, .inl (sq_of o54.1), len_all a55, _, _, rfl, rfl, _, rfl, ?_⟩
          exact kfb25tb77tb81.h _ _ gF63_
        have eF82 := g84.s
        have gF82 := gF63_.trans (g84.weak (by simp))
        replace r19 := r19.up g84.f
        replace s23 := g84.f _ _ s23
        replace a24 := a24.up g84.f
        replace o51 := g84.own (by first | exact List.not_mem_nil | (simp only [List.mem_cons, List.not_mem_nil, or_false, not_or]; (repeat' apply And.intro) <;> assumption)) o51.1 o51.2
        replace a52 := a52.up g84.f
        replace o54 := g84.own (by first | exact List.not_mem_nil | (simp only [List.mem_cons, List.not_mem_nil, or_false, not_or]; (repeat' apply And.intro) <;> assumption)) o54.1 o54.2
        replace a55 := a55.up g84.f
        replace r33 := r33.up g84.f
        replace s59 := ex_t g84.f s59
        replace r66 := r66.up g84.f
        replace s70 := g84.f _ _ s70
        replace a71 := a71.up g84.f
        exact kfb25tb77.h _ _ gF82
      have eF78 := g80.s
      have gF78 := gF63.trans (g80.weak (by simp))
      replace r19 := r19.up g80.f
      replace s23 := g80.f _ _ s23
      replace a24 := a24.up g80.f
      replace o51 := g80.own (by first | exact List.not_mem_nil | (simp only [List.mem_cons, List.not_mem_nil, or_false, not_or]; (repeat' apply And.intro) <;> assumption)) o51.1 o51.2
      replace a52 := a52.up g80.f
      replace o54 := g80.own (by first | exact List.not_mem_nil | (simp only [List.mem_cons, List.not_mem_nil, or_false, not_or]; (repeat' apply And.intro) <;> assumption)) o54.1 o54.2
      replace a55 := a55.up g80.f
      replace r33 := r33.up g80.f
      replace s59 := ex_t g80.f s59
      replace r66 := r66.up g80.f
      replace s70 := g80.f _ _ s70
      replace a71 := a71.up g80.f
      refine cs kfb25 (fun _ kfb25 => ?_) (fun _ kfb25 => ?_)
      · exact kfb25.elim
      · refine ⟨_, rfl, _, rfl, ?_⟩
        obtain ⟨b85, h86, kfb25⟩ := post_getO kfb25
        refine ⟨_, _, rfl, rfl, h86, ?_⟩
        refine ⟨F78, _, (splT ([32] : List Nat) x26.2), b85, rfl, eF78, r66, (post_bd kfb25).mono (fun b87 kfb25 v92 F88 H89 g90 r91 => ?_) (fun _ z => z)⟩
        have eF88 := g90.s
        have gF88 := gF78.trans (g90.weak (by simp))
        replace r19 := r19.up g90.f
        replace s23 := g90.f _ _ s23
        replace a24 := a24.up g90.f
        replace o51 := g90.own (by first | exact List.not_mem_nil | (simp only [List.mem_cons, List.not_mem_nil, or_false, not_or]; (repeat' apply And.intro) <;> assumption)) o51.1 o51.2
        replace a52 := a52.up g90.f
        replace o54 := g90.own (by first | exact List.not_mem_nil | (simp only [List.mem_cons, List.not_mem_nil, or_false, not_or]; (repeat' apply And.intro) <;> assumption)) o54.1 o54.2
        replace a55 := a55.up g90.f
        replace r33 := r33.up g90.f
        replace s59 := ex_t g90.f s59
        replace r66 := r66.up g90.f
        replace s70 := g90.f _ _ s70
        replace a71 := a71.up g90.f
        refine ⟨_, rfl, _, rfl, ?_⟩
        rw [none_O r91]
        refine cs kfb25 (fun _ kfb25 => ?_) (fun _ kfb25 => ?_)
        · obtain ⟨a94, h95, kfb25⟩ := post_getO kfb25
          have qa94 := dq_some r91 h95
          obtain rfl := dp_int qa94
          exact kfb25.elim
        · refine ⟨_, rfl, _, rfl, ?_⟩
          refine cut_lst (K := K) (M := []) eF88 s70 a71 fun v100 F96 H97 g98 r99 => ?_
          have eF96 := g98.s
          have gF96 := gF88.trans (g98.weak (by simp))
          replace r19 := r19.up g98.f
          replace s23 := g98.f _ _ s23
          replace a24 := a24.up g98.f
          replace o51 := g98.own (by first | exact List.not_mem_nil | (simp only [List.mem_cons, List.not_mem_nil, or_false, not_or]; (repeat' apply And.intro) <;> assumption)) o51.1 o51.2
          replace a52 := a52.up g98.f
          replace o54 := g98.own (by first | exact List.not_mem_nil | (simp only [List.mem_cons, List.not_mem_nil, or_false, not_or]; (repeat' apply And.intro) <;> assumption)) o54.1 o54.2
          replace a55 := a55.up g98.f
          replace r33 := r33.up g98.f
          replace s59 := ex_t g98.f s59
          replace r66 := r66.up g98.f
          replace s70 := g98.f _ _ s70
          replace a71 := a71.up g98.f
          replace r91 := r91.up g98.f
          obtain ⟨p101, xs102, rfl, s103, a104⟩ := dp_lst r99
          refine ⟨_, rfl, ⟨_, (sq_of (eF96 _ _ s103))⟩, ?_⟩
          obtain ⟨h124, kfb25⟩ := post_guard kfb25
          refine lc_map (K := K) (M := []) (wlk_list eF96 s103 a104) (eO PyData.int) kfb25 eF96 h124 (fun _ _ => by simp) (fun x107 v122 F115 H116 F117 H118 g119 g120 r121 Q' k105 => ?_) (fun _ z => z) (fun b106 v108 F109 H110 g111 r112 kfb25 => ?_) gm_name
          · have g125 := Gm.refl (M := []) g119.s
            replace r19 := r19.up g119.f
            replace s23 := g119.f _ _ s23
            replace a24 := a24.up g119.f
            replace o51 := g119.own (by first | exact List.not_mem_nil | (simp only [List.mem_cons, List.not_mem_nil, or_false, not_or]; (repeat' apply And.intro) <;> assumption)) o51.1 o51.2
            replace a52 := a52.up g119.f
            replace o54 := g119.own (by first | exact List.not_mem_nil | (simp only [List.mem_cons, List.not_mem_nil, or_false, not_or]; (repeat' apply And.intro) <;> assumption)) o54.1 o54.2
            replace a55 := a55.up g119.f
            replace r33 := r33.up g119.f
            replace s59 := ex_t g119.f s59
            replace r66 := r66.up g119.f
            replace s70 := g119.f _ _ s70
            replace a71 := a71.up g119.f
            replace r91 := r91.up g119.f
            replace r99 := r99.up g119.f
            replace s103 := g119.f _ _ s103
            replace a104 := a104.up g119.f
            replace r19 := r19.up g120.f
            replace s23 := g120.f _ _ s23
            replace a24 := a24.up g120.f
            replace o51 := g120.own (by first | exact List.not_mem_nil | (simp only [List.mem_cons, List.not_mem_nil, or_false, not_or]; (repeat' apply And.intro) <;> assumption)) o51.1 o51.2
            replace a52 := a52.up g120.f
            replace o54 := g120.own (by first | exact List.not_mem_nil | (simp only [List.mem_cons, List.not_mem_nil, or_false, not_or]; (repeat' apply And.intro) <;> assumption)) o54.1 o54.2
            replace a55 := a55.up g120.f
            replace r33 := r33.up g120.f
            replace s59 := ex_t g120.f s59
            replace r66 := r66.up g120.f
            replace s70 := g120.f _ _ s70
            replace a71 := a71.up g120.f
            replace r91 := r91.up g120.f
            replace r99 := r99.up g120.f
            replace s103 := g120.f _ _ s103
            replace a104 := a104.up g120.f
            have eF117 := g120.s
            have gF117 := g125.trans (g120.weak (by simp))
            obtain rfl := dp_str r121
            refine ⟨rfl, _, rfl, ?_⟩
            refine ⟨F117, x107, rfl, eF117, (post_bd k105).mono (fun b126 k105 v131 F127 H128 g129 r130 => ?_) (fun _ z => z)⟩
            have eF127 := g129.s
            have gF127 := gF117.trans (g129.weak (by simp))
            replace r19 := r19.up g129.f
            replace s23 := g129.f _ _ s23
            replace a24 := a24.up g129.f
            replace o51 := g129.own (by first | exact List.not_mem_nil | (simp only [List.mem_cons, List.not_mem_nil, or_false, not_or]; (repeat' apply And.intro) <;> assumption)) o51.1 o51.2
            replace a52 := a52.up g129.f
            replace o54 := g129.own (by first | exact List.not_mem_nil | (simp only [List.mem_cons, List.not_mem_nil, or_false, not_or]; (repeat' apply And.intro) <;> assumption)) o54.1 o54.2
            replace a55 := a55.up g129.f
            replace r33 := r33.up g129.f
            replace s59 := ex_t g129.f s59
            replace r66 := r66.up g129.f
            replace s70 := g129.f _ _ s70
            replace a71 := a71.up g129.f
            replace r91 := r91.up g129.f
            replace r99 := r99.up g129.f
            replace s103 := g129.f _ _ s103
            replace a104 := a104.up g129.f
            exact k105.h _ _ _ gF127 r130
          have eF109 := g111.s
          have gF109 := gF96.trans (g111.weak (by simp))
          replace r19 := r19.up g111.f
          replace s23 := g111.f _ _ s23
          replace a24 := a24.up g111.f
          replace o51 := g111.own (by first | exact List.not_mem_nil | (simp only [List.mem_cons, List.not_mem_nil, or_false, not_or]; (repeat' apply And.intro) <;> assumption)) o51.1 o51.2
          replace a52 := a52.up g111.f
          replace o54 := g111.own (by first | exact List.not_mem_nil | (simp only [List.mem_cons, List.not_mem_nil, or_false, not_or]; (repeat' apply And.intro) <;> assumption)) o54.1 o54.2
          replace a55 := a55.up g111.f
          replace r33 := r33.up g111.f
          replace s59 := ex_t g111.f s59
          replace r66 := r66.up g111.f
          replace s70 := g111.f _ _ s70
          replace a71 := a71.up g111.f
          replace r91 := r91.up g111.f
          replace r99 := r99.up g111.f
          replace s103 := g111.f _ _ s103
          replace a104 := a104.up g111.f
          obtain ⟨p134, xs135, rfl, s136, a137⟩ := dp_lst r112
          refine to_VL (K := K) (M := []) eF109 s136 a137 (en := (eO PyData.int)) (l := b106) fun v142 F138 H139 g140 r141 => ?_
          have eF138 := g140.s
          have gF138 := gF109.trans (g140.weak (by simp))
          replace r19 := r19.up g140.f
          replace s23 := g140.f _ _ s23
          replace a24 := a24.up g140.f
          replace o51 := g140.own (by first | exact List.not_mem_nil | (simp only [List.mem_cons, List.not_mem_nil, or_false, not_or]; (repeat' apply And.intro) <;> assumption)) o51.1 o51.2
          replace a52 := a52.up g140.f
          replace o54 := g140.own (by first | exact List.not_mem_nil | (simp only [List.mem_cons, List.not_mem_nil, or_false, not_or]; (repeat' apply And.intro) <;> assumption)) o54.1 o54.2
          replace a55 := a55.up g140.f
          replace r33 := r33.up g140.f
          replace s59 := ex_t g140.f s59
          replace r66 := r66.up g140.f
          replace s70 := g140.f _ _ s70
          replace a71 := a71.up g140.f
          replace r91 := r91.up g140.f
          replace r99 := r99.up g140.f
          replace s103 := g140.f _ _ s103
          replace a104 := a104.up g140.f
          replace r112 := r112.up g140.f
          replace s136 := g140.f _ _ s136
          replace a137 := a137.up g140.f
          refine ⟨_, rfl, rfl, ?_⟩
          rw [decV_txt]
          refine ⟨_, rfl, ?_⟩
          refine cs kfb25 (fun _ kfb25 => ?_) (fun _ kfb25 => ?_)
          · refine ⟨_, rfl, .inl ⟨rfl, _, sq_of o51.1⟩, _, rfl, ?_⟩
            obtain ⟨h143, kfb25⟩ := post_guard kfb25
            refine ⟨_, _, _, rfl, rfl, o51.1, own_sz a52 h143, ?_⟩
            have g144 := gF138.putOr (o := .lst (xs50 ++ [v142])) (.inl (by simp)) o51.1 o51.2
            replace o54 : (upd H139 p1 (.lst (xs50 ++ [v142]))) p8 = _ ∧ _ := ⟨(upd_ne np8_p1).trans o54.1, o54.2⟩
            replace o51 : (upd H139 p1 (.lst (xs50 ++ [v142]))) p1 = some (.lst (xs50 ++ [v142])) ∧ F138 p1 = none := ⟨upd_same, o51.2⟩
            replace a52 : DqAll K F138 (xs50 ++ [v142]) (List.map (eV (eO PyData.int)) (b25.1 ++ [b106])) := by rw [List.map_append]; exact a52.app (.cons r141 .nil)
            have e145 := g144.s
            exact kfb25.h _ _ _ g144 ⟨_, _, _, _, _, _, _, _, _, rfl, o51, a52, o54, a55⟩
          · refine ⟨_, rfl, .inl ⟨rfl, _, sq_of o54.1⟩, _, rfl, ?_⟩
            obtain ⟨h146, kfb25⟩ := post_guard kfb25
            refine ⟨_, _, _, rfl, rfl, o54.1, own_sz a55 h146, ?_⟩
            have g147 := gF138.putOr (o := .lst (xs53 ++ [v142])) (.inl (by simp)) o54.1 o54.2
            replace o51 : (upd H139 p8 (.lst (xs53 ++ [v142]))) p1 = _ ∧ _ := ⟨(upd_ne np1_p8).trans o51.1, o51.2⟩
            replace o54 : (upd H139 p8 (.lst (xs53 ++ [v142]))) p8 = some (.lst (xs53 ++ [v142])) ∧ F138 p8 = none := ⟨upd_same, o54.2⟩
            replace a55 : DqAll K F138 (xs53 ++ [v142]) (List.map (eV (eO PyData.int)) (b25.2 ++ [b106])) := by rw [List.map_append]; exact a55.app (.cons r141 .nil)
            have e148 := g147.s
            exact kfb25.h _ _ _ g147 ⟨_, _, _, _, _, _, _, _, _, rfl, o51, a52, o54, a55⟩
    have hy150 : ∀ q ∈ [p1, p8], q ∈ [] ∨ H q = none := by intro q hq; simp only [List.mem_cons, List.not_mem_nil, or_false] at hq; rcases hq with rfl | rfl <;> first | exact (.inr zp1) | exact (.inr zp8)
    have g149 := Gm.outs [p1, p8] hy150 gF16 (g39.weak (by simp))
    replace r19 := r19.up g39.f
    replace s23 := g39.f _ _ s23
    replace a24 := a24.up g39.f
    have eF37 := g39.s
    obtain ⟨u151, u152, u153, u154, u155, u156, u157, xs158, xs161, rfl, o159, a160, o162, a163⟩ := i40
    refine ⟨_, rfl, ?_⟩
    refine to_VO (K := K) (M := []) eF37 o159.1 a160 (en := (eV (eO PyData.int))) (l := b42.1) fun v168 F164 H165 g166 r167 => ?_
    have eF164 := g166.s
    have gF164 := g149.trans (g166.weak (by simp))
    replace r19 := r19.up g166.f
    replace s23 := g166.f _ _ s23
    replace a24 := a24.up g166.f
    replace o159 := g166.own (by first | exact List.not_mem_nil | (simp only [List.mem_cons, List.not_mem_nil, or_false, not_or]; (repeat' apply And.intro) <;> assumption)) o159.1 o159.2
    replace a160 := a160.up g166.f
    replace o162 := g166.own (by first | exact List.not_mem_nil | (simp only [List.mem_cons, List.not_mem_nil, or_false, not_or]; (repeat' apply And.intro) <;> assumption)) o162.1 o162.2
    replace a163 := a163.up g166.f
    obtain ⟨l169, h170, k⟩ := post_castF2 k
    have r171 : Dq K F164 v168 ((eV (e2 PyData.int PyData.int)) l169) := by have z := r167; rw [h170] at z; exact z
    refine ⟨_, rfl, ?_⟩
    refine to_VO (K := K) (M := []) eF164 o162.1 a163 (en := (eV (eO PyData.int))) (l := b42.2) fun v176 F172 H173 g174 r175 => ?_
    have eF172 := g174.s
    have gF172 := gF164.trans (g174.weak (by simp))
    replace r19 := r19.up g174.f
    replace s23 := g174.f _ _ s23
    replace a24 := a24.up g174.f
    replace o159 := g174.own (by first | exact List.not_mem_nil | (simp only [List.mem_cons, List.not_mem_nil, or_false, not_or]; (repeat' apply And.intro) <;> assumption)) o159.1 o159.2
    replace a160 := a160.up g174.f
    replace o162 := g174.own (by first | exact List.not_mem_nil | (simp only [List.mem_cons, List.not_mem_nil, or_false, not_or]; (repeat' apply And.intro) <;> assumption)) o162.1 o162.2
    replace a163 := a163.up g174.f
    replace r167 := r167.up g174.f
    replace r171 := r171.up g174.f
    obtain ⟨l177, h178, k⟩ := post_castF3 k
    have r179 : Dq K F172 v176 ((eV (e3 PyData.int PyData.int PyData.int)) l177) := by have z := r175; rw [h178] at z; exact z
    refine make_W eF172 r171 r179 ((post_bd k).mono (fun b180 k v185 F181 H182 g183 r184 => ?_) (fun _ z => z))
    have eF181 := g183.s
    have gF181 := gF172.trans (g183.weak (by simp))
    replace r19 := r19.up g183.f
    replace s23 := g183.f _ _ s23
    replace a24 := a24.up g183.f
    replace o159 := g183.own (by first | exact List.not_mem_nil | (simp only [List.mem_cons, List.not_mem_nil, or_false, not_or]; (repeat' apply And.intro) <;> assumption)) o159.1 o159.2
    replace a160 := a160.up g183.f
    replace o162 := g183.own (by first | exact List.not_mem_nil | (simp only [List.mem_cons, List.not_mem_nil, or_false, not_or]; (repeat' apply And.intro) <;> assumption)) o162.1 o162.2
    replace a163 := a163.up g183.f
    replace r167 := r167.up g183.f
    replace r171 := r171.up g183.f
    replace r175 := r175.up g183.f
    replace r179 := r179.up g183.f
    exact k.h _ _ _ gF181 r184
/-! ### _law_taken -/
abbrev s_law_taken : Stmt := top 34
theorem sc_law_taken : FnScope ["_law_row", "_law_many", "_law_found", "_law_cell"] ["_law_row", "_law_many"] (defScope s_law_taken) := ⟨rfl, rfl, rfl, by decide +kernel, rfl, by decide +kernel, by decide +kernel⟩
theorem ok_law_taken {P : Program} {w : World} {K : PySem.W.Frag} {mg : Str → Option Value} {base : Heap} {f : Addr} {fd : FuncData} (B : Bi mg) (FF : FunD K "_law_taken" "_law_taken" (defArgs s_law_taken) (defBody s_law_taken) (defScope s_law_taken) [] [] f fd) : FnOk P w K mg base CX0 1 f fd ["_law_row", "_law_many"] (spTaken takenB K) := by
  refine FF.ok sc_law_taken (fun vs H Q E h => ?_) (fun cdv A outer s H vs Q E hr h => ?_)
  · obtain ⟨F, sc, ra, scr, st, many, rfl, _⟩ := h; rfl
  · obtain ⟨F, sc, ra, scr, st, many, rfl, e, ⟨hL, hF, hS⟩, k⟩ := h
    obtain ⟨pos, seed, left⟩ := st
    unfold takenB at k
    split at k
    case isFalse => exact k.elim
    rename_i hc
    obtain ⟨h1, h2, h3, h4, h5, h6⟩ := hc
    simp only at h3 h4 h5 h6 k hL
    have cd : ∀ i : Int, CDv i many := fun i => cdv_small ⟨by omega, by omega⟩
    refine ⟨_, PSs.nox (pss_cons (ps_if (pt_cmpR op_gt (pe_ix ix_list (pv 0) pe_int (fun _ _ => rfl)) pe_int (nomark _))
        (pss_cons (ps_set (i := 2) sc_law_taken.nd rfl (.inl rfl) (pe_op op_modM (pe_callTy call_intM (by rfl) B.int (by decide +kernel) (pa_cons (pe_ix ix_list (pv 0) pe_int (fun _ _ => rfl)) pa_nil)) (pv 1)))
          (pss_cons (ps_asg (pe_op op_divM (pe_ix ix_list (pv 0) pe_int (fun _ _ => rfl)) (pv 1)) (pg_sub (pv 0) pe_int set_list)) (pss_one (ps_ret (pv 2))))) pss_nil)
      (pss_cons (ps_asg (pe_op op_add (pe_ix ix_list (pv 0) pe_int (fun _ _ => rfl)) pe_int) (pg_sub (pv 0) pe_int set_list))
      (pss_cons (ps_if (pt_cmpR op_gt (pe_ix ix_list (pv 0) pe_int (fun _ _ => rfl)) (pe_callB call_lenM (by rfl) B.len (by decide +kernel) (pa_cons (pe_ix ix_list (pv 0) pe_int (fun _ _ => rfl)) pa_nil)) (nomark _))
        (pss_cons (ps_asg (pe_op op_modM (pe_callTy call_intM (by rfl) B.int (by decide +kernel) (pa_cons (pe_op op_add (pe_op op_mulM (pe_ix ix_list (pv 0) pe_int (fun _ _ => rfl)) pe_int) pe_int) pa_nil)) pe_int) (pg_sub (pv 0) pe_int set_list))
          (pss_one (ps_ret (pe_op op_modM (pe_callTy call_intM (by rfl) B.int (by decide +kernel) (pa_cons (pe_op op_divM (pe_ix ix_list (pv 0) pe_int (fun _ _ => rfl)) pe_int) pa_nil)) (pv 1))))) pss_nil)
      (pss_cons (ps_set (i := 3) sc_law_taken.nd rfl (.inl rfl) (pe_ix ix_list (pe_ix ix_list (pv 0) pe_int (fun _ _ => rfl)) (pe_op op_sub (pe_ix ix_list (pv 0) pe_int (fun _ _ => rfl)) pe_int) (fun _ _ => rfl)))
      (pss_cons (ps_asg (pe_op op_modM (pe_callTy call_intM (by rfl) B.int (by decide +kernel) (pa_cons (pe_op op_add (pe_op op_add (pe_op op_mulM (pe_ix ix_list (pv 0) pe_int (fun _ _ => rfl)) pe_int) (pv 3)) pe_int) pa_nil)) pe_int) (pg_sub (pv 0) pe_int set_list))
      (pss_cons (ps_if (pt_cmpR op_ge (pv 3) (pe_op op_pow pe_int pe_int) (nomark _)) (pss_one (ps_asg (pe_op op_divM (pv 3) (pv 1)) (pg_sub (pv 0) pe_int set_list))) pss_nil)
      (pss_one (ps_ret (pe_op op_modM (pe_callTy call_intM (by rfl) B.int (by decide +kernel) (pa_cons (pv 3) pa_nil)) (pv 1)))))))))), ?_⟩
    refine ⟨_, rfl, _, _, _, _, rfl, rfl, sq_of hL, rfl, _, _, rfl, rfl, _, rfl, ?_⟩
    by_cases c1 : left > 0
    · rw [if_pos (show left > 0 from c1)] at k
      rw [if_pos (decide_eq_true c1)]
      refine ⟨_, rfl, _, _, _, _, rfl, rfl, sq_of hL, rfl, _, rfl, _, rfl, _, _, _, rfl, rfl, by omega, rfl, ?_⟩
      refine ⟨_, rfl, _, _, _, _, rfl, rfl, sq_of hL, rfl, _, rfl, _, _, _, rfl, rfl, cd _, rfl, _, rfl, _, _, _, _, rfl, rfl, hL, rfl, _, rfl, ?_⟩
      rw [fmod_pos h1, fdiv_pos h1]
      exact k.h _ F _ (Gm.put e hL hF) ⟨rfl, upd_same, hF, hS⟩
    · rw [if_neg (show ¬ left > 0 from c1)] at k
      rw [if_neg (by simpa using c1)]
      refine ⟨_, rfl, _, _, _, _, rfl, rfl, sq_of hL, rfl, _, _, rfl, rfl, _, rfl, _, _, _, _, rfl, rfl, hL, rfl, ?_⟩
      generalize hq : upd H ra (.lst ([V.ref sc, V.int pos, V.int seed, V.int left].set (Int.toNat 1) ((fun i j => V.int (i + j)) pos 1))) = H1
      have g1 : Gm [ra] F H F H1 := by rw [← hq]; exact Gm.put e hL hF
      have l1 : H1 ra = some (.lst [.ref sc, .int (pos + 1), .int seed, .int left]) := by rw [← hq]; exact upd_same
      clear hq
      refine ⟨_, rfl, _, _, _, _, rfl, rfl, sq_of l1, rfl, _, rfl, _, _, _, _, rfl, rfl, sq_of l1, rfl, _, _, _, rfl, .inl (ex_l g1.s hS), rfl, _, _, rfl, rfl, _, rfl, ?_⟩
      cases c2 : scr[pos.toNat]? with
      | none =>
        rw [c2] at k
        have hlen : pos + 1 > ((scr.map V.int).length : Int) := by
          have := List.getElem?_eq_none_iff.mp c2
          rw [List.length_map]; omega
        rw [if_pos (decide_eq_true hlen)]
        refine ⟨_, rfl, _, _, _, _, rfl, rfl, sq_of l1, rfl, _, _, _, rfl, rfl, cmul_small (by omega) (by decide), rfl, _, _, rfl, rfl, _, rfl, _, _, _, rfl, rfl, by decide, rfl, _, rfl, _, _, _, _, rfl, rfl, l1, rfl, ?_⟩
        have es : (seed * 48271 + 11).fmod 2147483647 = seedN seed 0 := by rw [fmod_pos (by decide)]; unfold seedN; rw [Int.add_zero]
        have g2 : Gm [ra] F H F (upd H1 ra (.lst [.ref sc, .int (pos + 1), .int (seedN seed 0), .int left])) := g1.trans (Gm.put g1.s l1 hF)
        have l2 : (upd H1 ra (.lst [.ref sc, .int (pos + 1), .int (seedN seed 0), .int left])) ra = some (.lst [.ref sc, .int (pos + 1), .int (seedN seed 0), .int left]) := upd_same
        rw [es]
        refine ⟨_, rfl, _, _, _, _, rfl, rfl, sq_of l2, rfl, _, _, _, rfl, rfl, cdv_small ⟨by decide, by decide⟩, rfl, _, rfl, _, rfl, _, _, _, rfl, rfl, by omega, rfl, ?_⟩
        rw [fmod_pos h1, fdiv_pos (by decide)]
        exact k.h _ F _ g2 ⟨rfl, l2, hF, hS⟩
      | some c =>
        rw [c2] at k
        obtain ⟨hp, ec⟩ := List.getElem?_eq_some_iff.mp c2
        have hlen : ¬ pos + 1 > ((scr.map V.int).length : Int) := by rw [List.length_map]; omega
        rw [if_neg (by simpa using hlen)]
        have hat : atI (scr.map V.int) (pos + 1 - 1) = some (.int c) := by
          unfold atI ixN
          rw [if_pos (by omega), if_pos (by rw [List.length_map]; omega)]
          show (scr.map V.int)[(pos + 1 - 1).toNat]? = _
          rw [show (pos + 1 - 1) = pos by omega, List.getElem?_map, c2]; rfl
        refine ⟨_, rfl, _, _, _, _, rfl, rfl, sq_of l1, rfl, _, rfl, _, _, _, _, rfl, rfl, sq_of l1, rfl, _, _, rfl, rfl, _, _, _, _, rfl, rfl, ex_l g1.s hS, hat, ?_⟩
        refine ⟨_, rfl, _, _, _, _, rfl, rfl, sq_of l1, rfl, _, _, _, rfl, rfl, cmul_small (by omega) (by decide), rfl, _, rfl, _, _, rfl, rfl, _, _, rfl, rfl, _, rfl, _, _, _, rfl, rfl, by decide, rfl, _, rfl, _, _, _, _, rfl, rfl, l1, rfl, ?_⟩
        have es : (seed * 48271 + c + 11).fmod 2147483647 = seedN seed c := by rw [fmod_pos (by decide)]; rfl
        have g2 : Gm [ra] F H F (upd H1 ra (.lst [.ref sc, .int (pos + 1), .int (seedN seed c), .int left])) := g1.trans (Gm.put g1.s l1 hF)
        have l2 : (upd H1 ra (.lst [.ref sc, .int (pos + 1), .int (seedN seed c), .int left])) ra = some (.lst [.ref sc, .int (pos + 1), .int (seedN seed c), .int left]) := upd_same
        rw [es]
        refine ⟨_, rfl, _, _, rfl, rfl, ⟨by decide, by decide, by decide⟩, _, _, rfl, rfl, _, rfl, ?_⟩
        have fin : ∀ x, Gm [ra] F H F (upd (upd H1 ra (.lst [.ref sc, .int (pos + 1), .int (seedN seed c), .int left])) ra (.lst [.ref sc, .int (pos + 1), .int (seedN seed c), .int x])) := fun x => g2.trans (Gm.put g2.s l2 hF)
        by_cases c3 : c ≥ 10 ^ 18
        · simp only [if_pos (show c ≥ 10 ^ 18 from c3)] at k
          refine iteP (decide_eq_true c3) ?_
          refine ⟨_, rfl, _, rfl, _, _, _, rfl, rfl, cd _, rfl, _, rfl, _, _, _, _, rfl, rfl, l2, rfl, ?_⟩
          refine ⟨_, rfl, _, rfl, _, rfl, _, _, _, rfl, rfl, by omega, rfl, ?_⟩
          rw [fmod_pos h1, fdiv_pos h1]
          exact k.h _ F _ (fin _) ⟨rfl, upd_same, hF, hS⟩
        · simp only [if_neg (show ¬ c ≥ 10 ^ 18 from c3)] at k
          refine iteN (decide_eq_false c3) ?_
          refine ⟨_, rfl, _, rfl, _, rfl, _, _, _, rfl, rfl, by omega, rfl, ?_⟩
          rw [fmod_pos h1]
          exact k.h _ F _ g2 ⟨rfl, l2, hF, hS⟩

/-! ### _law_low -/
abbrev s_law_low : Stmt := top 35
theorem sc_law_low : FnScope ["_law_top", "_law_bottom", "_law_one", "_law_other"] ["_law_top", "_law_bottom"] (defScope s_law_low) := ⟨rfl, rfl, rfl, by decide +kernel, rfl, by decide +kernel, by decide +kernel⟩
def law_low (law_top : Int) (law_bottom : Int) : Mm (Int × Int) := (foldW (fun (b1 : (Int × Int)) => Mm.ok (decide (b1.2 > (0 : Int)))) (fun (b2 : (Int × Int)) => (modM b2.1 b2.2).bd fun m19 => Mm.ok (b2.2, m19)) ((absI law_bottom).toNat + 1) ((absI law_top), (absI law_bottom))).bd fun b3 => (cond (decide (law_bottom > (0 : Int))) (Mm.ok b3.1) (Mm.ok ((0 : Int) - b3.1))).bd fun b28 => (divM law_top b28).bd fun m30 => (divM law_bottom b28).bd fun m33 => Mm.ok (m30, m33)
def sp_law_low (K : PySem.W.Frag) : Sp := fun vs H Q E => ∃ (F : Hp) (law_top : Int) (law_bottom : Int), vs = [(V.int law_top), (V.int law_bottom)] ∧ Ex F H ∧ Post (law_low law_top law_bottom) (fun r => Ret [] F H (fun F' _ v => Dq K F' v ((e2 PyData.int PyData.int) r)) Q) (fun _ => False)
theorem ok_law_low {P : Program} {w : World} {K : PySem.W.Frag} {mg : Str → Option Value} {base : Heap} {C f : Addr} {fd : FuncData} (B : Bi mg) (FF : FunD K "_law_low" "_law_low" (defArgs s_law_low) (defBody s_law_low) (defScope s_law_low) [] [] f fd) : FnOk P w K mg base CX0 1 f fd ["_law_top", "_law_bottom"] (sp_law_low K) := by
  refine FF.ok sc_law_low (fun vs H Q E h => ?_) (fun cdv A outer s H vs Q E hr h => ?_)
  · obtain ⟨F, law_top, law_bottom, rfl, _⟩ := h; rfl
  · obtain ⟨F, law_top, law_bottom, rfl, e, k⟩ := h
    unfold law_low at k
    have g_ := Gm.refl (M := []) e
    refine ⟨_, PSs.nox (pss_cons (ps_par (i := 2) (j := 3) (by rfl) sc_law_low.nd rfl rfl (by decide) rfl rfl (pa_cons (pe_callB call_abs (by rfl) B.abs (by decide +kernel) (pa_cons (pv 0) pa_nil)) (pa_cons (pe_callB call_abs (by rfl) B.abs (by decide +kernel) (pa_cons (pv 1) pa_nil)) (pa_nil))) (by rfl)) (pss_cons (ps_while PassesOwn.never (pt_cmpR op_gt (pv 3) (pe_int) (nomark _)) (pss_one (ps_par (i := 2) (j := 3) (by rfl) sc_law_low.nd rfl rfl (by decide) rfl rfl (pa_cons (pv 3) (pa_cons (pe_op op_modM (pe_callTy call_intM (by rfl) B.int (by decide +kernel) (pa_cons (pv 2) pa_nil)) (pv 3)) (pa_nil))) (by rfl)))) (pss_cons (ps_set (i := 2) sc_law_low.nd rfl (Or.inl rfl) (pe_ifExp (pt_cmpR op_gt (pv 1) (pe_int) (nomark _)) (pv 2) (pe_op op_sub (pe_int) (pv 2)))) (pss_one (ps_ret (pe_q (pe_tup (pa_cons (pe_op op_divM (pv 0) (pv 2)) (pa_cons (pe_op op_divM (pv 1) (pv 2)) (pa_nil)))))))))), ?_⟩
    refine ⟨_, rfl, _, rfl, _, rfl, _, rfl, _, _, rfl, ?_⟩
    refine while_mir (M := []) (F := F) (N := (absI law_bottom).toNat + 1) (fun b1 F' H' σ' => σ' = [some (V.int law_top), some (V.int law_bottom), some (V.int b1.1), some (V.int b1.2)]) k e rfl (fun b1 σ8 F4 H5 g6 i7 Q' kcb1 => ?_) (fun b2 σ13 F9 H10 g11 i12 nx kwb1 => ?_) (fun b3 σ18 F14 H15 g16 i17 k => ?_)
    · obtain rfl := i7
      have eF4 := g6.s
      refine ⟨_, rfl, _, _, rfl, rfl, _, rfl, ?_⟩
      exact kcb1.h _ _ g6 rfl
    · obtain rfl := i12
      have eF9 := g11.s
      refine ⟨_, rfl, _, rfl, _, rfl, _, rfl, ?_⟩
      obtain ⟨m19, c20, q21, kwb1⟩ := post_mod kwb1
      refine ⟨_, _, _, rfl, rfl, c20, q21, _, _, rfl, ?_⟩
      exact kwb1.h _ _ _ g11 rfl
    have g22 := g_.trans (g16.weak (by simp))
    have eF14 := g16.s
    obtain rfl := i17
    refine ⟨_, rfl, _, _, rfl, rfl, _, rfl, ?_⟩
    refine if_jM (M := []) (F := F14) (fun b F' H' v => v = V.int b) k (fun _ Q' kib28 => ?_) (fun _ Q' kib28 => ?_) (fun b28 v23 F24 H25 g26 r27 k => ?_)
    · have gF14_ := Gm.refl (M := []) eF14
      refine ⟨_, rfl, ?_⟩
      exact kib28.h _ _ _ gF14_ rfl
    · have gF14_ := Gm.refl (M := []) eF14
      refine ⟨_, rfl, _, _, rfl, rfl, ?_⟩
      exact kib28.h _ _ _ gF14_ rfl
    have eF24 := g26.s
    have gF24 := g22.trans (g26.weak (by simp))
    subst r27
    refine ⟨_, rfl, _, rfl, ?_⟩
    obtain ⟨m30, c31, q32, k⟩ := post_div k
    refine ⟨_, _, _, rfl, rfl, c31, q32, _, rfl, _, rfl, ?_⟩
    obtain ⟨m33, c34, q35, k⟩ := post_div k
    refine ⟨_, _, _, rfl, rfl, c34, q35, ?_⟩
    show _ ∧ _
    refine new_tup (K := K) (M := []) eF24 (.cons (Dq.int m30) (.cons (Dq.int m33) .nil)) (by show 2 ≤ 100000; decide) fun v40 F36 H37 g38 r39 => ?_
    have eF36 := g38.s
    have gF36 := gF24.trans (g38.weak (by simp))
    replace r39 : Dq K F36 v40 ((e2 PyData.int PyData.int) (m30, m33)) := r39
    exact k.h _ _ _ gF36 r39
/-! ### _law_add -/
abbrev s_law_add : Stmt := top 36
theorem sc_law_add : FnScope ["_law_one", "_law_other"] ["_law_one", "_law_other"] (defScope s_law_add) := ⟨rfl, rfl, rfl, by decide +kernel, rfl, by decide +kernel, by decide +kernel⟩
def law_add (law_one : (Int × Int)) (law_other : (Int × Int)) : Mm (Int × Int) := (mulM law_one.1 law_other.2).bd fun m13 => (mulM law_other.1 law_one.2).bd fun m16 => (mulM law_one.2 law_other.2).bd fun m19 => (law_low ((m13 + m16)) (m19)).bd fun b22 => Mm.ok b22
def sp_law_add (K : PySem.W.Frag) : Sp := fun vs H Q E => ∃ (F : Hp) (v_law_one : V) (law_one : (Int × Int)) (v_law_other : V) (law_other : (Int × Int)), vs = [v_law_one, v_law_other] ∧ Ex F H ∧ Dq K F v_law_one ((e2 PyData.int PyData.int) law_one) ∧ Dq K F v_law_other ((e2 PyData.int PyData.int) law_other) ∧ Post (law_add law_one law_other) (fun r => Ret [] F H (fun F' _ v => Dq K F' v ((e2 PyData.int PyData.int) r)) Q) (fun _ => False)
theorem ok_law_add {P : Program} {w : World} {K : PySem.W.Frag} {mg : Str → Option Value} {base : Heap} {C f : Addr} {fd : FuncData} (B : Bi mg) (FF : FunD K "_law_add" "_law_add" (defArgs s_law_add) (defBody s_law_add) (defScope s_law_add) [] [] f fd) (G_law_low : Kn P w K mg base "_law_low" 1 ["_law_top", "_law_bottom"] (sp_law_low K)) : FnOk P w K mg base CX0 2 f fd ["_law_one", "_law_other"] (sp_law_add K) := by
  refine FF.ok sc_law_add (fun vs H Q E h => ?_) (fun cdv A outer s H vs Q E hr h => ?_)
  · obtain ⟨F, v_law_one, law_one, v_law_other, law_other, rfl, _⟩ := h; rfl
  · obtain ⟨F, v_law_one, law_one, v_law_other, law_other, rfl, e, r_law_one, r_law_other, k⟩ := h
    unfold law_add at k
    have g_ := Gm.refl (M := []) e
    refine ⟨_, PSs.nox (pss_one (ps_ret (pe_kn G_law_low (hr.mono (by decide)) (pa_cons (pe_op op_add (pe_op op_mulM (pe_ix (r := rIxT K) ix_tup (pv 0) (pe_int) (fun _ _ => rfl)) (pe_ix (r := rIxT K) ix_tup (pv 1) (pe_int) (fun _ _ => rfl))) (pe_op op_mulM (pe_ix (r := rIxT K) ix_tup (pv 1) (pe_int) (fun _ _ => rfl)) (pe_ix (r := rIxT K) ix_tup (pv 0) (pe_int) (fun _ _ => rfl)))) (pa_cons (pe_op op_mulM (pe_ix (r := rIxT K) ix_tup (pv 0) (pe_int) (fun _ _ => rfl)) (pe_ix (r := rIxT K) ix_tup (pv 1) (pe_int) (fun _ _ => rfl))) (pa_nil)))))), ?_⟩
    refine ⟨_, rfl, ?_⟩
    obtain ⟨p1, x2, x3, rfl, s4, d5, d6⟩ := dp_tup2 r_law_one
    obtain rfl := dp_int d5
    obtain rfl := dp_int d6
    refine ⟨_, _, _, _, rfl, rfl, ex_t e s4, rfl, _, rfl, ?_⟩
    obtain ⟨p7, x8, x9, rfl, s10, d11, d12⟩ := dp_tup2 r_law_other
    obtain rfl := dp_int d11
    obtain rfl := dp_int d12
    refine ⟨_, _, _, _, rfl, rfl, ex_t e s10, rfl, ?_⟩
    obtain ⟨m13, c14, q15, k⟩ := post_mul k
    refine ⟨_, _, _, rfl, rfl, c14, q15, _, rfl, ?_⟩
    refine ⟨_, _, _, _, rfl, rfl, ex_t e s10, rfl, _, rfl, ?_⟩
    refine ⟨_, _, _, _, rfl, rfl, ex_t e s4, rfl, ?_⟩
    obtain ⟨m16, c17, q18, k⟩ := post_mul k
    refine ⟨_, _, _, rfl, rfl, c17, q18, _, _, rfl, rfl, _, rfl, ?_⟩
    refine ⟨_, _, _, _, rfl, rfl, ex_t e s4, rfl, _, rfl, ?_⟩
    refine ⟨_, _, _, _, rfl, rfl, ex_t e s10, rfl, ?_⟩
    obtain ⟨m19, c20, q21, k⟩ := post_mul k
    refine ⟨_, _, _, rfl, rfl, c20, q21, ?_⟩
    refine ⟨F, (m13 + m16), m19, rfl, e, (post_bd k).mono (fun b22 k v27 F23 H24 g25 r26 => ?_) (fun _ z => z)⟩
    have eF23 := g25.s
    have gF23 := g_.trans (g25.weak (by simp))
    replace r_law_one := r_law_one.up g25.f
    replace r_law_other := r_law_other.up g25.f
    replace s4 := ex_t g25.f s4
    replace s10 := ex_t g25.f s10
    exact k.h _ _ _ gF23 r26
/-! ### _law_times -/
abbrev s_law_times : Stmt := top 37
theorem sc_law_times : FnScope ["_law_one", "_law_other"] ["_law_one", "_law_other"] (defScope s_law_times) := ⟨rfl, rfl, rfl, by decide +kernel, rfl, by decide +kernel, by decide +kernel⟩
def law_times (law_one : (Int × Int)) (law_other : (Int × Int)) : Mm (Int × Int) := (mulM law_one.1 law_other.1).bd fun m13 => (mulM law_one.2 law_other.2).bd fun m16 => (law_low (m13) (m16)).bd fun b19 => Mm.ok b19
def sp_law_times (K : PySem.W.Frag) : Sp := fun vs H Q E => ∃ (F : Hp) (v_law_one : V) (law_one : (Int × Int)) (v_law_other : V) (law_other : (Int × Int)), vs = [v_law_one, v_law_other] ∧ Ex F H ∧ Dq K F v_law_one ((e2 PyData.int PyData.int) law_one) ∧ Dq K F v_law_other ((e2 PyData.int PyData.int) law_other) ∧ Post (law_times law_one law_other) (fun r => Ret [] F H (fun F' _ v => Dq K F' v ((e2 PyData.int PyData.int) r)) Q) (fun _ => False)
theorem ok_law_times {P : Program} {w : World} {K : PySem.W.Frag} {mg : Str → Option Value} {base : Heap} {C f : Addr} {fd : FuncData} (B : Bi mg) (FF : FunD K "_law_times" "_law_times" (defArgs s_law_times) (defBody s_law_times) (defScope s_law_times) [] [] f fd) (G_law_low : Kn P w K mg base "_law_low" 1 ["_law_top", "_law_bottom"] (sp_law_low K)) : FnOk P w K mg base CX0 2 f fd ["_law_one", "_law_other"] (sp_law_times K) := by
  refine FF.ok sc_law_times (fun vs H Q E h => ?_) (fun cdv A outer s H vs Q E hr h => ?_)
  · obtain ⟨F, v_law_one, law_one, v_law_other, law_other, rfl, _⟩ := h; rfl
  · obtain ⟨F, v_law_one, law_one, v_law_other, law_other, rfl, e, r_law_one, r_law_other, k⟩ := h
    unfold law_times at k
    have g_ := Gm.refl (M := []) e
    refine ⟨_, PSs.nox (pss_one (ps_ret (pe_kn G_law_low (hr.mono (by decide)) (pa_cons (pe_op op_mulM (pe_ix (r := rIxT K) ix_tup (pv 0) (pe_int) (fun _ _ => rfl)) (pe_ix (r := rIxT K) ix_tup (pv 1) (pe_int) (fun _ _ => rfl))) (pa_cons (pe_op op_mulM (pe_ix (r := rIxT K) ix_tup (pv 0) (pe_int) (fun _ _ => rfl)) (pe_ix (r := rIxT K) ix_tup (pv 1) (pe_int) (fun _ _ => rfl))) (pa_nil)))))), ?_⟩
    refine ⟨_, rfl, ?_⟩
    obtain ⟨p1, x2, x3, rfl, s4, d5, d6⟩ := dp_tup2 r_law_one
    obtain rfl := dp_int d5
    obtain rfl := dp_int d6
    refine ⟨_, _, _, _, rfl, rfl, ex_t e s4, rfl, _, rfl, ?_⟩
    obtain ⟨p7, x8, x9, rfl, s10, d11, d12⟩ := dp_tup2 r_law_other
    obtain rfl := dp_int d11
    obtain rfl := dp_int d12
    refine ⟨_, _, _, _, rfl, rfl, ex_t e s10, rfl, ?_⟩
    obtain ⟨m13, c14, q15, k⟩ := post_mul k
    refine ⟨_, _, _, rfl, rfl, c14, q15, _, rfl, ?_⟩
    refine ⟨_, _, _, _, rfl, rfl, ex_t e s4, rfl, _, rfl, ?_⟩
    refine ⟨_, _, _, _, rfl, rfl, ex_t e s10, rfl, ?_⟩
    obtain ⟨m16, c17, q18, k⟩ := post_mul k
    refine ⟨_, _, _, rfl, rfl, c17, q18, ?_⟩
    refine ⟨F, m13, m16, rfl, e, (post_bd k).mono (fun b19 k v24 F20 H21 g22 r23 => ?_) (fun _ z => z)⟩
    have eF20 := g22.s
    have gF20 := g_.trans (g22.weak (by simp))
    replace r_law_one := r_law_one.up g22.f
    replace r_law_other := r_law_other.up g22.f
    replace s4 := ex_t g22.f s4
    replace s10 := ex_t g22.f s10
    exact k.h _ _ _ gF20 r23
/-! ### _law_weighting -/
abbrev s_law_weighting : Stmt := top 38
theorem sc_law_weighting : FnScope ["_law_row", "_law_masses", "_law_stretches", "_law_spot", "_law_k", "_law_low_here"] ["_law_row"] (defScope s_law_weighting) := ⟨rfl, rfl, rfl, by decide +kernel, rfl, by decide +kernel, by decide +kernel⟩
def law_weighting (scr : List Int) (st : Rw) : Mm (Wt × Rw) := (takenB scr st ((9 : Int))).bd fun b15 => (takenB scr b15.2 ((4 : Int))).bd fun b22 => (rangeM b22.1).bd fun l30 => (foldM (fun (b31 : (Int × (List (Int × Int)) × Rw)) (x32 : Int) => (takenB scr b31.2.2 ((4 : Int))).bd fun b55 => (takenB scr b55.2 ((20 : Int))).bd fun b62 => (guardM (b31.2.1.length < 100000)).bd fun _ => Mm.ok (((b31.1 + (1 : Int)) + b55.1), (b31.2.1 ++ [(((b31.1 + (1 : Int)) + b55.1), ((1 : Int) + b62.1))]), b62.2)) ((b15.1 - (12 : Int)), [], b22.2) (rangeL 0 b22.1.toNat)).bd fun b48 => (takenB scr b48.2.2 ((9 : Int))).bd fun b85 => (takenB scr b85.2 ((3 : Int))).bd fun b92 => (rangeM b92.1).bd fun l100 => (foldM (fun (b101 : (Int × (List (Int × Int × Int)) × Rw)) (x102 : Int) => (takenB scr b101.2.2 ((3 : Int))).bd fun b125 => (takenB scr b125.2 ((6 : Int))).bd fun b132 => (takenB scr b132.2 ((20 : Int))).bd fun b139 => (guardM (b101.2.1.length < 100000)).bd fun _ => Mm.ok ((((b101.1 + b125.1) + (1 : Int)) + b132.1), (b101.2.1 ++ [((b101.1 + b125.1), (((b101.1 + b125.1) + (1 : Int)) + b132.1), ((1 : Int) + b139.1))]), b139.2)) ((b85.1 - (12 : Int)), [], b92.2) (rangeL 0 b92.1.toNat)).bd fun b118 => (cond (decide (b48.2.1 = [])) (Mm.ok (decide (b118.2.1 = []))) (Mm.ok false)).bd fun b167 => (cond b167 ((takenB scr b118.2.2 ((20 : Int))).bd fun b182 => (guardM (b48.2.1.length < 100000)).bd fun _ => Mm.ok ((b48.2.1 ++ [(b118.1, ((1 : Int) + b182.1))]), b182.2)) (Mm.ok (b48.2.1, b118.2.2))).bd fun b176 => (Weighting_init b176.1 b118.2.1).bd fun b215 => Mm.ok (b215, b176.2)
def sp_law_weighting (K : PySem.W.Frag) (C : Addr) : Sp := fun vs H Q E => ∃ (F : Hp) (sc ra : Addr) (scr : List Int) (st : Rw), vs = [.ref ra] ∧ Ex F H ∧ RowAt K sc ra scr F H st ∧ Post (law_weighting scr st) (fun r => Ret [ra] F H (fun F' H' v => IsW K C F' v r.1 ∧ RowAt K sc ra scr F' H' r.2) Q) (fun _ => False)
theorem ok_law_weighting {P : Program} {w : World} {K : PySem.W.Frag} {mg : Str → Option Value} {base : Heap} {C f : Addr} {fd : FuncData} (B : Bi mg) (FF : FunD K "_law_weighting" "_law_weighting" (defArgs s_law_weighting) (defBody s_law_weighting) (defScope s_law_weighting) [] [] f fd) (G_law_taken : Kn P w K mg base "_law_taken" 1 ["_law_row", "_law_many"] (spTaken takenB K)) (GC_Weighting : KnC P w K mg base CX0 "Weighting" C 4 ["self", "masses", "stretches"] (spW0 Weighting_init K C)) : FnOk P w K mg base CX0 6 f fd ["_law_row"] (sp_law_weighting K C) := by
  refine FF.ok sc_law_weighting (fun vs H Q E h => ?_) (fun cdv A outer s H vs Q E hr h => ?_)
  · obtain ⟨F, sc, ra, scr, st, rfl, _⟩ := h; rfl
  · obtain ⟨F, sc, ra, scr, st, rfl, e, w, k⟩ := h
    unfold law_weighting at k
    have g_ := Gm.refl (M := [ra]) e
    refine ⟨_, PSs.nox (pss_cons (ps_par3 (i := 1) (j := 2) (l := 3) (by rfl) sc_law_weighting.nd rfl rfl rfl (by decide) (by decide) (by decide) rfl rfl rfl (pa_cons (pe_q (pe_lst (pa_nil))) (pa_cons (pe_q (pe_lst (pa_nil))) (pa_cons (pe_op op_sub (pe_kn G_law_taken (hr.mono (by decide)) (pa_cons (pv 0) (pa_cons (pe_int) (pa_nil)))) (pe_int)) (pa_nil)))) (by rfl)) (pss_cons (ps_for PassesOwn.never rfl (pi_range1 rfl B.range (pa_cons (pe_kn G_law_taken (hr.mono (by decide)) (pa_cons (pv 0) (pa_cons (pe_int) (pa_nil)))) (pa_nil))) (pg_name (i := 4) sc_law_weighting.nd rfl (Or.inl rfl)) (pss_cons (ps_set (i := 3) sc_law_weighting.nd rfl (Or.inl rfl) (pe_op op_add (pe_op op_add (pv 3) (pe_int)) (pe_kn G_law_taken (hr.mono (by decide)) (pa_cons (pv 0) (pa_cons (pe_int) (pa_nil)))))) (pss_one (ps_expr (pe_bm PySem.F.plainAttrs_list PySem.F.slot_list_append PySem.F.type_list_append mt_append (pv 1) (pa_cons (pe_q (pe_tup (pa_cons (pv 3) (pa_cons (pe_op op_add (pe_int) (pe_kn G_law_taken (hr.mono (by decide)) (pa_cons (pv 0) (pa_cons (pe_int) (pa_nil))))) (pa_nil))))) pa_nil)))))) (pss_cons (ps_set (i := 3) sc_law_weighting.nd rfl (Or.inl rfl) (pe_op op_sub (pe_kn G_law_taken (hr.mono (by decide)) (pa_cons (pv 0) (pa_cons (pe_int) (pa_nil)))) (pe_int))) (pss_cons (ps_for PassesOwn.never rfl (pi_range1 rfl B.range (pa_cons (pe_kn G_law_taken (hr.mono (by decide)) (pa_cons (pv 0) (pa_cons (pe_int) (pa_nil)))) (pa_nil))) (pg_name (i := 4) sc_law_weighting.nd rfl (Or.inl rfl)) (pss_cons (ps_set (i := 5) sc_law_weighting.nd rfl (Or.inl rfl) (pe_op op_add (pv 3) (pe_kn G_law_taken (hr.mono (by decide)) (pa_cons (pv 0) (pa_cons (pe_int) (pa_nil)))))) (pss_cons (ps_set (i := 3) sc_law_weighting.nd rfl (Or.inl rfl) (pe_op op_add (pe_op op_add (pv 5) (pe_int)) (pe_kn G_law_taken (hr.mono (by decide)) (pa_cons (pv 0) (pa_cons (pe_int) (pa_nil)))))) (pss_one (ps_expr (pe_bm PySem.F.plainAttrs_list PySem.F.slot_list_append PySem.F.type_list_append mt_append (pv 2) (pa_cons (pe_q (pe_tup (pa_cons (pv 5) (pa_cons (pv 3) (pa_cons (pe_op op_add (pe_int) (pe_kn G_law_taken (hr.mono (by decide)) (pa_cons (pv 0) (pa_cons (pe_int) (pa_nil))))) (pa_nil)))))) pa_nil))))))) (pss_cons (ps_if (PW.pt (pw_and (pt_cmpR (r := rEqM K (eL (e2 PyData.int PyData.int))) (op_eqM (sh_eL (sh_e2 sh_int sh_int)) (units_of hr)) (pv 1) (pe_q (pe_lst (pa_nil))) (nomark _)) (pw_and1 (pt_cmpR (r := rEqM K (eL (e3 PyData.int PyData.int PyData.int))) (op_eqM (sh_eL (sh_e3 sh_int sh_int sh_int)) (units_of hr)) (pv 2) (pe_q (pe_lst (pa_nil))) (nomark _))))) (pss_one (ps_expr (pe_bm PySem.F.plainAttrs_list PySem.F.slot_list_append PySem.F.type_list_append mt_append (pv 1) (pa_cons (pe_q (pe_tup (pa_cons (pv 3) (pa_cons (pe_op op_add (pe_int) (pe_kn G_law_taken (hr.mono (by decide)) (pa_cons (pv 0) (pa_cons (pe_int) (pa_nil))))) (pa_nil))))) pa_nil)))) (pss_nil)) (pss_one (ps_ret (pe_q (pe_knC GC_Weighting (hr.mono (by decide)) pass0 (pa_cons (pe_q (pe_callTy call_tuple_of (by rfl) B.tuple (by decide +kernel) (pa_cons (pv 1) pa_nil))) (pa_cons (pe_q (pe_callTy call_tuple_of (by rfl) B.tuple (by decide +kernel) (pa_cons (pv 2) pa_nil))) pa_nil))))))))))), ?_⟩
    show _ ∧ _
    refine new_own (K := K) e .nil (by show 0 ≤ 100000; decide) fun p1 H2 g3 y4 o5 => ?_
    have a6 : DqAll K F [] (List.map (e2 PyData.int PyData.int) []) := .nil
    have np1 := ne_of_none w.1 y4
    have mp1 := np1.symm
    have zp1 := g_.fresh y4
    have eH2 := g3.s
    have gH2 := g_.trans (g3.weak (by simp))
    replace w := w.keep g3
    show _ ∧ _
    refine new_own (K := K) eH2 .nil (by show 0 ≤ 100000; decide) fun p8 H9 g10 y11 o12 => ?_
    have a13 : DqAll K F [] (List.map (e3 PyData.int PyData.int PyData.int) []) := .nil
    have np8 := ne_of_none w.1 y11
    have mp8 := np8.symm
    have np1_p8 := ne_of_none o5.1 y11
    have np8_p1 := np1_p8.symm
    have zp8 := gH2.fresh y11
    have eH9 := g10.s
    have gH9 := gH2.trans (g10.weak (by simp))
    replace w := w.keep g10
    replace o5 := g10.own (by simp) o5.1 o5.2
    refine ⟨_, rfl, ?_⟩
    refine ⟨F, sc, ra, scr, st, (9 : Int), rfl, eH9, w, (post_bd k).mono (fun b15 k v20 F16 H17 g18 ⟨r19, w21⟩ => ?_) (fun _ z => z)⟩
    have eF16 := g18.s
    have gF16 := gH9.trans (g18.weak (by simp))
    replace o5 := g18.own (by first | exact List.not_mem_nil | (simp only [List.mem_cons, List.not_mem_nil, or_false, not_or]; (repeat' apply And.intro) <;> assumption)) o5.1 o5.2
    replace a6 := a6.up g18.f
    replace o12 := g18.own (by first | exact List.not_mem_nil | (simp only [List.mem_cons, List.not_mem_nil, or_false, not_or]; (repeat' apply And.intro) <;> assumption)) o12.1 o12.2
    replace a13 := a13.up g18.f
    subst r19
    refine ⟨_, _, rfl, rfl, _, _, _, rfl, ?_⟩
    refine ⟨_, rfl, ?_⟩
    refine ⟨F16, sc, ra, scr, b15.2, (4 : Int), rfl, eF16, w21, (post_bd k).mono (fun b22 k v27 F23 H24 g25 ⟨r26, w28⟩ => ?_) (fun _ z => z)⟩
    have eF23 := g25.s
    have gF23 := gF16.trans (g25.weak (by simp))
    replace o5 := g25.own (by first | exact List.not_mem_nil | (simp only [List.mem_cons, List.not_mem_nil, or_false, not_or]; (repeat' apply And.intro) <;> assumption)) o5.1 o5.2
    replace a6 := a6.up g25.f
    replace o12 := g25.own (by first | exact List.not_mem_nil | (simp only [List.mem_cons, List.not_mem_nil, or_false, not_or]; (repeat' apply And.intro) <;> assumption)) o12.1 o12.2
    replace a13 := a13.up g25.f
    subst r26
    obtain ⟨h29, k⟩ := post_range k
    refine ⟨_, rfl, h29.1, h29.2, ?_⟩
    refine for_m (M := [p1, ra]) (F := F23) wlk_range (fun b31 F' H' σ' => ∃ (u4 : Option V) (u5 : Option V) (xs1 : List V), σ' = [some (V.ref ra), some (V.ref p1), some (V.ref p8), some (V.int b31.1), u4, u5] ∧ (H' p1 = some (.lst xs1) ∧ F' p1 = none) ∧ DqAll K F' xs1 (List.map (e2 PyData.int PyData.int) b31.2.1) ∧ RowAt K sc ra scr F' H' b31.2.2) k eF23 ⟨_, _, _, rfl, o5, a6, w28⟩ (fun b31 x32 v40 σ42 F33 H34 F35 H36 g37 i41 g38 r39 nx kfb31 => ?_) (fun b48 σ47 F43 H44 g45 i46 k => ?_)
    · replace o12 := g37.own (by first | exact List.not_mem_nil | (simp only [List.mem_cons, List.not_mem_nil, or_false, not_or]; (repeat' apply And.intro) <;> assumption)) o12.1 o12.2
      replace a13 := a13.up g37.f
      obtain ⟨u49, u50, xs51, rfl, o52, a53, w54⟩ := i41
      replace o12 := g38.own (by first | exact List.not_mem_nil | (simp only [List.mem_cons, List.not_mem_nil, or_false, not_or]; (repeat' apply And.intro) <;> assumption)) o12.1 o12.2
      replace a13 := a13.up g38.f
      replace o52 := g38.own (by first | exact List.not_mem_nil | (simp only [List.mem_cons, List.not_mem_nil, or_false, not_or]; (repeat' apply And.intro) <;> assumption)) o52.1 o52.2
      replace a53 := a53.up g38.f
      replace w54 := w54.keep g38
      have eF35 := g38.s
      have gF35 := g37.trans (g38.weak (by simp))
      subst r39
      refine ⟨_, rfl, _, _, rfl, rfl, _, rfl, ?_⟩
      refine ⟨F35, sc, ra, scr, b31.2.2, (4 : Int), rfl, eF35, w54, (post_bd kfb31).mono (fun b55 kfb31 v60 F56 H57 g58 ⟨r59, w61⟩ => ?_) (fun _ z => z)⟩
      have eF56 := g58.s
      have gF56 := gF35.trans (g58.weak (by simp))
      replace o12 := g58.own (by first | exact List.not_mem_nil | (simp only [List.mem_cons, List.not_mem_nil, or_false, not_or]; (repeat' apply And.intro) <;> assumption)) o12.1 o12.2
      replace a13 := a13.up g58.f
      replace o52 := g58.own (by first | exact List.not_mem_nil | (simp only [List.mem_cons, List.not_mem_nil, or_false, not_or]; (repeat' apply And.intro) <;> assumption)) o52.1 o52.2
      replace a53 := a53.up g58.f
      subst r59
      refine ⟨_, _, rfl, rfl, ?_⟩
      refine ⟨_, rfl, .inl ⟨rfl, _, sq_of o52.1⟩, _, rfl, _, rfl, ?_⟩
      refine ⟨F56, sc, ra, scr, b55.2, (20 : Int), rfl, eF56, w61, (post_bd kfb31).mono (fun b62 kfb31 v67 F63 H64 g65 ⟨r66, w68⟩ => ?_) (fun _ z => z)⟩
      have eF63 := g65.s
      have gF63 := gF56.trans (g65.weak (by simp))
      replace o12 := g65.own (by first | exact List.not_mem_nil | (simp only [List.mem_cons, List.not_mem_nil, or_false, not_or]; (repeat' apply And.intro) <;> assumption)) o12.1 o12.2
      replace a13 := a13.up g65.f
      replace o52 := g65.own (by first | exact List.not_mem_nil | (simp only [List.mem_cons, List.not_mem_nil, or_false, not_or]; (repeat' apply And.intro) <;> assumption)) o52.1 o52.2
      replace a53 := a53.up g65.f
      subst r66
      refine ⟨_, _, rfl, rfl, ?_⟩
      show _ ∧ _
      refine new_tup (K := K) (M := []) eF63 (.cons (Dq.int ((b31.1 + (1 : Int)) + b55.1)) (.cons (Dq.int ((1 : Int) + b62.1)) .nil)) (by show 2 ≤ 100000; decide) fun v73 F69 H70 g71 r72 => ?_
      have eF69 := g71.s
      have gF69 := gF63.trans (g71.weak (by simp))
      replace o12 := g71.own (by first | exact List.not_mem_nil | (simp only [List.mem_cons, List.not_mem_nil, or_false, not_or]; (repeat' apply And.intro) <;> assumption)) o12.1 o12.2
      replace a13 := a13.up g71.f
      replace o52 := g71.own (by first | exact List.not_mem_nil | (simp only [List.mem_cons, List.not_mem_nil, or_false, not_or]; (repeat' apply And.intro) <;> assumption)) o52.1 o52.2
      replace a53 := a53.up g71.f
      replace w68 := w68.keep g71
      replace r72 : Dq K F69 v73 ((e2 PyData.int PyData.int) (((b31.1 + (1 : Int)) + b55.1), ((1 : Int) + b62.1))) := r72
      obtain ⟨h74, kfb31⟩ := post_guard kfb31
      refine ⟨_, _, _, rfl, rfl, o52.1, own_sz a53 h74, ?_⟩
      have g75 := gF69.putOr (o := .lst (xs51 ++ [v73])) (.inl (by simp)) o52.1 o52.2
      replace o12 : (upd H70 p1 (.lst (xs51 ++ [v73]))) p8 = _ ∧ _ := ⟨(upd_ne np8_p1).trans o12.1, o12.2⟩
      replace w68 := w68.put np1 (o := .lst (xs51 ++ [v73]))
      replace o52 : (upd H70 p1 (.lst (xs51 ++ [v73]))) p1 = some (.lst (xs51 ++ [v73])) ∧ F69 p1 = none := ⟨upd_same, o52.2⟩
      replace a53 : DqAll K F69 (xs51 ++ [v73]) (List.map (e2 PyData.int PyData.int) (b31.2.1 ++ [(((b31.1 + (1 : Int)) + b55.1), ((1 : Int) + b62.1))])) := by rw [List.map_append]; exact a53.app (.cons r72 .nil)
      have e76 := g75.s
      exact kfb31.h _ _ _ g75 ⟨_, _, _, rfl, o52, a53, w68⟩
    have hy78 : ∀ q ∈ [p1], q ∈ [ra] ∨ H q = none := by intro q hq; simp only [List.mem_cons, List.not_mem_nil, or_false] at hq; rcases hq with rfl; exact (.inr zp1)
    have g77 := Gm.outs [p1] hy78 gF23 (g45.weak (by simp))
    replace o12 := g45.own (by first | exact List.not_mem_nil | (simp only [List.mem_cons, List.not_mem_nil, or_false, not_or]; (repeat' apply And.intro) <;> assumption)) o12.1 o12.2
    replace a13 := a13.up g45.f
    have eF43 := g45.s
    obtain ⟨u79, u80, xs81, rfl, o82, a83, w84⟩ := i46
    refine ⟨_, rfl, ?_⟩
    refine ⟨F43, sc, ra, scr, b48.2.2, (9 : Int), rfl, eF43, w84, (post_bd k).mono (fun b85 k v90 F86 H87 g88 ⟨r89, w91⟩ => ?_) (fun _ z => z)⟩
    have eF86 := g88.s
    have gF86 := g77.trans (g88.weak (by simp))
    replace o12 := g88.own (by first | exact List.not_mem_nil | (simp only [List.mem_cons, List.not_mem_nil, or_false, not_or]; (repeat' apply And.intro) <;> assumption)) o12.1 o12.2
    replace a13 := a13.up g88.f
    replace o82 := g88.own (by first | exact List.not_mem_nil | (simp only [List.mem_cons, List.not_mem_nil, or_false, not_or]; (repeat' apply And.intro) <;> assumption)) o82.1 o82.2
    replace a83 := a83.up g88.f
    subst r89
    refine ⟨_, _, rfl, rfl, ?_⟩
    refine ⟨_, rfl, ?_⟩
    refine ⟨F86, sc, ra, scr, b85.2, (3 : Int), rfl, eF86, w91, (post_bd k).mono (fun b92 k v97 F93 H94 g95 ⟨r96, w98⟩ => ?_) (fun _ z => z)⟩
    have eF93 := g95.s
    have gF93 := gF86.trans (g95.weak (by simp))
    replace o12 := g95.own (by first | exact List.not_mem_nil | (simp only [List.mem_cons, List.not_mem_nil, or_false, not_or]; (repeat' apply And.intro) <;> assumption)) o12.1 o12.2
    replace a13 := a13.up g95.f
    replace o82 := g95.own (by first | exact List.not_mem_nil | (simp only [List.mem_cons, List.not_mem_nil, or_false, not_or]; (repeat' apply And.intro) <;> assumption)) o82.1 o82.2
    replace a83 := a83.up g95.f
    subst r96
    obtain ⟨h99, k⟩ := post_range k
    refine ⟨_, rfl, h99.1, h99.2, ?_⟩
    refine for_m (M := [p8, ra]) (F := F93) wlk_range (fun b101 F' H' σ' => ∃ (u4 : Option V) (u5 : Option V) (xs2 : List V), σ' = [some (V.ref ra), some (V.ref p1), some (V.ref p8), some (V.int b101.1), u4, u5] ∧ (H' p8 = some (.lst xs2) ∧ F' p8 = none) ∧ DqAll K F' xs2 (List.map (e3 PyData.int PyData.int PyData.int) b101.2.1) ∧ RowAt K sc ra scr F' H' b101.2.2) k eF93 ⟨_, _, _, rfl, o12, a13, w98⟩ (fun b101 x102 v110 σ112 F103 H104 F105 H106 g107 i111 g108 r109 nx kfb101 => ?_) (fun b118 σ117 F113 H114 g115 i116 k => ?_)
    · replace o82 := g107.own (by first | exact List.not_mem_nil | (simp only [List.mem_cons, List.not_mem_nil, or_false, not_or]; (repeat' apply And.intro) <;> assumption)) o82.1 o82.2
      replace a83 := a83.up g107.f
      obtain ⟨u119, u120, xs121, rfl, o122, a123, w124⟩ := i111
      replace o82 := g108.own (by first | exact List.not_mem_nil | (simp only [List.mem_cons, List.not_mem_nil, or_false, not_or]; (repeat' apply And.intro) <;> assumption)) o82.1 o82.2
      replace a83 := a83.up g108.f
      replace o122 := g108.own (by first | exact List.not_mem_nil | (simp only [List.mem_cons, List.not_mem_nil, or_false, not_or]; (repeat' apply And.intro) <;> assumption)) o122.1 o122.2
      replace a123 := a123.up g108.f
      replace w124 := w124.keep g108
      have eF105 := g108.s
      have gF105 := g107.trans (g108.weak (by simp))
      subst r109
      refine ⟨_, rfl, _, rfl, ?_⟩
      refine ⟨F105, sc, ra, scr, b101.2.2, (3 : Int), rfl, eF105, w124, (post_bd kfb101).mono (fun b125 kfb101 v130 F126 H127 g128 ⟨r129, w131⟩ => ?_) (fun _ z => z)⟩
      have eF126 := g128.s
      have gF126 := gF105.trans (g128.weak (by simp))
      replace o82 := g128.own (by first | exact List.not_mem_nil | (simp only [List.mem_cons, List.not_mem_nil, or_false, not_or]; (repeat' apply And.intro) <;> assumption)) o82.1 o82.2
      replace a83 := a83.up g128.f
      replace o122 := g128.own (by first | exact List.not_mem_nil | (simp only [List.mem_cons, List.not_mem_nil, or_false, not_or]; (repeat' apply And.intro) <;> assumption)) o122.1 o122.2
      replace a123 := a123.up g128.f
      subst r129
      refine ⟨_, _, rfl, rfl, ?_⟩
      refine ⟨_, rfl, _, _, rfl, rfl, _, rfl, ?_⟩
      refine ⟨F126, sc, ra, scr, b125.2, (6 : Int), rfl, eF126, w131, (post_bd kfb101).mono (fun b132 kfb101 v137 F133 H134 g135 ⟨r136, w138⟩ => ?_) (fun _ z => z)⟩
      have eF133 := g135.s
      have gF133 := gF126.trans (g135.weak (by simp))
      replace o82 := g135.own (by first | exact List.not_mem_nil | (simp only [List.mem_cons, List.not_mem_nil, or_false, not_or]; (repeat' apply And.intro) <;> assumption)) o82.1 o82.2
      replace a83 := a83.up g135.f
      replace o122 := g135.own (by first | exact List.not_mem_nil | (simp only [List.mem_cons, List.not_mem_nil, or_false, not_or]; (repeat' apply And.intro) <;> assumption)) o122.1 o122.2
      replace a123 := a123.up g135.f
      subst r136
      refine ⟨_, _, rfl, rfl, ?_⟩
      refine ⟨_, rfl, .inl ⟨rfl, _, sq_of o122.1⟩, _, rfl, _, rfl, _, rfl, ?_⟩
      refine ⟨F133, sc, ra, scr, b132.2, (20 : Int), rfl, eF133, w138, (post_bd kfb101).mono (fun b139 kfb101 v144 F140 H141 g142 ⟨r143, w145⟩ => ?_) (fun _ z => z)⟩
      have eF140 := g142.s
      have gF140 := gF133.trans (g142.weak (by simp))
      replace o82 := g142.own (by first | exact List.not_mem_nil | (simp only [List.mem_cons, List.not_mem_nil, or_false, not_or]; (repeat' apply And.intro) <;> assumption)) o82.1 o82.2
      replace a83 := a83.up g142.f
      replace o122 := g142.own (by first | exact List.not_mem_nil | (simp only [List.mem_cons, List.not_mem_nil, or_false, not_or]; (repeat' apply And.intro) <;> assumption)) o122.1 o122.2
      replace a123 := a123.up g142.f
      subst r143
      refine ⟨_, _, rfl, rfl, ?_⟩
      show _ ∧ _
      refine new_tup (K := K) (M := []) eF140 (.cons (Dq.int (b101.1 + b125.1)) (.cons (Dq.int (((b101.1 + b125.1) + (1 : Int)) + b132.1)) (.cons (Dq.int ((1 : Int) + b139.1)) .nil))) (by show 3 ≤ 100000; decide) fun v150 F146 H147 g148 r149 => ?_
      have eF146 := g148.s
      have gF146 := gF140.trans (g148.weak (by simp))
      replace o82 := g148.own (by first | exact List.not_mem_nil | (simp only [List.mem_cons, List.not_mem_nil, or_false, not_or]; (repeat' apply And.intro) <;> assumption)) o82.1 o82.2
      replace a83 := a83.up g148.f
      replace o122 := g148.own (by first | exact List.not_mem_nil | (simp only [List.mem_cons, List.not_mem_nil, or_false, not_or]; (repeat' apply And.intro) <;> assumption)) o122.1 o122.2
      replace a123 := a123.up g148.f
      replace w145 := w145.keep g148
      replace r149 : Dq K F146 v150 ((e3 PyData.int PyData.int PyData.int) ((b101.1 + b125.1), (((b101.1 + b125.1) + (1 : Int)) + b132.1), ((1 : Int) + b139.1))) := r149
      obtain ⟨h151, kfb101⟩ := post_guard kfb101
      refine ⟨_, _, _, rfl, rfl, o122.1, own_sz a123 h151, ?_⟩
      have g152 := gF146.putOr (o := .lst (xs121 ++ [v150])) (.inl (by simp)) o122.1 o122.2
      replace o82 : (upd H147 p8 (.lst (xs121 ++ [v150]))) p1 = _ ∧ _ := ⟨(upd_ne np1_p8).trans o82.1, o82.2⟩
      replace w145 := w145.put np8 (o := .lst (xs121 ++ [v150]))
      replace o122 : (upd H147 p8 (.lst (xs121 ++ [v150]))) p8 = some (.lst (xs121 ++ [v150])) ∧ F146 p8 = none := ⟨upd_same, o122.2⟩
      replace a123 : DqAll K F146 (xs121 ++ [v150]) (List.map (e3 PyData.int PyData.int PyData.int) (b101.2.1 ++ [((b101.1 + b125.1), (((b101.1 + b125.1) + (1 : Int)) + b132.1), ((1 : Int) + b139.1))])) := by rw [List.map_append]; exact a123.app (.cons r149 .nil)
      have e153 := g152.s
      exact kfb101.h _ _ _ g152 ⟨_, _, _, rfl, o122, a123, w145⟩
    have hy155 : ∀ q ∈ [p8], q ∈ [ra] ∨ H q = none := by intro q hq; simp only [List.mem_cons, List.not_mem_nil, or_false] at hq; rcases hq with rfl; exact (.inr zp8)
    have g154 := Gm.outs [p8] hy155 gF93 (g115.weak (by simp))
    replace o82 := g115.own (by first | exact List.not_mem_nil | (simp only [List.mem_cons, List.not_mem_nil, or_false, not_or]; (repeat' apply And.intro) <;> assumption)) o82.1 o82.2
    replace a83 := a83.up g115.f
    have eF113 := g115.s
    obtain ⟨u156, u157, xs158, rfl, o159, a160, w161⟩ := i116
    refine ⟨_, rfl, ?_⟩
    show _ ∧ _
    refine new_lst (K := K) (M := []) eF113 .nil (by show 0 ≤ 100000; decide) fun v166 F162 H163 g164 r165 => ?_
    have eF162 := g164.s
    have gF162 := g154.trans (g164.weak (by simp))
    replace o82 := g164.own (by first | exact List.not_mem_nil | (simp only [List.mem_cons, List.not_mem_nil, or_false, not_or]; (repeat' apply And.intro) <;> assumption)) o82.1 o82.2
    replace a83 := a83.up g164.f
    replace o159 := g164.own (by first | exact List.not_mem_nil | (simp only [List.mem_cons, List.not_mem_nil, or_false, not_or]; (repeat' apply And.intro) <;> assumption)) o159.1 o159.2
    replace a160 := a160.up g164.f
    replace w161 := w161.keep g164
    replace r165 : Dq K F162 v166 ((eL (e2 PyData.int PyData.int)) []) := r165
    refine ⟨b48.2.1, [], (own_dp (en := (e2 PyData.int PyData.int)) (l := b48.2.1) o82.1 a83 eF162), r165.dp eF162, ?_⟩
    refine ⟨_, rfl, ?_⟩
    refine and_jM (M := []) eF162 k (fun _ Q' ktb167 => ?_) (fun b167 F168 H169 g170 k => ?_)
    · have gF162_ := Gm.refl (M := []) eF162
      refine ⟨_, rfl, ?_⟩
      show _ ∧ _
      refine new_lst (K := K) (M := []) eF162 .nil (by show 0 ≤ 100000; decide) fun v175 F171 H172 g173 r174 => ?_
      have eF171 := g173.s
      have gF171 := gF162_.trans (g173.weak (by simp))
      replace o82 := g173.own (by first | exact List.not_mem_nil | (simp only [List.mem_cons, List.not_mem_nil, or_false, not_or]; (repeat' apply And.intro) <;> assumption)) o82.1 o82.2
      replace a83 := a83.up g173.f
      replace o159 := g173.own (by first | exact List.not_mem_nil | (simp only [List.mem_cons, List.not_mem_nil, or_false, not_or]; (repeat' apply And.intro) <;> assumption)) o159.1 o159.2
      replace a160 := a160.up g173.f
      replace w161 := w161.keep g173
      replace r165 := r165.up g173.f
      replace r174 : Dq K F171 v175 ((eL (e3 PyData.int PyData.int PyData.int)) []) := r174
      refine ⟨b118.2.1, [], (own_dp (en := (e3 PyData.int PyData.int PyData.int)) (l := b118.2.1) o159.1 a160 eF171), r174.dp eF171, ?_⟩
      refine ⟨_, rfl, ?_⟩
      exact ktb167.h _ _ gF171
    have eF168 := g170.s
    have gF168 := gF162.trans (g170.weak (by simp))
    replace o82 := g170.own (by first | exact List.not_mem_nil | (simp only [List.mem_cons, List.not_mem_nil, or_false, not_or]; (repeat' apply And.intro) <;> assumption)) o82.1 o82.2
    replace a83 := a83.up g170.f
    replace o159 := g170.own (by first | exact List.not_mem_nil | (simp only [List.mem_cons, List.not_mem_nil, or_false, not_or]; (repeat' apply And.intro) <;> assumption)) o159.1 o159.2
    replace a160 := a160.up g170.f
    replace w161 := w161.keep g170
    replace r165 := r165.up g170.f
    refine ifs_jM (M := [p1, ra]) (F := F168) (fun b176 F' H' σ' => ∃ (u4 : Option V) (u5 : Option V) (xs1 : List V), σ' = [some (V.ref ra), some (V.ref p1), some (V.ref p8), some (V.int b118.1), u4, u5] ∧ (H' p1 = some (.lst xs1) ∧ F' p1 = none) ∧ DqAll K F' xs1 (List.map (e2 PyData.int PyData.int) b176.1) ∧ RowAt K sc ra scr F' H' b176.2) k (fun _ nx kjb176 => ?_) (fun _ nx kjb176 => ?_) (fun b176 σ180 F177 H178 g179 i181 k => ?_)
    · have gF168_ := Gm.refl (M := [p1, ra]) eF168
      refine ⟨_, rfl, .inl ⟨rfl, _, sq_of o82.1⟩, _, rfl, _, rfl, ?_⟩
      refine ⟨F168, sc, ra, scr, b118.2.2, (20 : Int), rfl, eF168, w161, (post_bd kjb176).mono (fun b182 kjb176 v187 F183 H184 g185 ⟨r186, w188⟩ => ?_) (fun _ z => z)⟩
      have eF183 := g185.s
      have gF183 := gF168_.trans (g185.weak (by simp))
      replace o82 := g185.own (by first | exact List.not_mem_nil | (simp only [List.mem_cons, List.not_mem_nil, or_false, not_or]; (repeat' apply And.intro) <;> assumption)) o82.1 o82.2
      replace a83 := a83.up g185.f
      replace o159 := g185.own (by first | exact List.not_mem_nil | (simp only [List.mem_cons, List.not_mem_nil, or_false, not_or]; (repeat' apply And.intro) <;> assumption)) o159.1 o159.2
      replace a160 := a160.up g185.f
      replace r165 := r165.up g185.f
      subst r186
      refine ⟨_, _, rfl, rfl, ?_⟩
      show _ ∧ _
      refine new_tup (K := K) (M := []) eF183 (.cons (Dq.int b118.1) (.cons (Dq.int ((1 : Int) + b182.1)) .nil)) (by show 2 ≤ 100000; decide) fun v193 F189 H190 g191 r192 => ?_
      have eF189 := g191.s
      have gF189 := gF183.trans (g191.weak (by simp))
      replace o82 := g191.own (by first | exact List.not_mem_nil | (simp only [List.mem_cons, List.not_mem_nil, or_false, not_or]; (repeat' apply And.intro) <;> assumption)) o82.1 o82.2
      replace a83 := a83.up g191.f
      replace o159 := g191.own (by first | exact List.not_mem_nil | (simp only [List.mem_cons, List.not_mem_nil, or_false, not_or]; (repeat' apply And.intro) <;> assumption)) o159.1 o159.2
      replace a160 := a160.up g191.f
      replace r165 := r165.up g191.f
      replace w188 := w188.keep g191
      replace r192 : Dq K F189 v193 ((e2 PyData.int PyData.int) (b118.1, ((1 : Int) + b182.1))) := r192
      obtain ⟨h194, kjb176⟩ := post_guard kjb176
      refine ⟨_, _, _, rfl, rfl, o82.1, own_sz a83 h194, ?_⟩
      have g195 := gF189.putOr (o := .lst (xs81 ++ [v193])) (.inl (by simp)) o82.1 o82.2
      replace o159 : (upd H190 p1 (.lst (xs81 ++ [v193]))) p8 = _ ∧ _ := ⟨(upd_ne np8_p1).trans o159.1, o159.2⟩
      replace w188 := w188.put np1 (o := .lst (xs81 ++ [v193]))
      replace o82 : (upd H190 p1 (.lst (xs81 ++ [v193]))) p1 = some (.lst (xs81 ++ [v193])) ∧ F189 p1 = none := ⟨upd_same, o82.2⟩
      replace a83 : DqAll K F189 (xs81 ++ [v193]) (List.map (e2 PyData.int PyData.int) (b48.2.1 ++ [(b118.1, ((1 : Int) + b182.1))])) := by rw [List.map_append]; exact a83.app (.cons r192 .nil)
      have e196 := g195.s
      exact kjb176.h _ _ _ g195 ⟨_, _, _, rfl, o82, a83, w188⟩
    · have gF168_ := Gm.refl (M := [p1, ra]) eF168
      exact kjb176.h _ _ _ gF168_ ⟨_, _, _, rfl, o82, a83, w161⟩
    have hy198 : ∀ q ∈ [p1], q ∈ [ra] ∨ H q = none := by intro q hq; simp only [List.mem_cons, List.not_mem_nil, or_false] at hq; rcases hq with rfl; exact (.inr zp1)
    have g197 := Gm.outs [p1] hy198 gF168 (g179.weak (by simp))
    replace o159 := g179.own (by first | exact List.not_mem_nil | (simp only [List.mem_cons, List.not_mem_nil, or_false, not_or]; (repeat' apply And.intro) <;> assumption)) o159.1 o159.2
    replace a160 := a160.up g179.f
    replace r165 := r165.up g179.f
    have eF177 := g179.s
    obtain ⟨u199, u200, xs201, rfl, o202, a203, w204⟩ := i181
    refine ⟨_, rfl, ?_⟩
    refine to_VO (K := K) (M := []) eF177 o202.1 a203 (en := (e2 PyData.int PyData.int)) (l := b176.1) fun v209 F205 H206 g207 r208 => ?_
    have eF205 := g207.s
    have gF205 := g197.trans (g207.weak (by simp))
    replace o159 := g207.own (by first | exact List.not_mem_nil | (simp only [List.mem_cons, List.not_mem_nil, or_false, not_or]; (repeat' apply And.intro) <;> assumption)) o159.1 o159.2
    replace a160 := a160.up g207.f
    replace r165 := r165.up g207.f
    replace o202 := g207.own (by first | exact List.not_mem_nil | (simp only [List.mem_cons, List.not_mem_nil, or_false, not_or]; (repeat' apply And.intro) <;> assumption)) o202.1 o202.2
    replace a203 := a203.up g207.f
    replace w204 := w204.keep g207
    refine ⟨_, rfl, ?_⟩
    refine to_VO (K := K) (M := []) eF205 o159.1 a160 (en := (e3 PyData.int PyData.int PyData.int)) (l := b118.2.1) fun v214 F210 H211 g212 r213 => ?_
    have eF210 := g212.s
    have gF210 := gF205.trans (g212.weak (by simp))
    replace o159 := g212.own (by first | exact List.not_mem_nil | (simp only [List.mem_cons, List.not_mem_nil, or_false, not_or]; (repeat' apply And.intro) <;> assumption)) o159.1 o159.2
    replace a160 := a160.up g212.f
    replace r165 := r165.up g212.f
    replace o202 := g212.own (by first | exact List.not_mem_nil | (simp only [List.mem_cons, List.not_mem_nil, or_false, not_or]; (repeat' apply And.intro) <;> assumption)) o202.1 o202.2
    replace a203 := a203.up g212.f
    replace w204 := w204.keep g212
    replace r208 := r208.up g212.f
    refine make_W eF210 r208 r213 ((post_bd k).mono (fun b215 k v220 F216 H217 g218 r219 => ?_) (fun _ z => z))
    have eF216 := g218.s
    have gF216 := gF210.trans (g218.weak (by simp))
    replace o159 := g218.own (by first | exact List.not_mem_nil | (simp only [List.mem_cons, List.not_mem_nil, or_false, not_or]; (repeat' apply And.intro) <;> assumption)) o159.1 o159.2
    replace a160 := a160.up g218.f
    replace r165 := r165.up g218.f
    replace o202 := g218.own (by first | exact List.not_mem_nil | (simp only [List.mem_cons, List.not_mem_nil, or_false, not_or]; (repeat' apply And.intro) <;> assumption)) o202.1 o202.2
    replace a203 := a203.up g218.f
    replace w204 := w204.keep g218
    replace r208 := r208.up g218.f
    replace r213 := r213.up g218.f
    exact k.h _ _ _ gF216 ⟨r219, w204⟩
/-! ### _law_fractions -/
abbrev s_law_fractions : Stmt := top 39
theorem sc_law_fractions : FnScope ["_law_row", "_law_count", "_law_k"] ["_law_row", "_law_count"] (defScope s_law_fractions) := ⟨rfl, rfl, rfl, by decide +kernel, rfl, by decide +kernel, by decide +kernel⟩
def law_fractions (scr : List Int) (st : Rw) (law_count : Int) : Mm ((List (Int × Int)) × Rw) := (rangeM law_count).bd fun l2 => (guardM ((rangeL 0 law_count.toNat).length ≤ 50000)).bd fun _ => (mapSt (fun (st12 : Rw) (x5 : Int) => (takenB scr st12 ((41 : Int))).bd fun b24 => (takenB scr b24.2 ((5 : Int))).bd fun b36 => (getM [(1 : Int), (1 : Int), (2 : Int), (6 : Int), ((0 : Int) - (4 : Int))] b36.1).bd fun i47 => Mm.ok (((b24.1 - (20 : Int)), i47), b36.2)) st (rangeL 0 law_count.toNat)).bd fun b4 => Mm.ok (b4.1, b4.2)
def sp_law_fractions (K : PySem.W.Frag) : Sp := fun vs H Q E => ∃ (F : Hp) (sc ra : Addr) (scr : List Int) (st : Rw) (law_count : Int), vs = [.ref ra, (V.int law_count)] ∧ Ex F H ∧ RowAt K sc ra scr F H st ∧ Post (law_fractions scr st law_count) (fun r => Ret [ra] F H (fun F' H' v => Dq K F' v ((eV (e2 PyData.int PyData.int)) r.1) ∧ RowAt K sc ra scr F' H' r.2) Q) (fun _ => False)
theorem ok_law_fractions {P : Program} {w : World} {K : PySem.W.Frag} {mg : Str → Option Value} {base : Heap} {C f : Addr} {fd : FuncData} (B : Bi mg) (FF : FunD K "_law_fractions" "_law_fractions" (defArgs s_law_fractions) (defBody s_law_fractions) (defScope s_law_fractions) [] [] f fd) (G_law_taken : Kn P w K mg base "_law_taken" 1 ["_law_row", "_law_many"] (spTaken takenB K)) : FnOk P w K mg base CX0 2 f fd ["_law_row", "_law_count"] (sp_law_fractions K) := by
  refine FF.ok sc_law_fractions (fun vs H Q E h => ?_) (fun cdv A outer s H vs Q E hr h => ?_)
  · obtain ⟨F, sc, ra, scr, st, law_count, rfl, _⟩ := h; rfl
  · obtain ⟨F, sc, ra, scr, st, law_count, rfl, e, w, k⟩ := h
    unfold law_fractions at k
    have g_ := Gm.refl (M := [ra]) e
    refine ⟨_, PSs.nox (pss_one (ps_ret (pe_q (pe_callTy call_tuple_of (by rfl) B.tuple (by decide +kernel) (pa_cons (pe_q (pe_lc (own := [("_law_k", 2)]) (g := gName 2) rfl sc_law_fractions.nd (pi_range1 rfl B.range (pa_cons (pv 1) (pa_nil))) (blkOk_by (N := ["_law_row", "_law_count", "_law_k"]) (sc := defScope s_law_fractions) (by decide +kernel)) (fun _ _ _ _ _ => pg_name (i := 2) sc_law_fractions.nd rfl (Or.inl rfl)) (fun _ _ _ _ _ => pts_nil) (fun _ _ _ _ _ => pe_q (pe_tup (pa_cons (pe_op op_sub (pe_kn G_law_taken (hr.mono (by decide)) (pa_cons (pv 0) (pa_cons (pe_int) (pa_nil)))) (pe_int)) (pa_cons (pe_ix (r := rIxL K) ix_list (pe_q (pe_lst (pa_cons (pe_int) (pa_cons (pe_int) (pa_cons (pe_int) (pa_cons (pe_int) (pa_cons (pe_op op_sub (pe_int) (pe_int)) (pa_nil)))))))) (pe_kn G_law_taken (hr.mono (by decide)) (pa_cons (pv 0) (pa_cons (pe_int) (pa_nil)))) (fun _ _ => rfl)) (pa_nil))))))) pa_nil))))), ?_⟩
    refine ⟨_, rfl, ?_⟩
    obtain ⟨h1, k⟩ := post_range k
    refine ⟨_, rfl, h1.1, h1.2, ?_⟩
    obtain ⟨h22, k⟩ := post_guard k
    refine lc_st (K := K) wlk_range (e2 PyData.int PyData.int) k e h22 w (fun st12 x5 v20 F13 H14 F15 H16 g17 w21 g18 r19 Q' k3 => ?_) (fun _ z => z) (fun b4 v6 F7 H8 g9 ⟨r10, w11⟩ k => ?_) gm_name
    · have g23 := Gm.refl (M := [ra]) g17.s
      clear w
      replace w21 := w21.keep g18
      have eF15 := g18.s
      have gF15 := g23.trans (g18.weak (by simp))
      subst r19
      refine ⟨rfl, _, rfl, ?_⟩
      refine ⟨F15, sc, ra, scr, st12, (41 : Int), rfl, eF15, w21, (post_bd k3).mono (fun b24 k3 v29 F25 H26 g27 ⟨r28, w30⟩ => ?_) (fun _ z => z)⟩
      have eF25 := g27.s
      have gF25 := gF15.trans (g27.weak (by simp))
      subst r28
      refine ⟨_, _, rfl, rfl, _, _, rfl, rfl, ?_⟩
      show _ ∧ _
      refine new_lst (K := K) (M := []) eF25 (.cons (Dq.int (1 : Int)) (.cons (Dq.int (1 : Int)) (.cons (Dq.int (2 : Int)) (.cons (Dq.int (6 : Int)) (.cons (Dq.int ((0 : Int) - (4 : Int))) .nil))))) (by show 5 ≤ 100000; decide) fun v35 F31 H32 g33 r34 => ?_
      have eF31 := g33.s
      have gF31 := gF25.trans (g33.weak (by simp))
      replace w30 := w30.keep g33
      replace r34 : Dq K F31 v35 ((eL PyData.int) [(1 : Int), (1 : Int), (2 : Int), (6 : Int), ((0 : Int) - (4 : Int))]) := r34
      refine ⟨_, rfl, ?_⟩
      refine ⟨F31, sc, ra, scr, b24.2, (5 : Int), rfl, eF31, w30, (post_bd k3).mono (fun b36 k3 v41 F37 H38 g39 ⟨r40, w42⟩ => ?_) (fun _ z => z)⟩
      have eF37 := g39.s
      have gF37 := gF31.trans (g39.weak (by simp))
      replace r34 := r34.up g39.f
      subst r40
      obtain ⟨p43, xs44, rfl, s45, a46⟩ := dp_lst r34
      obtain ⟨i47, h48, k3⟩ := post_get k3
      obtain ⟨v49, h50, r51⟩ := dq_at a46 h48
      refine ⟨_, _, _, _, rfl, rfl, (sq_of (eF37 _ _ s45)), h50, ?_⟩
      obtain rfl := dp_int r51
      show _ ∧ _
      refine new_tup (K := K) (M := []) eF37 (.cons (Dq.int (b24.1 - (20 : Int))) (.cons (Dq.int i47) .nil)) (by show 2 ≤ 100000; decide) fun v56 F52 H53 g54 r55 => ?_
      have eF52 := g54.s
      have gF52 := gF37.trans (g54.weak (by simp))
      replace r34 := r34.up g54.f
      replace w42 := w42.keep g54
      replace s45 := g54.f _ _ s45
      replace a46 := a46.up g54.f
      replace r55 : Dq K F52 v56 ((e2 PyData.int PyData.int) ((b24.1 - (20 : Int)), i47)) := r55
      exact k3.h _ _ _ gF52 ⟨r55, w42⟩
    have eF7 := g9.s
    have gF7 := g_.trans (g9.weak (by simp))
    obtain ⟨p58, xs59, rfl, s60, a61⟩ := dp_lst r10
    refine to_VL (K := K) (M := []) eF7 s60 a61 (en := (e2 PyData.int PyData.int)) (l := b4.1) fun v66 F62 H63 g64 r65 => ?_
    have eF62 := g64.s
    have gF62 := gF7.trans (g64.weak (by simp))
    replace w11 := w11.keep g64
    replace r10 := r10.up g64.f
    replace s60 := g64.f _ _ s60
    replace a61 := a61.up g64.f
    exact k.h _ _ _ gF62 ⟨r65, w11⟩
/-! ### _law_number -/
abbrev s_law_number : Stmt := top 40
theorem sc_law_number : FnScope ["_law_one"] ["_law_one"] (defScope s_law_number) := ⟨rfl, rfl, rfl, by decide +kernel, rfl, by decide +kernel, by decide +kernel⟩
def law_number (law_one : (Int × Int)) : Mm (List Nat) := (cond (decide (law_one.2 = (1 : Int))) ((guardM (law_one.1.natAbs < 18446744073709551616)).bd fun _ => Mm.ok (intL law_one.1)) ((guardM (law_one.1.natAbs < 18446744073709551616)).bd fun _ => (guardM ((intL law_one.1).length + ([47] : List Nat).length ≤ 100000)).bd fun _ => (guardM (law_one.2.natAbs < 18446744073709551616)).bd fun _ => (guardM (((intL law_one.1) ++ ([47] : List Nat)).length + (intL law_one.2).length ≤ 100000)).bd fun _ => Mm.ok (((intL law_one.1) ++ ([47] : List Nat)) ++ (intL law_one.2)))).bd fun b12 => Mm.ok b12
def sp_law_number (K : PySem.W.Frag) : Sp := fun vs H Q E => ∃ (F : Hp) (v_law_one : V) (law_one : (Int × Int)), vs = [v_law_one] ∧ Ex F H ∧ Dq K F v_law_one ((e2 PyData.int PyData.int) law_one) ∧ Post (law_number law_one) (fun r => Ret [] F H (fun F' _ v => v = V.str (sT r)) Q) (fun _ => False)
theorem ok_law_number {P : Program} {w : World} {K : PySem.W.Frag} {mg : Str → Option Value} {base : Heap} {C f : Addr} {fd : FuncData} (B : Bi mg) (FF : FunD K "_law_number" "_law_number" (defArgs s_law_number) (defBody s_law_number) (defScope s_law_number) [] [] f fd) : FnOk P w K mg base CX0 1 f fd ["_law_one"] (sp_law_number K) := by
  refine FF.ok sc_law_number (fun vs H Q E h => ?_) (fun cdv A outer s H vs Q E hr h => ?_)
  · obtain ⟨F, v_law_one, law_one, rfl, _⟩ := h; rfl
  · obtain ⟨F, v_law_one, law_one, rfl, e, r_law_one, k⟩ := h
    unfold law_number at k
    have g_ := Gm.refl (M := []) e
    refine ⟨_, PSs.nox (pss_one (ps_ret (pe_ifExp (pt_cmpR op_eq (pe_ix (r := rIxT K) ix_tup (pv 0) (pe_int) (fun _ _ => rfl)) (pe_int) (nomark _)) (pe_callTy call_strT (by rfl) B.str (by decide +kernel) (pa_cons (pe_ix (r := rIxT K) ix_tup (pv 0) (pe_int) (fun _ _ => rfl)) pa_nil)) (pe_op op_addT (pe_op op_addT (pe_callTy call_strT (by rfl) B.str (by decide +kernel) (pa_cons (pe_ix (r := rIxT K) ix_tup (pv 0) (pe_int) (fun _ _ => rfl)) pa_nil)) (pe_txt (l := ([47] : List Nat)) (by decide +kernel))) (pe_callTy call_strT (by rfl) B.str (by decide +kernel) (pa_cons (pe_ix (r := rIxT K) ix_tup (pv 0) (pe_int) (fun _ _ => rfl)) pa_nil)))))), ?_⟩
    refine ⟨_, rfl, ?_⟩
    obtain ⟨p1, x2, x3, rfl, s4, d5, d6⟩ := dp_tup2 r_law_one
    obtain rfl := dp_int d5
    obtain rfl := dp_int d6
    refine ⟨_, _, _, _, rfl, rfl, ex_t e s4, rfl, rfl, ?_⟩
    rw [decV_int]
    refine ⟨_, rfl, ?_⟩
    refine if_jM (M := []) (F := F) (fun b F' H' v => v = V.str (sT b)) k (fun _ Q' kib12 => ?_) (fun _ Q' kib12 => ?_) (fun b12 v7 F8 H9 g10 r11 k => ?_)
    · have gF_ := Gm.refl (M := []) e
      refine ⟨_, rfl, ?_⟩
      refine ⟨_, _, _, _, rfl, rfl, ex_t e s4, rfl, ?_⟩
      obtain ⟨h14, kib12⟩ := post_guard kib12
      refine ⟨_, rfl, h14, ?_⟩
      exact kib12.h _ _ _ gF_ rfl
    · have gF_ := Gm.refl (M := []) e
      refine ⟨_, rfl, ?_⟩
      refine ⟨_, _, _, _, rfl, rfl, ex_t e s4, rfl, ?_⟩
      obtain ⟨h15, kib12⟩ := post_guard kib12
      refine ⟨_, rfl, h15, ?_⟩
      obtain ⟨h16, kib12⟩ := post_guard kib12
      refine ⟨_, _, rfl, rfl, h16, _, rfl, ?_⟩
      refine ⟨_, _, _, _, rfl, rfl, ex_t e s4, rfl, ?_⟩
      obtain ⟨h17, kib12⟩ := post_guard kib12
      refine ⟨_, rfl, h17, ?_⟩
      obtain ⟨h18, kib12⟩ := post_guard kib12
      refine ⟨_, _, rfl, rfl, h18, ?_⟩
      exact kib12.h _ _ _ gF_ rfl
    have eF8 := g10.s
    have gF8 := g_.trans (g10.weak (by simp))
    replace r_law_one := r_law_one.up g10.f
    replace s4 := ex_t g10.f s4
    subst r11
    exact k.h _ _ _ gF8 rfl
/-! ### _law_terms -/
abbrev s_law_terms : Stmt := top 41
theorem sc_law_terms : FnScope ["_law_low_here", "_law_text", "_law_k", "_law_power", "_law_top", "_law_bottom", "_law_size", "_law_letter", "_law_word"] ["_law_low_here"] (defScope s_law_terms) := ⟨rfl, rfl, rfl, by decide +kernel, rfl, by decide +kernel, by decide +kernel⟩
def law_terms (law_low_here : (List (Int × Int))) : Mm (List Nat) := (rangeM (law_low_here.length : Int)).bd fun l6 => (foldM (fun (b7 : (List Nat)) (x8 : Int) => (getM law_low_here (((law_low_here.length : Int) - (1 : Int)) - x8)).bd fun i32 => cond (!(decide (i32.1 = (0 : Int)))) ((law_number (((absI i32.1), i32.2))).bd fun b48 => (cond (decide ((((law_low_here.length : Int) - (1 : Int)) - x8) < (2 : Int))) ((getM [([] : List Nat), ([120] : List Nat)] (((law_low_here.length : Int) - (1 : Int)) - x8)).bd fun i71 => Mm.ok i71) ((guardM ((((law_low_here.length : Int) - (1 : Int)) - x8).natAbs < 18446744073709551616)).bd fun _ => (guardM (([120, 94] : List Nat).length + (intL (((law_low_here.length : Int) - (1 : Int)) - x8)).length ≤ 100000)).bd fun _ => Mm.ok (([120, 94] : List Nat) ++ (intL (((law_low_here.length : Int) - (1 : Int)) - x8))))).bd fun b60 => (cond ((decide (b48 = ([49] : List Nat))) && (decide ((((law_low_here.length : Int) - (1 : Int)) - x8) > (0 : Int)))) (Mm.ok b60) ((cond (decide ((((law_low_here.length : Int) - (1 : Int)) - x8) > (0 : Int))) ((guardM (b48.length + ([32] : List Nat).length ≤ 100000)).bd fun _ => (guardM ((b48 ++ ([32] : List Nat)).length + b60.length ≤ 100000)).bd fun _ => Mm.ok ((b48 ++ ([32] : List Nat)) ++ b60)) (Mm.ok b48)).bd fun b90 => Mm.ok b90)).bd fun b83 => cond (decide (b7 = ([] : List Nat))) ((cond (decide (i32.1 < (0 : Int))) (Mm.ok ([45] : List Nat)) (Mm.ok ([] : List Nat))).bd fun b99 => (guardM (b99.length + b83.length ≤ 100000)).bd fun _ => Mm.ok (b99 ++ b83)) ((cond (decide (i32.1 < (0 : Int))) (Mm.ok ([32, 45, 32] : List Nat)) (Mm.ok ([32, 43, 32] : List Nat))).bd fun b107 => (guardM (b7.length + b107.length ≤ 100000)).bd fun _ => (guardM ((b7 ++ b107).length + b83.length ≤ 100000)).bd fun _ => Mm.ok ((b7 ++ b107) ++ b83))) (Mm.ok b7)) ([] : List Nat) (rangeL 0 (law_low_here.length : Int).toNat)).bd fun b24 => (cond (!(decide (b24 = ([] : List Nat)))) (Mm.ok b24) (Mm.ok ([48] : List Nat))).bd fun b124 => Mm.ok b124
def sp_law_terms (K : PySem.W.Frag) : Sp := fun vs H Q E => ∃ (F : Hp) (v_law_low_here : V) (law_low_here : (List (Int × Int))), vs = [v_law_low_here] ∧ Ex F H ∧ Dq K F v_law_low_here ((eL (e2 PyData.int PyData.int)) law_low_here) ∧ Post (law_terms law_low_here) (fun r => Ret [] F H (fun F' _ v => v = V.str (sT r)) Q) (fun _ => False)
theorem ok_law_terms {P : Program} {w : World} {K : PySem.W.Frag} {mg : Str → Option Value} {base : Heap} {C f : Addr} {fd : FuncData} (B : Bi mg) (FF : FunD K "_law_terms" "_law_terms" (defArgs s_law_terms) (defBody s_law_terms) (defScope s_law_terms) [] [] f fd) (G_law_number : Kn P w K mg base "_law_number" 1 ["_law_one"] (sp_law_number K)) : FnOk P w K mg base CX0 2 f fd ["_law_low_here"] (sp_law_terms K) := by
  refine FF.ok sc_law_terms (fun vs H Q E h => ?_) (fun cdv A outer s H vs Q E hr h => ?_)
  · obtain ⟨F, v_law_low_here, law_low_here, rfl, _⟩ := h; rfl
  · obtain ⟨F, v_law_low_here, law_low_here, rfl, e, r_law_low_here, k⟩ := h
    unfold law_terms at k
    have g_ := Gm.refl (M := []) e
    refine ⟨_, PSs.nox (pss_cons (ps_set (i := 1) sc_law_terms.nd rfl (Or.inl rfl) (pe_txt (l := ([] : List Nat)) (by decide +kernel))) (pss_cons (ps_for PassesOwn.never rfl (pi_range1 rfl B.range (pa_cons (pe_callB call_lenM (by rfl) B.len (by decide +kernel) (pa_cons (pv 0) pa_nil)) (pa_nil))) (pg_name (i := 2) sc_law_terms.nd rfl (Or.inl rfl)) (pss_cons (ps_set (i := 3) sc_law_terms.nd rfl (Or.inl rfl) (pe_op op_sub (pe_op op_sub (pe_callB call_lenM (by rfl) B.len (by decide +kernel) (pa_cons (pv 0) pa_nil)) (pe_int)) (pv 2))) (pss_cons (ps_asg (pe_ix (r := rIxL K) ix_list (pv 0) (pv 3) (fun _ _ => rfl)) (pg_tup (by rfl) (pgs_cons (pg_name (i := 4) sc_law_terms.nd rfl (Or.inl rfl)) (pgs_cons (pg_name (i := 5) sc_law_terms.nd rfl (Or.inl rfl)) (pgs_nil))))) (pss_one (ps_if (pt_cmpR op_ne (pv 4) (pe_int) (nomark _)) (pss_cons (ps_set (i := 6) sc_law_terms.nd rfl (Or.inl rfl) (pe_kn G_law_number (hr.mono (by decide)) (pa_cons (pe_q (pe_tup (pa_cons (pe_callB call_abs (by rfl) B.abs (by decide +kernel) (pa_cons (pv 4) pa_nil)) (pa_cons (pv 5) (pa_nil))))) (pa_nil)))) (pss_cons (ps_set (i := 7) sc_law_terms.nd rfl (Or.inl rfl) (pe_ifExp (pt_cmpR op_lt (pv 3) (pe_int) (nomark _)) (pe_ix (r := rIxL K) ix_list (pe_q (pe_lst (pa_cons (pe_txt (l := ([] : List Nat)) (by decide +kernel)) (pa_cons (pe_txt (l := ([120] : List Nat)) (by decide +kernel)) (pa_nil))))) (pv 3) (fun _ _ => rfl)) (pe_op op_addT (pe_txt (l := ([120, 94] : List Nat)) (by decide +kernel)) (pe_callTy call_strT (by rfl) B.str (by decide +kernel) (pa_cons (pv 3) pa_nil))))) (pss_cons (ps_set (i := 8) sc_law_terms.nd rfl (Or.inl rfl) (pe_ifExp (PW.pt (pw_and (pt_cmpR op_eq (pv 6) (pe_txt (l := ([49] : List Nat)) (by decide +kernel)) (nomark _)) (pw_and1 (pt_cmpR op_gt (pv 3) (pe_int) (nomark _))))) (pv 7) (pe_ifExp (pt_cmpR op_gt (pv 3) (pe_int) (nomark _)) (pe_op op_addT (pe_op op_addT (pv 6) (pe_txt (l := ([32] : List Nat)) (by decide +kernel))) (pv 7)) (pv 6)))) (pss_one (ps_if (pt_cmpR op_eq (pv 1) (pe_txt (l := ([] : List Nat)) (by decide +kernel)) (nomark _)) (pss_one (ps_set (i := 1) sc_law_terms.nd rfl (Or.inl rfl) (pe_op op_addT (pe_ifExp (pt_cmpR op_lt (pv 4) (pe_int) (nomark _)) (pe_txt (l := ([45] : List Nat)) (by decide +kernel)) (pe_txt (l := ([] : List Nat)) (by decide +kernel))) (pv 8)))) (pss_one (ps_set (i := 1) sc_law_terms.nd rfl (Or.inl rfl) (pe_op op_addT (pe_op op_addT (pv 1) (pe_ifExp (pt_cmpR op_lt (pv 4) (pe_int) (nomark _)) (pe_txt (l := ([32, 45, 32] : List Nat)) (by decide +kernel)) (pe_txt (l := ([32, 43, 32] : List Nat)) (by decide +kernel)))) (pv 8))))))))) (pss_nil)))))) (pss_one (ps_ret (pe_ifExp (pt_cmpR op_ne (pv 1) (pe_txt (l := ([] : List Nat)) (by decide +kernel)) (nomark _)) (pv 1) (pe_txt (l := ([48] : List Nat)) (by decide +kernel))))))), ?_⟩
    refine ⟨_, rfl, ?_⟩
    obtain ⟨p1, xs2, rfl, s3, a4⟩ := dp_lst r_law_low_here
    refine ⟨_, _, _, rfl, .inl (sq_of (e _ _ s3)), len_all a4, ?_⟩
    obtain ⟨h5, k⟩ := post_range k
    refine ⟨_, rfl, h5.1, h5.2, ?_⟩
    refine for_m (M := []) (F := F) wlk_range (fun b7 F' H' σ' => ∃ (u2 : Option V) (u3 : Option V) (u4 : Option V) (u5 : Option V) (u6 : Option V) (u7 : Option V) (u8 : Option V), σ' = [some (V.ref p1), some (V.str (sT b7)), u2, u3, u4, u5, u6, u7, u8]) k e ⟨_, _, _, _, _, _, _, rfl⟩ (fun b7 x8 v16 σ18 F9 H10 F11 H12 g13 i17 g14 r15 nx kfb7 => ?_) (fun b24 σ23 F19 H20 g21 i22 k => ?_)
    · replace r_law_low_here := r_law_low_here.up g13.f
      replace s3 := g13.f _ _ s3
      replace a4 := a4.up g13.f
      obtain ⟨u25, u26, u27, u28, u29, u30, u31, rfl⟩ := i17
      replace r_law_low_here := r_law_low_here.up g14.f
      replace s3 := g14.f _ _ s3
      replace a4 := a4.up g14.f
      have eF11 := g14.s
      have gF11 := g13.trans (g14.weak (by simp))
      subst r15
      refine ⟨_, rfl, ?_⟩
      refine ⟨_, _, _, rfl, .inl (sq_of (eF11 _ _ s3)), len_all a4, _, _, rfl, rfl, _, rfl, _, _, rfl, rfl, ?_⟩
      refine ⟨_, rfl, _, rfl, ?_⟩
      obtain ⟨i32, h33, kfb7⟩ := post_get kfb7
      obtain ⟨v34, h35, r36⟩ := dq_at a4 h33
      refine ⟨_, _, _, _, rfl, rfl, (sq_of (eF11 _ _ s3)), h35, ?_⟩
      obtain ⟨p37, x38, x39, rfl, s40, d41, d42⟩ := dp_tup2 r36
      obtain rfl := dp_int d41
      obtain rfl := dp_int d42
      refine ⟨_, _, rfl, ex_t eF11 s40, rfl, _, _, rfl, _, _, rfl, rfl, ?_⟩
      refine ⟨_, rfl, rfl, ?_⟩
      rw [decV_int]
      refine ⟨_, rfl, ?_⟩
      refine cs kfb7 (fun _ kfb7 => ?_) (fun _ kfb7 => ?_)
      · refine ⟨_, rfl, _, rfl, _, rfl, ?_⟩
        show _ ∧ _
        refine new_tup (K := K) (M := []) eF11 (.cons (Dq.int (absI i32.1)) (.cons (Dq.int i32.2) .nil)) (by show 2 ≤ 100000; decide) fun v47 F43 H44 g45 r46 => ?_
        have eF43 := g45.s
        have gF43 := gF11.trans (g45.weak (by simp))
        replace r_law_low_here := r_law_low_here.up g45.f
        replace s3 := g45.f _ _ s3
        replace a4 := a4.up g45.f
        replace r36 := r36.up g45.f
        replace s40 := ex_t g45.f s40
        replace r46 : Dq K F43 v47 ((e2 PyData.int PyData.int) ((absI i32.1), i32.2)) := r46
        refine ⟨F43, _, ((absI i32.1), i32.2), rfl, eF43, r46, (post_bd kfb7).mono (fun b48 kfb7 v53 F49 H50 g51 r52 => ?_) (fun _ z => z)⟩
        have eF49 := g51.s
        have gF49 := gF43.trans (g51.weak (by simp))
        replace r_law_low_here := r_law_low_here.up g51.f
        replace s3 := g51.f _ _ s3
        replace a4 := a4.up g51.f
        replace r36 := r36.up g51.f
        replace s40 := ex_t g51.f s40
        replace r46 := r46.up g51.f
        subst r52
        refine ⟨_, rfl, _, _, rfl, rfl, _, rfl, ?_⟩
        refine if_jM (M := []) (F := F49) (fun b F' H' v => v = V.str (sT b)) kfb7 (fun _ Q' kfb7ib60 => ?_) (fun _ Q' kfb7ib60 => ?_) (fun b60 v55 F56 H57 g58 r59 kfb7 => ?_)
        · have gF49_ := Gm.refl (M := []) eF49
          show _ ∧ _
          refine new_lst (K := K) (M := []) eF49 (.cons (Dq.str (sT ([] : List Nat))) (.cons (Dq.str (sT ([120] : List Nat))) .nil)) (by show 2 ≤ 100000; decide) fun v66 F62 H63 g64 r65 => ?_
          have eF62 := g64.s
          have gF62 := gF49_.trans (g64.weak (by simp))
          replace r_law_low_here := r_law_low_here.up g64.f
          replace s3 := g64.f _ _ s3
          replace a4 := a4.up g64.f
          replace r36 := r36.up g64.f
          replace s40 := ex_t g64.f s40
          replace r46 := r46.up g64.f
          replace r65 : Dq K F62 v66 ((eL eT) [([] : List Nat), ([120] : List Nat)]) := r65
          refine ⟨_, rfl, ?_⟩
          obtain ⟨p67, xs68, rfl, s69, a70⟩ := dp_lst r65
          obtain ⟨i71, h72, kfb7ib60⟩ := post_get kfb7ib60
          obtain ⟨v73, h74, r75⟩ := dq_at a70 h72
          refine ⟨_, _, _, _, rfl, rfl, (sq_of (eF62 _ _ s69)), h74, ?_⟩
          obtain rfl := dp_str r75
          exact kfb7ib60.h _ _ _ gF62 rfl
        · have gF49_ := Gm.refl (M := []) eF49
          refine ⟨_, rfl, ?_⟩
          obtain ⟨h76, kfb7ib60⟩ := post_guard kfb7ib60
          refine ⟨_, rfl, h76, ?_⟩
          obtain ⟨h77, kfb7ib60⟩ := post_guard kfb7ib60
          refine ⟨_, _, rfl, rfl, h77, ?_⟩
          exact kfb7ib60.h _ _ _ gF49_ rfl
        have eF56 := g58.s
        have gF56 := gF49.trans (g58.weak (by simp))
        replace r_law_low_here := r_law_low_here.up g58.f
        replace s3 := g58.f _ _ s3
        replace a4 := a4.up g58.f
        replace r36 := r36.up g58.f
        replace s40 := ex_t g58.f s40
        replace r46 := r46.up g58.f
        subst r59
        refine ⟨_, rfl, rfl, ?_⟩
        rw [decV_txt]
        refine ⟨_, rfl, ?_⟩
        refine and_j (b := (decide ((((law_low_here.length : Int) - (1 : Int)) - x8) > (0 : Int)))) (fun _ Q' q => ?_) ?_
        · refine ⟨_, rfl, _, _, rfl, rfl, _, rfl, ?_⟩
          exact q
        refine if_jM (M := []) (F := F56) (fun b F' H' v => v = V.str (sT b)) kfb7 (fun _ Q' kfb7ib83 => ?_) (fun _ Q' kfb7ib83 => ?_) (fun b83 v78 F79 H80 g81 r82 kfb7 => ?_)
        · have gF56_ := Gm.refl (M := []) eF56
          refine ⟨_, rfl, ?_⟩
          exact kfb7ib83.h _ _ _ gF56_ rfl
        · have gF56_ := Gm.refl (M := []) eF56
          refine ⟨_, rfl, _, _, rfl, rfl, _, rfl, ?_⟩
          refine if_jM (M := []) (F := F56) (fun b F' H' v => v = V.str (sT b)) kfb7ib83 (fun _ Q' kfb7ib83ib90 => ?_) (fun _ Q' kfb7ib83ib90 => ?_) (fun b90 v85 F86 H87 g88 r89 kfb7ib83 => ?_)
          · have gF56_ := Gm.refl (M := []) eF56
            refine ⟨_, rfl, ?_⟩
            obtain ⟨h92, kfb7ib83ib90⟩ := post_guard kfb7ib83ib90
            refine ⟨_, _, rfl, rfl, h92, _, rfl, ?_⟩
            obtain ⟨h93, kfb7ib83ib90⟩ := post_guard kfb7ib83ib90
            refine ⟨_, _, rfl, rfl, h93, ?_⟩
            exact kfb7ib83ib90.h _ _ _ gF56_ rfl
          · have gF56_ := Gm.refl (M := []) eF56
            refine ⟨_, rfl, ?_⟩
            exact kfb7ib83ib90.h _ _ _ gF56_ rfl
          have eF86 := g88.s
          have gF86 := gF56_.trans (g88.weak (by simp))
          replace r_law_low_here := r_law_low_here.up g88.f
          replace s3 := g88.f _ _ s3
          replace a4 := a4.up g88.f
          replace r36 := r36.up g88.f
          replace s40 := ex_t g88.f s40
          replace r46 := r46.up g88.f
          subst r89
          exact kfb7ib83.h _ _ _ gF86 rfl
        have eF79 := g81.s
        have gF79 := gF56.trans (g81.weak (by simp))
        replace r_law_low_here := r_law_low_here.up g81.f
        replace s3 := g81.f _ _ s3
        replace a4 := a4.up g81.f
        replace r36 := r36.up g81.f
        replace s40 := ex_t g81.f s40
        replace r46 := r46.up g81.f
        subst r82
        refine ⟨_, rfl, rfl, ?_⟩
        rw [decV_txt]
        refine ⟨_, rfl, ?_⟩
        refine cs kfb7 (fun _ kfb7 => ?_) (fun _ kfb7 => ?_)
        · refine ⟨_, rfl, _, _, rfl, rfl, _, rfl, ?_⟩
          refine if_jM (M := []) (F := F79) (fun b F' H' v => v = V.str (sT b)) kfb7 (fun _ Q' kfb7ib99 => ?_) (fun _ Q' kfb7ib99 => ?_) (fun b99 v94 F95 H96 g97 r98 kfb7 => ?_)
          · have gF79_ := Gm.refl (M := []) eF79
            exact kfb7ib99.h _ _ _ gF79_ rfl
          · have gF79_ := Gm.refl (M := []) eF79
            exact kfb7ib99.h _ _ _ gF79_ rfl
          have eF95 := g97.s
          have gF95 := gF79.trans (g97.weak (by simp))
          replace r_law_low_here := r_law_low_here.up g97.f
          replace s3 := g97.f _ _ s3
          replace a4 := a4.up g97.f
          replace r36 := r36.up g97.f
          replace s40 := ex_t g97.f s40
          replace r46 := r46.up g97.f
          subst r98
          refine ⟨_, rfl, ?_⟩
          obtain ⟨h101, kfb7⟩ := post_guard kfb7
          refine ⟨_, _, rfl, rfl, h101, ?_⟩
          exact kfb7.h _ _ _ gF95 ⟨_, _, _, _, _, _, _, rfl⟩
        · refine ⟨_, rfl, _, rfl, _, _, rfl, rfl, _, rfl, ?_⟩
          refine if_jM (M := []) (F := F79) (fun b F' H' v => v = V.str (sT b)) kfb7 (fun _ Q' kfb7ib107 => ?_) (fun _ Q' kfb7ib107 => ?_) (fun b107 v102 F103 H104 g105 r106 kfb7 => ?_)
          · have gF79_ := Gm.refl (M := []) eF79
            exact kfb7ib107.h _ _ _ gF79_ rfl
          · have gF79_ := Gm.refl (M := []) eF79
            exact kfb7ib107.h _ _ _ gF79_ rfl
          have eF103 := g105.s
          have gF103 := gF79.trans (g105.weak (by simp))
          replace r_law_low_here := r_law_low_here.up g105.f
          replace s3 := g105.f _ _ s3
          replace a4 := a4.up g105.f
          replace r36 := r36.up g105.f
          replace s40 := ex_t g105.f s40
          replace r46 := r46.up g105.f
          subst r106
          obtain ⟨h109, kfb7⟩ := post_guard kfb7
          refine ⟨_, _, rfl, rfl, h109, _, rfl, ?_⟩
          obtain ⟨h110, kfb7⟩ := post_guard kfb7
          refine ⟨_, _, rfl, rfl, h110, ?_⟩
          exact kfb7.h _ _ _ gF103 ⟨_, _, _, _, _, _, _, rfl⟩
      · exact kfb7.h _ _ _ gF11 ⟨_, _, _, _, _, _, _, rfl⟩
    have g111 := g_.trans (g21.weak (by simp))
    replace r_law_low_here := r_law_low_here.up g21.f
    replace s3 := g21.f _ _ s3
    replace a4 := a4.up g21.f
    have eF19 := g21.s
    obtain ⟨u112, u113, u114, u115, u116, u117, u118, rfl⟩ := i22
    refine ⟨_, rfl, rfl, ?_⟩
    rw [decV_txt]
    refine ⟨_, rfl, ?_⟩
    refine if_jM (M := []) (F := F19) (fun b F' H' v => v = V.str (sT b)) k (fun _ Q' kib124 => ?_) (fun _ Q' kib124 => ?_) (fun b124 v119 F120 H121 g122 r123 k => ?_)
    · have gF19_ := Gm.refl (M := []) eF19
      refine ⟨_, rfl, ?_⟩
      exact kib124.h _ _ _ gF19_ rfl
    · have gF19_ := Gm.refl (M := []) eF19
      exact kib124.h _ _ _ gF19_ rfl
    have eF120 := g122.s
    have gF120 := g111.trans (g122.weak (by simp))
    replace r_law_low_here := r_law_low_here.up g122.f
    replace s3 := g122.f _ _ s3
    replace a4 := a4.up g122.f
    subst r123
    exact k.h _ _ _ gF120 rfl
/-! ### law -/
abbrev s_law : Stmt := top 42
theorem sc_law : FnScope ["_law_script", "_law_row", "_law_turn", "_law_some", "_law_k", "_law_pick", "_law_low_here", "_law_weighting_here", "_law_rows", "_law_text", "_law_one", "_law_word"] ["_law_script"] (defScope s_law) := ⟨rfl, rfl, rfl, by decide +kernel, rfl, by decide +kernel, by decide +kernel⟩
def law (scr : List Int) : Mm Bool := (rangeM (5 : Int)).bd fun l2 => (foldL (R := Bool) (fun (b3 : Rw) (x4 : Int) => (takenB scr b3 ((7 : Int))).bd fun b32 => (law_fractions scr b32.2 (b32.1)).bd fun b39 => (rangeM (b39.1.length : Int)).bd fun l57 => (foldM (fun (b58 : ((List (Int × Int)) × Rw)) (x59 : Int) => (takenB scr b58.2 ((5 : Int))).bd fun b88 => (cond (decide (b88.1 > (2 : Int))) ((getM b58.1 x59).bd fun i102 => Mm.ok i102) ((getM [((0 : Int), (3 : Int)), ((2 : Int), (2 : Int)), (((0 : Int) - (3 : Int)), (3 : Int))] b88.1).bd fun i131 => Mm.ok i131)).bd fun b100 => (setM b58.1 x59 b100).bd fun m136 => Mm.ok (m136, b88.2)) (b39.1, b39.2) (rangeL 0 (b39.1.length : Int).toNat)).bd fun b75 => (guardM (b75.1.length ≤ 50000)).bd fun _ => (mapMm (fun (x164 : (Int × Int)) => (law_low (x164.1) (x164.2)).bd fun b189 => Mm.ok b189) b75.1).bd fun b163 => (guardM (b75.1.length ≤ 50000)).bd fun _ => (mapMm (fun (x199 : (Int × Int)) => (fraction_text (x199)).bd fun b218 => Mm.ok b218) b75.1).bd fun b198 => (guardM (b163.length ≤ 50000)).bd fun _ => (mapMm (fun (x232 : (Int × Int)) => (law_number (x232)).bd fun b251 => Mm.ok b251) b163).bd fun b231 => (guardM (SeqAt.shaped ((eL eT) b198) = true ∧ SeqAt.shaped ((eL eT) b231) = true)).bd fun _ => cond (!(PyData.eqv ((eL eT) b198) ((eL eT) b231))) (Mm.ok (Fl.ret false)) ((polynomial_text (b75.1)).bd fun b265 => (law_terms (b163)).bd fun b272 => cond (!(decide (b265 = b272))) (Mm.ok (Fl.ret false)) ((law_weighting scr b75.2).bd fun b279 => (guardM (b279.1.1.length ≤ 50000)).bd fun _ => (mapMm (fun (x299 : (Int × Int)) => (guardM ((List.map eT [([109, 97, 115, 115] : List Nat)]).length + (List.map PyData.int [x299.1, x299.2]).length ≤ 100000)).bd fun _ => Mm.ok ((List.map eT [([109, 97, 115, 115] : List Nat)]) ++ (List.map PyData.int [x299.1, x299.2]))) b279.1.1).bd fun b298 => (guardM (b279.1.2.length ≤ 50000)).bd fun _ => (mapMm (fun (x355 : (Int × Int × Int)) => (guardM ((List.map eT [([115, 116, 114, 101, 116, 99, 104] : List Nat)]).length + (List.map PyData.int [x355.1, x355.2.1, x355.2.2]).length ≤ 100000)).bd fun _ => Mm.ok ((List.map eT [([115, 116, 114, 101, 116, 99, 104] : List Nat)]) ++ (List.map PyData.int [x355.1, x355.2.1, x355.2.2]))) b279.1.2).bd fun b354 => (guardM (b298.length + b354.length ≤ 100000)).bd fun _ => (guardM ((b298 ++ b354).length ≤ 50000)).bd fun _ => (mapMm (fun (x426 : (List PyData)) => (guardM (x426.length ≤ 50000)).bd fun _ => (mapMm (fun (x451 : PyData) => (strD x451).bd fun l470 => Mm.ok l470) x426).bd fun b450 => (guardM (joinC ([32] : List Nat) b450)).bd fun _ => Mm.ok (joinT ([32] : List Nat) b450)) (b298 ++ b354)).bd fun b425 => (guardM (joinC ([10] : List Nat) b425)).bd fun _ => (format_weighting (b279.1)).bd fun b486 => (cond (!(decide (b486 = (joinT ([10] : List Nat) b425)))) (Mm.ok true) ((parse_weighting ((joinT ([10] : List Nat) b425))).bd fun b497 => (Weighting___eq__ b497 b279.1).bd fun b511 => Mm.ok (!b511))).bd fun b493 => cond b493 (Mm.ok (Fl.ret false)) (Mm.ok (Fl.go b279.2))))) (Rw.mk 0 0 0) (rangeL 0 (5 : Int).toNat)).bd fun o => o.el (fun b20 => (polynomial_text ([])).bd fun b534 => cond (decide (b534 = ([48] : List Nat))) ((polynomial_text ([((0 : Int), (1 : Int)), (((0 : Int) - (1 : Int)), (1 : Int)), ((1 : Int), (1 : Int)), ((0 : Int), (1 : Int))])).bd fun b566 => Mm.ok (decide (b566 = ([120, 94, 50, 32, 45, 32, 120] : List Nat)))) (Mm.ok false)) (fun r => Mm.ok r)
def sp_law (K : PySem.W.Frag) : Sp := fun vs H Q _ => ∃ (sc : Addr) (scr : List Int), vs = [.ref sc] ∧ SqL K H sc (scr.map V.int) ∧ Post (law scr) (fun r => ∀ H', Q (.bl r) H') (fun _ => False)
theorem ok_law {P : Program} {w : World} {K : PySem.W.Frag} {mg : Str → Option Value} {base : Heap} {C f : Addr} {fd : FuncData} (B : Bi mg) (FF : FunD K "law" "law" (defArgs s_law) (defBody s_law) (defScope s_law) [] [] f fd) (G_law_fractions : Kn P w K mg base "_law_fractions" 2 ["_law_row", "_law_count"] (sp_law_fractions K)) (G_law_taken : Kn P w K mg base "_law_taken" 1 ["_law_row", "_law_many"] (spTaken takenB K)) (G_law_low : Kn P w K mg base "_law_low" 1 ["_law_top", "_law_bottom"] (sp_law_low K)) (G_fraction_text : Kn P w K mg base "fraction_text" 3 ["fraction"] (sp_fraction_text K)) (G_law_number : Kn P w K mg base "_law_number" 1 ["_law_one"] (sp_law_number K)) (G_polynomial_text : Kn P w K mg base "polynomial_text" 5 ["polynomial"] (sp_polynomial_text K)) (G_law_terms : Kn P w K mg base "_law_terms" 2 ["_law_low_here"] (sp_law_terms K)) (G_law_weighting : Kn P w K mg base "_law_weighting" 6 ["_law_row"] (sp_law_weighting K C)) (G_format_weighting : Kn P w K mg base "format_weighting" 3 ["weighting"] (sp_format_weighting K C)) (G_parse_weighting : Kn P w K mg base "parse_weighting" 6 ["text"] (sp_parse_weighting K C)) (GE_W : KnE P w K mg base C 1 ["self", "other"] (sp_Weighting___eq__ K C)) (GP_masses : KnP P w K mg base C "masses" "_masses") (GP_stretches : KnP P w K mg base C "stretches" "_stretches") : FnOk P w K mg base CX0 7 f fd ["_law_script"] (sp_law K) := by
  refine FF.ok sc_law (fun vs H Q E h => ?_) (fun cdv A outer s H vs Q E hr h => ?_)
  · obtain ⟨sc, scr, rfl, _⟩ := h; rfl
  · obtain ⟨sc, scr, rfl, hs, k⟩ := h
    unfold law at k
    refine ⟨_, PSs.nox (pss_cons (ps_set (i := 1) sc_law.nd rfl (Or.inl rfl) (pe_q (pe_lst (pa_cons (pv 0) (pa_cons pe_int (pa_cons pe_int (pa_cons pe_int pa_nil))))))) (pss_cons (ps_for PassesOwn.never rfl (pi_range1 rfl B.range (pa_cons (pe_int) (pa_nil))) (pg_name (i := 2) sc_law.nd rfl (Or.inl rfl)) (pss_cons (ps_set (i := 3) sc_law.nd rfl (Or.inl rfl) (pe_q (pe_callTy call_list_of (by rfl) B.list (by decide +kernel) (pa_cons (pe_kn G_law_fractions (hr.mono (by decide)) (pa_cons (pv 1) (pa_cons (pe_kn G_law_taken (hr.mono (by decide)) (pa_cons (pv 1) (pa_cons (pe_int) (pa_nil)))) (pa_nil)))) pa_nil)))) (pss_cons (ps_for PassesOwn.never rfl (pi_range1 rfl B.range (pa_cons (pe_callB call_lenM (by rfl) B.len (by decide +kernel) (pa_cons (pv 3) pa_nil)) (pa_nil))) (pg_name (i := 4) sc_law.nd rfl (Or.inl rfl)) (pss_cons (ps_set (i := 5) sc_law.nd rfl (Or.inl rfl) (pe_kn G_law_taken (hr.mono (by decide)) (pa_cons (pv 1) (pa_cons (pe_int) (pa_nil))))) (pss_one (ps_asg (pe_ifExp (pt_cmpR op_gt (pv 5) (pe_int) (nomark _)) (pe_ix (r := rIxL K) ix_list (pv 3) (pv 4) (fun _ _ => rfl)) (pe_ix (r := rIxL K) ix_list (pe_q (pe_lst (pa_cons (pe_q (pe_tup (pa_cons (pe_int) (pa_cons (pe_int) (pa_nil))))) (pa_cons (pe_q (pe_tup (pa_cons (pe_int) (pa_cons (pe_int) (pa_nil))))) (pa_cons (pe_q (pe_tup (pa_cons (pe_op op_sub (pe_int) (pe_int)) (pa_cons (pe_int) (pa_nil))))) (pa_nil)))))) (pv 5) (fun _ _ => rfl))) (pg_sub (pv 3) (pv 4) set_list))))) (pss_cons (ps_q (ps_setLc (i := 6) (own := [("_law_one", 10)]) (g := gName 10) rfl sc_law.nd rfl rfl (sw_true rfl rfl rfl (by decide +kernel)) (pi_list (pv 3)) (blkOk_by (N := ["_law_script", "_law_row", "_law_turn", "_law_some", "_law_k", "_law_pick", "_law_low_here", "_law_weighting_here", "_law_rows", "_law_text", "_law_one", "_law_word"]) (sc := defScope s_law) (by decide +kernel)) (fun _ _ _ _ _ => pg_name (i := 10) sc_law.nd rfl (Or.inl rfl)) (fun _ _ _ _ _ => pts_nil) (fun _ _ _ _ _ => pe_kn G_law_low (hr.mono (by decide)) (pa_cons (pe_ix (r := rIxT K) ix_tup (pv 10) (pe_int) (fun _ _ => rfl)) (pa_cons (pe_ix (r := rIxT K) ix_tup (pv 10) (pe_int) (fun _ _ => rfl)) (pa_nil)))))) (pss_cons (ps_if (pt_cmpR (op_neD (units_of hr)) (pe_q (pe_lc (own := [("_law_one", 10)]) (g := gName 10) rfl sc_law.nd (pi_list (pv 3)) (blkOk_by (N := ["_law_script", "_law_row", "_law_turn", "_law_some", "_law_k", "_law_pick", "_law_low_here", "_law_weighting_here", "_law_rows", "_law_text", "_law_one", "_law_word"]) (sc := defScope s_law) (by decide +kernel)) (fun _ _ _ _ _ => pg_name (i := 10) sc_law.nd rfl (Or.inl rfl)) (fun _ _ _ _ _ => pts_nil) (fun _ _ _ _ _ => pe_kn G_fraction_text (hr.mono (by decide)) (pa_cons (pv 10) (pa_nil))))) (pe_q (pe_lc (own := [("_law_one", 10)]) (g := gName 10) rfl sc_law.nd (pi_list (pv 6)) (blkOk_by (N := ["_law_script", "_law_row", "_law_turn", "_law_some", "_law_k", "_law_pick", "_law_low_here", "_law_weighting_here", "_law_rows", "_law_text", "_law_one", "_law_word"]) (sc := defScope s_law) (by decide +kernel)) (fun _ _ _ _ _ => pg_name (i := 10) sc_law.nd rfl (Or.inl rfl)) (fun _ _ _ _ _ => pts_nil) (fun _ _ _ _ _ => pe_kn G_law_number (hr.mono (by decide)) (pa_cons (pv 10) (pa_nil))))) (nomark _)) (pss_one (ps_ret (pe_bl))) pss_nil) (pss_cons (ps_if (pt_cmpR op_ne (pe_kn G_polynomial_text (hr.mono (by decide)) (pa_cons (pe_q (pe_callTy call_tuple_of (by rfl) B.tuple (by decide +kernel) (pa_cons (pv 3) pa_nil))) (pa_nil))) (pe_kn G_law_terms (hr.mono (by decide)) (pa_cons (pv 6) (pa_nil))) (nomark _)) (pss_one (ps_ret (pe_bl))) pss_nil) (pss_cons (ps_set (i := 7) sc_law.nd rfl (Or.inl rfl) (pe_kn G_law_weighting (hr.mono (by decide)) (pa_cons (pv 1) (pa_nil)))) (pss_cons (ps_q (ps_setLc (i := 8) (own := [("_law_one", 10)]) (g := gName 10) rfl sc_law.nd rfl rfl (sw_true rfl rfl rfl (by decide +kernel)) (pi_tup (pe_propK GP_masses (hr.mono (by decide)) (pv 7))) (blkOk_by (N := ["_law_script", "_law_row", "_law_turn", "_law_some", "_law_k", "_law_pick", "_law_low_here", "_law_weighting_here", "_law_rows", "_law_text", "_law_one", "_law_word"]) (sc := defScope s_law) (by decide +kernel)) (fun _ _ _ _ _ => pg_name (i := 10) sc_law.nd rfl (Or.inl rfl)) (fun _ _ _ _ _ => pts_nil) (fun _ _ _ _ _ => pe_q (pe_op op_cat (pe_q (pe_lst (pa_cons (pe_txt (l := ([109, 97, 115, 115] : List Nat)) (by decide +kernel)) (pa_nil)))) (pe_q (pe_callTy (call_list_ofK K) (by rfl) B.list (by decide +kernel) (pa_cons (pv 10) pa_nil))))))) (pss_cons (ps_set (i := 8) sc_law.nd rfl (Or.inl rfl) (pe_q (pe_op op_cat (pv 8) (pe_q (pe_lc (own := [("_law_one", 10)]) (g := gName 10) rfl sc_law.nd (pi_tup (pe_propK GP_stretches (hr.mono (by decide)) (pv 7))) (blkOk_by (N := ["_law_script", "_law_row", "_law_turn", "_law_some", "_law_k", "_law_pick", "_law_low_here", "_law_weighting_here", "_law_rows", "_law_text", "_law_one", "_law_word"]) (sc := defScope s_law) (by decide +kernel)) (fun _ _ _ _ _ => pg_name (i := 10) sc_law.nd rfl (Or.inl rfl)) (fun _ _ _ _ _ => pts_nil) (fun _ _ _ _ _ => pe_q (pe_op op_cat (pe_q (pe_lst (pa_cons (pe_txt (l := ([115, 116, 114, 101, 116, 99, 104] : List Nat)) (by decide +kernel)) (pa_nil)))) (pe_q (pe_callTy (call_list_ofK K) (by rfl) B.list (by decide +kernel) (pa_cons (pv 10) pa_nil)))))))))) (pss_cons (ps_set (i := 9) sc_law.nd rfl (Or.inl rfl) (pe_m1 PySem.F.slot_str_join PySem.F.type_str_join (mt_joinK K) (pe_txt (l := ([10] : List Nat)) (by decide +kernel)) (pe_q (pe_lc (own := [("_law_one", 10)]) (g := gName 10) rfl sc_law.nd (pi_list (pv 8)) (blkOk_by (N := ["_law_script", "_law_row", "_law_turn", "_law_some", "_law_k", "_law_pick", "_law_low_here", "_law_weighting_here", "_law_rows", "_law_text", "_law_one", "_law_word"]) (sc := defScope s_law) (by decide +kernel)) (fun _ _ _ _ _ => pg_name (i := 10) sc_law.nd rfl (Or.inl rfl)) (fun _ _ _ _ _ => pts_nil) (fun _ _ _ _ _ => pe_m1 PySem.F.slot_str_join PySem.F.type_str_join (mt_joinK K) (pe_txt (l := ([32] : List Nat)) (by decide +kernel)) (pe_q (pe_lc (own := [("_law_word", 11)]) (g := gName 11) rfl sc_law.nd (pi_listK K (pv 10)) (blkOk_by (by kernel_rfl)) (fun _ _ _ _ _ => pg_name (i := 11) sc_law.nd rfl (Or.inl rfl)) (fun _ _ _ _ _ => pts_nil) (fun _ _ _ _ _ => pe_callTy call_strD (by rfl) B.str (by decide +kernel) (pa_cons (pv 11) pa_nil))))))))) (pss_one (ps_if (PW.pt (pw_or (pt_cmpR op_ne (pe_kn G_format_weighting (hr.mono (by decide)) (pa_cons (pv 7) (pa_nil))) (pv 9) (nomark _)) (pw_or1 (pt_cmpR (op_neOwn GE_W (hr.mono (by decide))) (pe_kn G_parse_weighting (hr.mono (by decide)) (pa_cons (pv 9) (pa_nil))) (pv 7) (nomark _))))) (pss_one (ps_ret (pe_bl))) pss_nil)))))))))))) (pss_one (ps_ret (pe_and (pe_cmpR op_eq (pe_kn G_polynomial_text (hr.mono (by decide)) (pa_cons (pe_q (pe_tup (pa_nil))) (pa_nil))) (pe_txt (l := ([48] : List Nat)) (by decide +kernel)) (nomark _)) (pe_one (pe_cmpR op_eq (pe_kn G_polynomial_text (hr.mono (by decide)) (pa_cons (pe_q (pe_tup (pa_cons (pe_q (pe_tup (pa_cons (pe_int) (pa_cons (pe_int) (pa_nil))))) (pa_cons (pe_q (pe_tup (pa_cons (pe_op op_sub (pe_int) (pe_int)) (pa_cons (pe_int) (pa_nil))))) (pa_cons (pe_q (pe_tup (pa_cons (pe_int) (pa_cons (pe_int) (pa_nil))))) (pa_cons (pe_q (pe_tup (pa_cons (pe_int) (pa_cons (pe_int) (pa_nil))))) (pa_nil))))))) (pa_nil))) (pe_txt (l := ([120, 94, 50, 32, 45, 32, 120] : List Nat)) (by decide +kernel)) (nomark _)))))))), ?_⟩
    refine ⟨_, rfl, ?_⟩
    show _ ∧ _
    refine new_row hs fun ra H0 e w => ?_
    have g_ := Gm.refl (M := [ra]) e
    obtain ⟨h1, k⟩ := post_range k
    refine ⟨_, rfl, h1.1, h1.2, ?_⟩
    refine for_mL (M := [ra]) (F := H) wlk_range (fun b3 F' H' σ' => ∃ (u2 : Option V) (u3 : Option V) (u4 : Option V) (u5 : Option V) (u6 : Option V) (u7 : Option V) (u8 : Option V) (u9 : Option V) (u10 : Option V) (u11 : Option V), σ' = [some (V.ref sc), some (V.ref ra), u2, u3, u4, u5, u6, u7, u8, u9, u10, u11] ∧ RowAt K sc ra scr F' H' b3) k e ⟨_, _, _, _, _, _, _, _, _, _, rfl, w⟩ (fun b3 x4 v12 σ14 F5 H6 F7 H8 g9 i13 g10 r11 nx kfb3 => ?_) (fun b20 σ19 F15 H16 g17 i18 k => ?_)
    · obtain ⟨u21, u22, u23, u24, u25, u26, u27, u28, u29, u30, rfl, w31⟩ := i13
      replace w31 := w31.keep g10
      have eF7 := g10.s
      have gF7 := g9.trans (g10.weak (by simp))
      subst r11
      refine ⟨_, rfl, _, rfl, ?_⟩
      refine ⟨F7, sc, ra, scr, b3, (7 : Int), rfl, eF7, w31, (post_bd kfb3).mono (fun b32 kfb3 v37 F33 H34 g35 ⟨r36, w38⟩ => ?_) (fun _ z => z)⟩
      have eF33 := g35.s
      have gF33 := gF7.trans (g35.weak (by simp))
      subst r36
      refine ⟨F33, sc, ra, scr, b32.2, b32.1, rfl, eF33, w38, (post_bd kfb3).mono (fun b39 kfb3 v44 F40 H41 g42 ⟨r43, w45⟩ => ?_) (fun _ z => z)⟩
      have eF40 := g42.s
      have gF40 := gF33.trans (g42.weak (by simp))
      obtain ⟨p46, xs47, rfl, s48, a49⟩ := dp_tup r43
      refine to_own (K := K) eF40 (.inr (ex_t eF40 s48)) fun p50 H51 g52 y53 o54 => ?_
      have a55 : DqAll K F40 xs47 (List.map (e2 PyData.int PyData.int) b39.1) := a49
      have np50 := ne_of_none w45.1 y53
      have mp50 := np50.symm
      have zp50 := gF40.fresh y53
      have eH51 := g52.s
      have gH51 := gF40.trans (g52.weak (by simp))
      replace w45 := w45.keep g52
      refine ⟨_, rfl, ?_⟩
      refine ⟨_, _, _, rfl, .inl (sq_of o54.1), len_all a55, ?_⟩
      obtain ⟨h56, kfb3⟩ := post_range kfb3
      refine ⟨_, rfl, h56.1, h56.2, ?_⟩
      refine for_m (M := [p50, ra]) (F := F40) wlk_range (fun b58 F' H' σ' => ∃ (u4 : Option V) (u5 : Option V) (u6 : Option V) (u7 : Option V) (u8 : Option V) (u9 : Option V) (u10 : Option V) (u11 : Option V) (xs3 : List V), σ' = [some (V.ref sc), some (V.ref ra), some (V.int x4), some (V.ref p50), u4, u5, u6, u7, u8, u9, u10, u11] ∧ (H' p50 = some (.lst xs3) ∧ F' p50 = none) ∧ DqAll K F' xs3 (List.map (e2 PyData.int PyData.int) b58.1) ∧ RowAt K sc ra scr F' H' b58.2) kfb3 eH51 ⟨_, _, _, _, _, _, _, _, _, rfl, o54, a55, w45⟩ (fun b58 x59 v67 σ69 F60 H61 F62 H63 g64 i68 g65 r66 nx kfb3fb58 => ?_) (fun b75 σ74 F70 H71 g72 i73 kfb3 => ?_)
      · replace r43 := r43.up g64.f
        replace s48 := ex_t g64.f s48
        replace a49 := a49.up g64.f
        obtain ⟨u76, u77, u78, u79, u80, u81, u82, u83, xs84, rfl, o85, a86, w87⟩ := i68
        replace r43 := r43.up g65.f
        replace s48 := ex_t g65.f s48
        replace a49 := a49.up g65.f
        replace o85 := g65.own (by first | exact List.not_mem_nil | (simp only [List.mem_cons, List.not_mem_nil, or_false, not_or]; (repeat' apply And.intro) <;> assumption)) o85.1 o85.2
        replace a86 := a86.up g65.f
        replace w87 := w87.keep g65
        have eF62 := g65.s
        have gF62 := g64.trans (g65.weak (by simp))
        subst r66
        refine ⟨_, rfl, ?_⟩
        refine ⟨F62, sc, ra, scr, b58.2, (5 : Int), rfl, eF62, w87, (post_bd kfb3fb58).mono (fun b88 kfb3fb58 v93 F89 H90 g91 ⟨r92, w94⟩ => ?_) (fun _ z => z)⟩
        have eF89 := g91.s
        have gF89 := gF62.trans (g91.weak (by simp))
        replace r43 := r43.up g91.f
        replace s48 := ex_t g91.f s48
        replace a49 := a49.up g91.f
        replace o85 := g91.own (by first | exact List.not_mem_nil | (simp only [List.mem_cons, List.not_mem_nil, or_false, not_or]; (repeat' apply And.intro) <;> assumption)) o85.1 o85.2
        replace a86 := a86.up g91.f
        subst r92
        refine ⟨_, rfl, _, _, rfl, rfl, _, rfl, ?_⟩
        refine if_jM (M := []) (F := F89) (fun b F' H' v => Dq K F' v ((e2 PyData.int PyData.int) b)) kfb3fb58 (fun _ Q' kfb3fb58ib100 => ?_) (fun _ Q' kfb3fb58ib100 => ?_) (fun b100 v95 F96 H97 g98 r99 kfb3fb58 => ?_)
        · have gF89_ := Gm.refl (M := []) eF89
          refine ⟨_, rfl, _, rfl, ?_⟩
          obtain ⟨i102, h103, kfb3fb58ib100⟩ := post_get kfb3fb58ib100
          obtain ⟨v104, h105, r106⟩ := dq_at a86 h103
          refine ⟨_, _, _, _, rfl, rfl, (sq_of o85.1), h105, ?_⟩
          exact kfb3fb58ib100.h _ _ _ gF89_ r106
        · have gF89_ := Gm.refl (M := []) eF89
          show _ ∧ _
          refine new_tup (K := K) (M := []) eF89 (.cons (Dq.int (0 : Int)) (.cons (Dq.int (3 : Int)) .nil)) (by show 2 ≤ 100000; decide) fun v111 F107 H108 g109 r110 => ?_
          have eF107 := g109.s
          have gF107 := gF89_.trans (g109.weak (by simp))
          replace r43 := r43.up g109.f
          replace s48 := ex_t g109.f s48
          replace a49 := a49.up g109.f
          replace o85 := g109.own (by first | exact List.not_mem_nil | (simp only [List.mem_cons, List.not_mem_nil, or_false, not_or]; (repeat' apply And.intro) <;> assumption)) o85.1 o85.2
          replace a86 := a86.up g109.f
          replace w94 := w94.keep g109
          replace r110 : Dq K F107 v111 ((e2 PyData.int PyData.int) ((0 : Int), (3 : Int))) := r110
          show _ ∧ _
          refine new_tup (K := K) (M := []) eF107 (.cons (Dq.int (2 : Int)) (.cons (Dq.int (2 : Int)) .nil)) (by show 2 ≤ 100000; decide) fun v116 F112 H113 g114 r115 => ?_
          have eF112 := g114.s
          have gF112 := gF107.trans (g114.weak (by simp))
          replace r43 := r43.up g114.f
          replace s48 := ex_t g114.f s48
          replace a49 := a49.up g114.f
          replace o85 := g114.own (by first | exact List.not_mem_nil | (simp only [List.mem_cons, List.not_mem_nil, or_false, not_or]; (repeat' apply And.intro) <;> assumption)) o85.1 o85.2
          replace a86 := a86.up g114.f
          replace w94 := w94.keep g114
          replace r110 := r110.up g114.f
          replace r115 : Dq K F112 v116 ((e2 PyData.int PyData.int) ((2 : Int), (2 : Int))) := r115
          refine ⟨_, _, rfl, rfl, ?_⟩
          show _ ∧ _
          refine new_tup (K := K) (M := []) eF112 (.cons (Dq.int ((0 : Int) - (3 : Int))) (.cons (Dq.int (3 : Int)) .nil)) (by show 2 ≤ 100000; decide) fun v121 F117 H118 g119 r120 => ?_
          have eF117 := g119.s
          have gF117 := gF112.trans (g119.weak (by simp))
          replace r43 := r43.up g119.f
          replace s48 := ex_t g119.f s48
          replace a49 := a49.up g119.f
          replace o85 := g119.own (by first | exact List.not_mem_nil | (simp only [List.mem_cons, List.not_mem_nil, or_false, not_or]; (repeat' apply And.intro) <;> assumption)) o85.1 o85.2
          replace a86 := a86.up g119.f
          replace w94 := w94.keep g119
          replace r110 := r110.up g119.f
          replace r115 := r115.up g119.f
          replace r120 : Dq K F117 v121 ((e2 PyData.int PyData.int) (((0 : Int) - (3 : Int)), (3 : Int))) := r120
          show _ ∧ _
          refine new_lst (K := K) (M := []) eF117 (.cons r110 (.cons r115 (.cons r120 .nil))) (by show 3 ≤ 100000; decide) fun v126 F122 H123 g124 r125 => ?_
          have eF122 := g124.s
          have gF122 := gF117.trans (g124.weak (by simp))
          replace r43 := r43.up g124.f
          replace s48 := ex_t g124.f s48
          replace a49 := a49.up g124.f
          replace o85 := g124.own (by first | exact List.not_mem_nil | (simp only [List.mem_cons, List.not_mem_nil, or_false, not_or]; (repeat' apply And.intro) <;> assumption)) o85.1 o85.2
          replace a86 := a86.up g124.f
          replace w94 := w94.keep g124
          replace r110 := r110.up g124.f
          replace r115 := r115.up g124.f
          replace r120 := r120.up g124.f
          replace r125 : Dq K F122 v126 ((eL (e2 PyData.int PyData.int)) [((0 : Int), (3 : Int)), ((2 : Int), (2 : Int)), (((0 : Int) - (3 : Int)), (3 : Int))]) := r125
          refine ⟨_, rfl, ?_⟩
          obtain ⟨p127, xs128, rfl, s129, a130⟩ := dp_lst r125
          obtain ⟨i131, h132, kfb3fb58ib100⟩ := post_get kfb3fb58ib100
          obtain ⟨v133, h134, r135⟩ := dq_at a130 h132
          refine ⟨_, _, _, _, rfl, rfl, (sq_of (eF122 _ _ s129)), h134, ?_⟩
          exact kfb3fb58ib100.h _ _ _ gF122 r135
        have eF96 := g98.s
        have gF96 := gF89.trans (g98.weak (by simp))
        replace r43 := r43.up g98.f
        replace s48 := ex_t g98.f s48
        replace a49 := a49.up g98.f
        replace o85 := g98.own (by first | exact List.not_mem_nil | (simp only [List.mem_cons, List.not_mem_nil, or_false, not_or]; (repeat' apply And.intro) <;> assumption)) o85.1 o85.2
        replace a86 := a86.up g98.f
        replace w94 := w94.keep g98
        refine ⟨_, rfl, _, rfl, ?_⟩
        obtain ⟨m136, j137, h138, h139, kfb3fb58⟩ := post_set kfb3fb58
        refine ⟨_, _, _, _, rfl, rfl, o85.1, all_ix a86 h138, ?_⟩
        have g140 := gF96.putOr (o := (.lst (List.set xs84 j137 v95))) (.inl (by simp)) o85.1 o85.2
        replace w94 := w94.put np50 (o := (.lst (List.set xs84 j137 v95)))
        replace o85 : (upd H97 p50 (.lst (List.set xs84 j137 v95))) p50 = some (.lst (List.set xs84 j137 v95)) ∧ F96 p50 = none := ⟨upd_same, o85.2⟩
        replace a86 : DqAll K F96 (List.set xs84 j137 v95) (List.map (e2 PyData.int PyData.int) m136) := all_set a86 r99 h139
        have e141 := g140.s
        exact kfb3fb58.h _ _ _ g140 ⟨_, _, _, _, _, _, _, _, _, rfl, o85, a86, w94⟩
      have hy143 : ∀ q ∈ [p50], q ∈ [ra] ∨ H0 q = none := by intro q hq; simp only [List.mem_cons, List.not_mem_nil, or_false] at hq; rcases hq with rfl; exact (.inr zp50)
      have g142 := Gm.outs [p50] hy143 gH51 (g72.weak (by simp))
      replace r43 := r43.up g72.f
      replace s48 := ex_t g72.f s48
      replace a49 := a49.up g72.f
      have eF70 := g72.s
      obtain ⟨u144, u145, u146, u147, u148, u149, u150, u151, xs152, rfl, o153, a154, w155⟩ := i73
      refine ⟨_, rfl, ?_⟩
      have g156 := g142.fix o153.1 o153.2 zp50
      have ur157 : Ex F70 (upd F70 p50 (.lst xs152)) := Ex.new o153.2
      have r157 : Dq K (upd F70 p50 (.lst xs152)) (.ref p50) (eL (e2 PyData.int PyData.int) b75.1) := .lst upd_same (a154.up ur157)
      have s159 : (upd F70 p50 (.lst xs152)) p50 = some (.lst xs152) := upd_same
      have a160 := a154.up ur157
      replace r43 := r43.up ur157
      replace s48 := ex_t ur157 s48
      replace a49 := a49.up ur157
      replace w155 := w155.fix np50 ur157 (o := .lst xs152)
      have e161 := g156.s
      refine ⟨_, rfl, ⟨_, (sq_of (e161 _ _ s159))⟩, ?_⟩
      obtain ⟨h181, kfb3⟩ := post_guard kfb3
      refine lc_map (K := K) (M := []) (wlk_list e161 s159 a160) (e2 PyData.int PyData.int) kfb3 e161 h181 (fun _ _ => by simp) (fun x164 v179 F172 H173 F174 H175 g176 g177 r178 Q' k162 => ?_) (fun _ z => z) (fun b163 v165 F166 H167 g168 r169 kfb3 => ?_) gm_name
      · have g182 := Gm.refl (M := []) g176.s
        replace r43 := r43.up g176.f
        replace s48 := ex_t g176.f s48
        replace a49 := a49.up g176.f
        replace w155 := w155.keep g176
        replace r157 := r157.up g176.f
        replace s159 := g176.f _ _ s159
        replace a160 := a160.up g176.f
        replace r43 := r43.up g177.f
        replace s48 := ex_t g177.f s48
        replace a49 := a49.up g177.f
        replace w155 := w155.keep g177
        replace r157 := r157.up g177.f
        replace s159 := g177.f _ _ s159
        replace a160 := a160.up g177.f
        have eF174 := g177.s
        have gF174 := g182.trans (g177.weak (by simp))
        refine ⟨rfl, _, rfl, ?_⟩
        obtain ⟨p183, x184, x185, rfl, s186, d187, d188⟩ := dp_tup2 r178
        obtain rfl := dp_int d187
        obtain rfl := dp_int d188
        refine ⟨_, _, _, _, rfl, rfl, ex_t eF174 s186, rfl, _, rfl, ?_⟩
        refine ⟨_, _, _, _, rfl, rfl, ex_t eF174 s186, rfl, ?_⟩
        refine ⟨F174, x164.1, x164.2, rfl, eF174, (post_bd k162).mono (fun b189 k162 v194 F190 H191 g192 r193 => ?_) (fun _ z => z)⟩
        have eF190 := g192.s
        have gF190 := gF174.trans (g192.weak (by simp))
        replace r43 := r43.up g192.f
        replace s48 := ex_t g192.f s48
        replace a49 := a49.up g192.f
        replace w155 := w155.keep g192
        replace r157 := r157.up g192.f
        replace s159 := g192.f _ _ s159
        replace a160 := a160.up g192.f
        replace r178 := r178.up g192.f
        replace s186 := ex_t g192.f s186
        exact k162.h _ _ _ gF190 r193
      have eF166 := g168.s
      have gF166 := g156.trans (g168.weak (by simp))
      replace r43 := r43.up g168.f
      replace s48 := ex_t g168.f s48
      replace a49 := a49.up g168.f
      replace w155 := w155.keep g168
      replace r157 := r157.up g168.f
      replace s159 := g168.f _ _ s159
      replace a160 := a160.up g168.f
      refine ⟨_, rfl, ?_⟩
      refine ⟨_, rfl, ⟨_, (sq_of (eF166 _ _ s159))⟩, ?_⟩
      obtain ⟨h216, kfb3⟩ := post_guard kfb3
      refine lc_map (K := K) (M := []) (wlk_list eF166 s159 a160) eT kfb3 eF166 h216 (fun _ _ => by simp) (fun x199 v214 F207 H208 F209 H210 g211 g212 r213 Q' k197 => ?_) (fun _ z => z) (fun b198 v200 F201 H202 g203 r204 kfb3 => ?_) gm_name
      · have g217 := Gm.refl (M := []) g211.s
        replace r43 := r43.up g211.f
        replace s48 := ex_t g211.f s48
        replace a49 := a49.up g211.f
        replace w155 := w155.keep g211
        replace r157 := r157.up g211.f
        replace s159 := g211.f _ _ s159
        replace a160 := a160.up g211.f
        replace r169 := r169.up g211.f
        replace r43 := r43.up g212.f
        replace s48 := ex_t g212.f s48
        replace a49 := a49.up g212.f
        replace w155 := w155.keep g212
        replace r157 := r157.up g212.f
        replace s159 := g212.f _ _ s159
        replace a160 := a160.up g212.f
        replace r169 := r169.up g212.f
        have eF209 := g212.s
        have gF209 := g217.trans (g212.weak (by simp))
        refine ⟨rfl, _, rfl, ?_⟩
        refine ⟨F209, _, x199, rfl, eF209, r213, (post_bd k197).mono (fun b218 k197 v223 F219 H220 g221 r222 => ?_) (fun _ z => z)⟩
        have eF219 := g221.s
        have gF219 := gF209.trans (g221.weak (by simp))
        replace r43 := r43.up g221.f
        replace s48 := ex_t g221.f s48
        replace a49 := a49.up g221.f
        replace w155 := w155.keep g221
        replace r157 := r157.up g221.f
        replace s159 := g221.f _ _ s159
        replace a160 := a160.up g221.f
        replace r169 := r169.up g221.f
        replace r213 := r213.up g221.f
        subst r222
        exact k197.h _ _ _ gF219 (Dq.str (sT b218))
      have eF201 := g203.s
      have gF201 := gF166.trans (g203.weak (by simp))
      replace r43 := r43.up g203.f
      replace s48 := ex_t g203.f s48
      replace a49 := a49.up g203.f
      replace w155 := w155.keep g203
      replace r157 := r157.up g203.f
      replace s159 := g203.f _ _ s159
      replace a160 := a160.up g203.f
      replace r169 := r169.up g203.f
      refine ⟨_, rfl, ?_⟩
      obtain ⟨p226, xs227, rfl, s228, a229⟩ := dp_lst r169
      refine ⟨_, rfl, ⟨_, (sq_of (eF201 _ _ s228))⟩, ?_⟩
      obtain ⟨h249, kfb3⟩ := post_guard kfb3
      refine lc_map (K := K) (M := []) (wlk_list eF201 s228 a229) eT kfb3 eF201 h249 (fun _ _ => by simp) (fun x232 v247 F240 H241 F242 H243 g244 g245 r246 Q' k230 => ?_) (fun _ z => z) (fun b231 v233 F234 H235 g236 r237 kfb3 => ?_) gm_name
      · have g250 := Gm.refl (M := []) g244.s
        replace r43 := r43.up g244.f
        replace s48 := ex_t g244.f s48
        replace a49 := a49.up g244.f
        replace w155 := w155.keep g244
        replace r157 := r157.up g244.f
        replace s159 := g244.f _ _ s159
        replace a160 := a160.up g244.f
        replace r169 := r169.up g244.f
        replace r204 := r204.up g244.f
        replace s228 := g244.f _ _ s228
        replace a229 := a229.up g244.f
        replace r43 := r43.up g245.f
        replace s48 := ex_t g245.f s48
        replace a49 := a49.up g245.f
        replace w155 := w155.keep g245
        replace r157 := r157.up g245.f
        replace s159 := g245.f _ _ s159
        replace a160 := a160.up g245.f
        replace r169 := r169.up g245.f
        replace r204 := r204.up g245.f
        replace s228 := g245.f _ _ s228
        replace a229 := a229.up g245.f
        have eF242 := g245.s
        have gF242 := g250.trans (g245.weak (by simp))
        refine ⟨rfl, _, rfl, ?_⟩
        refine ⟨F242, _, x232, rfl, eF242, r246, (post_bd k230).mono (fun b251 k230 v256 F252 H253 g254 r255 => ?_) (fun _ z => z)⟩
        have eF252 := g254.s
        have gF252 := gF242.trans (g254.weak (by simp))
        replace r43 := r43.up g254.f
        replace s48 := ex_t g254.f s48
        replace a49 := a49.up g254.f
        replace w155 := w155.keep g254
        replace r157 := r157.up g254.f
        replace s159 := g254.f _ _ s159
        replace a160 := a160.up g254.f
        replace r169 := r169.up g254.f
        replace r204 := r204.up g254.f
        replace s228 := g254.f _ _ s228
        replace a229 := a229.up g254.f
        replace r246 := r246.up g254.f
        subst r255
        exact k230.h _ _ _ gF252 (Dq.str (sT b251))
      have eF234 := g236.s
      have gF234 := gF201.trans (g236.weak (by simp))
      replace r43 := r43.up g236.f
      replace s48 := ex_t g236.f s48
      replace a49 := a49.up g236.f
      replace w155 := w155.keep g236
      replace r157 := r157.up g236.f
      replace s159 := g236.f _ _ s159
      replace a160 := a160.up g236.f
      replace r169 := r169.up g236.f
      replace r204 := r204.up g236.f
      replace s228 := g236.f _ _ s228
      replace a229 := a229.up g236.f
      obtain ⟨h259, kfb3⟩ := post_guard kfb3
      refine ⟨((eL eT) b198), ((eL eT) b231), r204.dp eF234, r237.dp eF234, h259.1, h259.2, ?_⟩
      refine ⟨_, rfl, ?_⟩
      refine cs kfb3 (fun _ kfb3 => ?_) (fun _ kfb3 => ?_)
      · exact (show Post (Mm.ok _) _ _ from kfb3.h).h _
      · refine ⟨_, rfl, ?_⟩
        refine to_VL (K := K) (M := []) eF234 s159 a160 (en := (e2 PyData.int PyData.int)) (l := b75.1) fun v264 F260 H261 g262 r263 => ?_
        have eF260 := g262.s
        have gF260 := gF234.trans (g262.weak (by simp))
        replace r43 := r43.up g262.f
        replace s48 := ex_t g262.f s48
        replace a49 := a49.up g262.f
        replace w155 := w155.keep g262
        replace r157 := r157.up g262.f
        replace s159 := g262.f _ _ s159
        replace a160 := a160.up g262.f
        replace r169 := r169.up g262.f
        replace r204 := r204.up g262.f
        replace s228 := g262.f _ _ s228
        replace a229 := a229.up g262.f
        replace r237 := r237.up g262.f
        refine ⟨F260, _, b75.1, rfl, eF260, r263, (post_bd kfb3).mono (fun b265 kfb3 v270 F266 H267 g268 r269 => ?_) (fun _ z => z)⟩
        have eF266 := g268.s
        have gF266 := gF260.trans (g268.weak (by simp))
        replace r43 := r43.up g268.f
        replace s48 := ex_t g268.f s48
        replace a49 := a49.up g268.f
        replace w155 := w155.keep g268
        replace r157 := r157.up g268.f
        replace s159 := g268.f _ _ s159
        replace a160 := a160.up g268.f
        replace r169 := r169.up g268.f
        replace r204 := r204.up g268.f
        replace s228 := g268.f _ _ s228
        replace a229 := a229.up g268.f
        replace r237 := r237.up g268.f
        replace r263 := r263.up g268.f
        subst r269
        refine ⟨_, rfl, ?_⟩
        refine ⟨F266, _, b163, rfl, eF266, r169, (post_bd kfb3).mono (fun b272 kfb3 v277 F273 H274 g275 r276 => ?_) (fun _ z => z)⟩
        have eF273 := g275.s
        have gF273 := gF266.trans (g275.weak (by simp))
        replace r43 := r43.up g275.f
        replace s48 := ex_t g275.f s48
        replace a49 := a49.up g275.f
        replace w155 := w155.keep g275
        replace r157 := r157.up g275.f
        replace s159 := g275.f _ _ s159
        replace a160 := a160.up g275.f
        replace r169 := r169.up g275.f
        replace r204 := r204.up g275.f
        replace s228 := g275.f _ _ s228
        replace a229 := a229.up g275.f
        replace r237 := r237.up g275.f
        replace r263 := r263.up g275.f
        subst r276
        refine ⟨rfl, ?_⟩
        rw [decV_txt]
        refine ⟨_, rfl, ?_⟩
        refine cs kfb3 (fun _ kfb3 => ?_) (fun _ kfb3 => ?_)
        · exact (show Post (Mm.ok _) _ _ from kfb3.h).h _
        · refine ⟨_, rfl, ?_⟩
          refine ⟨F273, sc, ra, scr, b75.2, rfl, eF273, w155, (post_bd kfb3).mono (fun b279 kfb3 v284 F280 H281 g282 ⟨r283, w285⟩ => ?_) (fun _ z => z)⟩
          have eF280 := g282.s
          have gF280 := gF273.trans (g282.weak (by simp))
          replace r43 := r43.up g282.f
          replace s48 := ex_t g282.f s48
          replace a49 := a49.up g282.f
          replace r157 := r157.up g282.f
          replace s159 := g282.f _ _ s159
          replace a160 := a160.up g282.f
          replace r169 := r169.up g282.f
          replace r204 := r204.up g282.f
          replace s228 := g282.f _ _ s228
          replace a229 := a229.up g282.f
          replace r237 := r237.up g282.f
          replace r263 := r263.up g282.f
          refine ⟨_, rfl, ?_⟩
          obtain ⟨a286, dx287, m288, t289, rfl, h290, r291, r292⟩ := r283.ex
          refine ⟨_, _, _, rfl, eF280 _ _ h290, _, _, _, _, rfl, eF280 _ _ h290, wf_m _ _, ?_⟩
          obtain ⟨p293, xs294, rfl, s295, a296⟩ := dp_tup r291
          refine ⟨_, rfl, ⟨_, (ex_t eF280 s295)⟩, ?_⟩
          obtain ⟨h316, kfb3⟩ := post_guard kfb3
          refine lc_map (K := K) (M := []) (wlk_tup eF280 s295 a296) (eL id) kfb3 eF280 h316 (fun _ _ => by simp) (fun x299 v314 F307 H308 F309 H310 g311 g312 r313 Q' k297 => ?_) (fun _ z => z) (fun b298 v300 F301 H302 g303 r304 kfb3 => ?_) gm_name
          · have g317 := Gm.refl (M := []) g311.s
            replace r43 := r43.up g311.f
            replace s48 := ex_t g311.f s48
            replace a49 := a49.up g311.f
            replace r157 := r157.up g311.f
            replace s159 := g311.f _ _ s159
            replace a160 := a160.up g311.f
            replace r169 := r169.up g311.f
            replace r204 := r204.up g311.f
            replace s228 := g311.f _ _ s228
            replace a229 := a229.up g311.f
            replace r237 := r237.up g311.f
            replace r263 := r263.up g311.f
            replace w285 := w285.keep g311
            replace r283 := r283.up g311.f
            replace h290 := g311.f _ _ h290
            replace r291 := r291.up g311.f
            replace r292 := r292.up g311.f
            replace s295 := ex_t g311.f s295
            replace a296 := a296.up g311.f
            replace r43 := r43.up g312.f
            replace s48 := ex_t g312.f s48
            replace a49 := a49.up g312.f
            replace r157 := r157.up g312.f
            replace s159 := g312.f _ _ s159
            replace a160 := a160.up g312.f
            replace r169 := r169.up g312.f
            replace r204 := r204.up g312.f
            replace s228 := g312.f _ _ s228
            replace a229 := a229.up g312.f
            replace r237 := r237.up g312.f
            replace r263 := r263.up g312.f
            replace w285 := w285.keep g312
            replace r283 := r283.up g312.f
            replace h290 := g312.f _ _ h290
            replace r291 := r291.up g312.f
            replace r292 := r292.up g312.f
            replace s295 := ex_t g312.f s295
            replace a296 := a296.up g312.f
            have eF309 := g312.s
            have gF309 := g317.trans (g312.weak (by simp))
            refine ⟨rfl, ?_⟩
            show _ ∧ _
            refine new_lst (K := K) (M := []) eF309 (.cons (Dq.str (sT ([109, 97, 115, 115] : List Nat))) .nil) (by show 1 ≤ 100000; decide) fun v322 F318 H319 g320 r321 => ?_
            have eF318 := g320.s
            have gF318 := gF309.trans (g320.weak (by simp))
            replace r43 := r43.up g320.f
            replace s48 := ex_t g320.f s48
            replace a49 := a49.up g320.f
            replace r157 := r157.up g320.f
            replace s159 := g320.f _ _ s159
            replace a160 := a160.up g320.f
            replace r169 := r169.up g320.f
            replace r204 := r204.up g320.f
            replace s228 := g320.f _ _ s228
            replace a229 := a229.up g320.f
            replace r237 := r237.up g320.f
            replace r263 := r263.up g320.f
            replace w285 := w285.keep g320
            replace r283 := r283.up g320.f
            replace h290 := g320.f _ _ h290
            replace r291 := r291.up g320.f
            replace r292 := r292.up g320.f
            replace s295 := ex_t g320.f s295
            replace a296 := a296.up g320.f
            replace r313 := r313.up g320.f
            replace r321 : Dq K F318 v322 ((eL eT) [([109, 97, 115, 115] : List Nat)]) := r321
            refine ⟨_, rfl, ?_⟩
            have r323 : Dq K F318 v314 ((eV PyData.int) [x299.1, x299.2]) := r313
            obtain ⟨p324, xs325, rfl, s326, a327⟩ := dp_tup r323
            refine to_LV (K := K) (M := []) eF318 s326 a327 (en := PyData.int) (l := [x299.1, x299.2]) fun v332 F328 H329 g330 r331 => ?_
            have eF328 := g330.s
            have gF328 := gF318.trans (g330.weak (by simp))
            replace r43 := r43.up g330.f
            replace s48 := ex_t g330.f s48
            replace a49 := a49.up g330.f
            replace r157 := r157.up g330.f
            replace s159 := g330.f _ _ s159
            replace a160 := a160.up g330.f
            replace r169 := r169.up g330.f
            replace r204 := r204.up g330.f
            replace s228 := g330.f _ _ s228
            replace a229 := a229.up g330.f
            replace r237 := r237.up g330.f
            replace r263 := r263.up g330.f
            replace w285 := w285.keep g330
            replace r283 := r283.up g330.f
            replace h290 := g330.f _ _ h290
            replace r291 := r291.up g330.f
            replace r292 := r292.up g330.f
            replace s295 := ex_t g330.f s295
            replace a296 := a296.up g330.f
            replace r313 := r313.up g330.f
            replace r321 := r321.up g330.f
            replace r323 := r323.up g330.f
            replace s326 := ex_t g330.f s326
            replace a327 := a327.up g330.f
            obtain ⟨p333, xs334, rfl, s335, a336⟩ := dp_lst r321
            obtain ⟨p337, xs338, rfl, s339, a340⟩ := dp_lst r331
            obtain ⟨h342, k297⟩ := post_guard k297
            refine ⟨_, _, _, _, rfl, rfl, eF328 _ _ s335, eF328 _ _ s339, cat_len (all_asD a336) (all_asD a340) h342, new_lstC (K := K) (M := []) (en := id) (l := (List.map eT [([109, 97, 115, 115] : List Nat)])) (l' := (List.map PyData.int [x299.1, x299.2])) eF328 (all_asD a336) (all_asD a340) fun v347 F343 H344 g345 r346 => ?_⟩
            have eF343 := g345.s
            have gF343 := gF328.trans (g345.weak (by simp))
            replace r43 := r43.up g345.f
            replace s48 := ex_t g345.f s48
            replace a49 := a49.up g345.f
            replace r157 := r157.up g345.f
            replace s159 := g345.f _ _ s159
            replace a160 := a160.up g345.f
            replace r169 := r169.up g345.f
            replace r204 := r204.up g345.f
            replace s228 := g345.f _ _ s228
            replace a229 := a229.up g345.f
            replace r237 := r237.up g345.f
            replace r263 := r263.up g345.f
            replace w285 := w285.keep g345
            replace r283 := r283.up g345.f
            replace h290 := g345.f _ _ h290
            replace r291 := r291.up g345.f
            replace r292 := r292.up g345.f
            replace s295 := ex_t g345.f s295
            replace a296 := a296.up g345.f
            replace r313 := r313.up g345.f
            replace r321 := r321.up g345.f
            replace r323 := r323.up g345.f
            replace s326 := ex_t g345.f s326
            replace a327 := a327.up g345.f
            replace r331 := r331.up g345.f
            replace s335 := g345.f _ _ s335
            replace a336 := a336.up g345.f
            replace s339 := g345.f _ _ s339
            replace a340 := a340.up g345.f
            exact k297.h _ _ _ gF343 r346
          have eF301 := g303.s
          have gF301 := gF280.trans (g303.weak (by simp))
          replace r43 := r43.up g303.f
          replace s48 := ex_t g303.f s48
          replace a49 := a49.up g303.f
          replace r157 := r157.up g303.f
          replace s159 := g303.f _ _ s159
          replace a160 := a160.up g303.f
          replace r169 := r169.up g303.f
          replace r204 := r204.up g303.f
          replace s228 := g303.f _ _ s228
          replace a229 := a229.up g303.f
          replace r237 := r237.up g303.f
          replace r263 := r263.up g303.f
          replace w285 := w285.keep g303
          replace r283 := r283.up g303.f
          replace h290 := g303.f _ _ h290
          replace r291 := r291.up g303.f
          replace r292 := r292.up g303.f
          replace s295 := ex_t g303.f s295
          replace a296 := a296.up g303.f
          refine ⟨_, rfl, _, rfl, ?_⟩
          refine ⟨_, _, _, rfl, eF301 _ _ h290, _, _, _, _, rfl, eF301 _ _ h290, wf_s _ _, ?_⟩
          obtain ⟨p349, xs350, rfl, s351, a352⟩ := dp_tup r292
          refine ⟨_, rfl, ⟨_, (ex_t eF301 s351)⟩, ?_⟩
          obtain ⟨h372, kfb3⟩ := post_guard kfb3
          refine lc_map (K := K) (M := []) (wlk_tup eF301 s351 a352) (eL id) kfb3 eF301 h372 (fun _ _ => by simp) (fun x355 v370 F363 H364 F365 H366 g367 g368 r369 Q' k353 => ?_) (fun _ z => z) (fun b354 v356 F357 H358 g359 r360 kfb3 => ?_) gm_name
          · have g373 := Gm.refl (M := []) g367.s
            replace r43 := r43.up g367.f
            replace s48 := ex_t g367.f s48
            replace a49 := a49.up g367.f
            replace r157 := r157.up g367.f
            replace s159 := g367.f _ _ s159
            replace a160 := a160.up g367.f
            replace r169 := r169.up g367.f
            replace r204 := r204.up g367.f
            replace s228 := g367.f _ _ s228
            replace a229 := a229.up g367.f
            replace r237 := r237.up g367.f
            replace r263 := r263.up g367.f
            replace w285 := w285.keep g367
            replace r283 := r283.up g367.f
            replace h290 := g367.f _ _ h290
            replace r291 := r291.up g367.f
            replace r292 := r292.up g367.f
            replace s295 := ex_t g367.f s295
            replace a296 := a296.up g367.f
            replace r304 := r304.up g367.f
            replace s351 := ex_t g367.f s351
            replace a352 := a352.up g367.f
            replace r43 := r43.up g368.f
            replace s48 := ex_t g368.f s48
            replace a49 := a49.up g368.f
            replace r157 := r157.up g368.f
            replace s159 := g368.f _ _ s159
            replace a160 := a160.up g368.f
            replace r169 := r169.up g368.f
            replace r204 := r204.up g368.f
            replace s228 := g368.f _ _ s228
            replace a229 := a229.up g368.f
            replace r237 := r237.up g368.f
            replace r263 := r263.up g368.f
            replace w285 := w285.keep g368
            replace r283 := r283.up g368.f
            replace h290 := g368.f _ _ h290
            replace r291 := r291.up g368.f
            replace r292 := r292.up g368.f
            replace s295 := ex_t g368.f s295
            replace a296 := a296.up g368.f
            replace r304 := r304.up g368.f
            replace s351 := ex_t g368.f s351
            replace a352 := a352.up g368.f
            have eF365 := g368.s
            have gF365 := g373.trans (g368.weak (by simp))
            refine ⟨rfl, ?_⟩
            show _ ∧ _
            refine new_lst (K := K) (M := []) eF365 (.cons (Dq.str (sT ([115, 116, 114, 101, 116, 99, 104] : List Nat))) .nil) (by show 1 ≤ 100000; decide) fun v378 F374 H375 g376 r377 => ?_
            have eF374 := g376.s
            have gF374 := gF365.trans (g376.weak (by simp))
            replace r43 := r43.up g376.f
            replace s48 := ex_t g376.f s48
            replace a49 := a49.up g376.f
            replace r157 := r157.up g376.f
            replace s159 := g376.f _ _ s159
            replace a160 := a160.up g376.f
            replace r169 := r169.up g376.f
            replace r204 := r204.up g376.f
            replace s228 := g376.f _ _ s228
            replace a229 := a229.up g376.f
            replace r237 := r237.up g376.f
            replace r263 := r263.up g376.f
            replace w285 := w285.keep g376
            replace r283 := r283.up g376.f
            replace h290 := g376.f _ _ h290
            replace r291 := r291.up g376.f
            replace r292 := r292.up g376.f
            replace s295 := ex_t g376.f s295
            replace a296 := a296.up g376.f
            replace r304 := r304.up g376.f
            replace s351 := ex_t g376.f s351
            replace a352 := a352.up g376.f
            replace r369 := r369.up g376.f
            replace r377 : Dq K F374 v378 ((eL eT) [([115, 116, 114, 101, 116, 99, 104] : List Nat)]) := r377
            refine ⟨_, rfl, ?_⟩
            have r379 : Dq K F374 v370 ((eV PyData.int) [x355.1, x355.2.1, x355.2.2]) := r369
            obtain ⟨p380, xs381, rfl, s382, a383⟩ := dp_tup r379
            refine to_LV (K := K) (M := []) eF374 s382 a383 (en := PyData.int) (l := [x355.1, x355.2.1, x355.2.2]) fun v388 F384 H385 g386 r387 => ?_
            have eF384 := g386.s
            have gF384 := gF374.trans (g386.weak (by simp))
            replace r43 := r43.up g386.f
            replace s48 := ex_t g386.f s48
            replace a49 := a49.up g386.f
            replace r157 := r157.up g386.f
            replace s159 := g386.f _ _ s159
            replace a160 := a160.up g386.f
            replace r169 := r169.up g386.f
            replace r204 := r204.up g386.f
            replace s228 := g386.f _ _ s228
            replace a229 := a229.up g386.f
            replace r237 := r237.up g386.f
            replace r263 := r263.up g386.f
            replace w285 := w285.keep g386
            replace r283 := r283.up g386.f
            replace h290 := g386.f _ _ h290
            replace r291 := r291.up g386.f
            replace r292 := r292.up g386.f
            replace s295 := ex_t g386.f s295
            replace a296 := a296.up g386.f
            replace r304 := r304.up g386.f
            replace s351 := ex_t g386.f s351
            replace a352 := a352.up g386.f
            replace r369 := r369.up g386.f
            replace r377 := r377.up g386.f
            replace r379 := r379.up g386.f
            replace s382 := ex_t g386.f s382
            replace a383 := a383.up g386.f
            obtain ⟨p389, xs390, rfl, s391, a392⟩ := dp_lst r377
            obtain ⟨p393, xs394, rfl, s395, a396⟩ := dp_lst r387
            obtain ⟨h398, k353⟩ := post_guard k353
            refine ⟨_, _, _, _, rfl, rfl, eF384 _ _ s391, eF384 _ _ s395, cat_len (all_asD a392) (all_asD a396) h398, new_lstC (K := K) (M := []) (en := id) (l := (List.map eT [([115, 116, 114, 101, 116, 99, 104] : List Nat)])) (l' := (List.map PyData.int [x355.1, x355.2.1, x355.2.2])) eF384 (all_asD a392) (all_asD a396) fun v403 F399 H400 g401 r402 => ?_⟩
            have eF399 := g401.s
            have gF399 := gF384.trans (g401.weak (by simp))
            replace r43 := r43.up g401.f
            replace s48 := ex_t g401.f s48
            replace a49 := a49.up g401.f
            replace r157 := r157.up g401.f
            replace s159 := g401.f _ _ s159
            replace a160 := a160.up g401.f
            replace r169 := r169.up g401.f
            replace r204 := r204.up g401.f
            replace s228 := g401.f _ _ s228
            replace a229 := a229.up g401.f
            replace r237 := r237.up g401.f
            replace r263 := r263.up g401.f
            replace w285 := w285.keep g401
            replace r283 := r283.up g401.f
            replace h290 := g401.f _ _ h290
            replace r291 := r291.up g401.f
            replace r292 := r292.up g401.f
            replace s295 := ex_t g401.f s295
            replace a296 := a296.up g401.f
            replace r304 := r304.up g401.f
            replace s351 := ex_t g401.f s351
            replace a352 := a352.up g401.f
            replace r369 := r369.up g401.f
            replace r377 := r377.up g401.f
            replace r379 := r379.up g401.f
            replace s382 := ex_t g401.f s382
            replace a383 := a383.up g401.f
            replace r387 := r387.up g401.f
            replace s391 := g401.f _ _ s391
            replace a392 := a392.up g401.f
            replace s395 := g401.f _ _ s395
            replace a396 := a396.up g401.f
            exact k353.h _ _ _ gF399 r402
          have eF357 := g359.s
          have gF357 := gF301.trans (g359.weak (by simp))
          replace r43 := r43.up g359.f
          replace s48 := ex_t g359.f s48
          replace a49 := a49.up g359.f
          replace r157 := r157.up g359.f
          replace s159 := g359.f _ _ s159
          replace a160 := a160.up g359.f
          replace r169 := r169.up g359.f
          replace r204 := r204.up g359.f
          replace s228 := g359.f _ _ s228
          replace a229 := a229.up g359.f
          replace r237 := r237.up g359.f
          replace r263 := r263.up g359.f
          replace w285 := w285.keep g359
          replace r283 := r283.up g359.f
          replace h290 := g359.f _ _ h290
          replace r291 := r291.up g359.f
          replace r292 := r292.up g359.f
          replace s295 := ex_t g359.f s295
          replace a296 := a296.up g359.f
          replace r304 := r304.up g359.f
          replace s351 := ex_t g359.f s351
          replace a352 := a352.up g359.f
          obtain ⟨p405, xs406, rfl, s407, a408⟩ := dp_lst r304
          obtain ⟨p409, xs410, rfl, s411, a412⟩ := dp_lst r360
          obtain ⟨h414, kfb3⟩ := post_guard kfb3
          refine ⟨_, _, _, _, rfl, rfl, eF357 _ _ s407, eF357 _ _ s411, cat_len a408 a412 h414, new_lstC (K := K) (M := []) (en := (eL id)) (l := b298) (l' := b354) eF357 a408 a412 fun v419 F415 H416 g417 r418 => ?_⟩
          have eF415 := g417.s
          have gF415 := gF357.trans (g417.weak (by simp))
          replace r43 := r43.up g417.f
          replace s48 := ex_t g417.f s48
          replace a49 := a49.up g417.f
          replace r157 := r157.up g417.f
          replace s159 := g417.f _ _ s159
          replace a160 := a160.up g417.f
          replace r169 := r169.up g417.f
          replace r204 := r204.up g417.f
          replace s228 := g417.f _ _ s228
          replace a229 := a229.up g417.f
          replace r237 := r237.up g417.f
          replace r263 := r263.up g417.f
          replace w285 := w285.keep g417
          replace r283 := r283.up g417.f
          replace h290 := g417.f _ _ h290
          replace r291 := r291.up g417.f
          replace r292 := r292.up g417.f
          replace s295 := ex_t g417.f s295
          replace a296 := a296.up g417.f
          replace r304 := r304.up g417.f
          replace s351 := ex_t g417.f s351
          replace a352 := a352.up g417.f
          replace r360 := r360.up g417.f
          replace s407 := g417.f _ _ s407
          replace a408 := a408.up g417.f
          replace s411 := g417.f _ _ s411
          replace a412 := a412.up g417.f
          refine ⟨⟨_, rfl⟩, _, rfl, ?_⟩
          obtain ⟨p420, xs421, rfl, s422, a423⟩ := dp_lst r418
          refine ⟨_, rfl, ⟨_, (sq_of (eF415 _ _ s422))⟩, ?_⟩
          obtain ⟨h443, kfb3⟩ := post_guard kfb3
          refine lc_map (K := K) (M := []) (wlk_list eF415 s422 a423) eT kfb3 eF415 h443 (fun _ _ => by simp) (fun x426 v441 F434 H435 F436 H437 g438 g439 r440 Q' k424 => ?_) (fun _ z => z) (fun b425 v427 F428 H429 g430 r431 kfb3 => ?_) gm_name
          · have g444 := Gm.refl (M := []) g438.s
            replace r43 := r43.up g438.f
            replace s48 := ex_t g438.f s48
            replace a49 := a49.up g438.f
            replace r157 := r157.up g438.f
            replace s159 := g438.f _ _ s159
            replace a160 := a160.up g438.f
            replace r169 := r169.up g438.f
            replace r204 := r204.up g438.f
            replace s228 := g438.f _ _ s228
            replace a229 := a229.up g438.f
            replace r237 := r237.up g438.f
            replace r263 := r263.up g438.f
            replace w285 := w285.keep g438
            replace r283 := r283.up g438.f
            replace h290 := g438.f _ _ h290
            replace r291 := r291.up g438.f
            replace r292 := r292.up g438.f
            replace s295 := ex_t g438.f s295
            replace a296 := a296.up g438.f
            replace r304 := r304.up g438.f
            replace s351 := ex_t g438.f s351
            replace a352 := a352.up g438.f
            replace r360 := r360.up g438.f
            replace s407 := g438.f _ _ s407
            replace a408 := a408.up g438.f
            replace s411 := g438.f _ _ s411
            replace a412 := a412.up g438.f
            replace r418 := r418.up g438.f
            replace s422 := g438.f _ _ s422
            replace a423 := a423.up g438.f
            replace r43 := r43.up g439.f
            replace s48 := ex_t g439.f s48
            replace a49 := a49.up g439.f
            replace r157 := r157.up g439.f
            replace s159 := g439.f _ _ s159
            replace a160 := a160.up g439.f
            replace r169 := r169.up g439.f
            replace r204 := r204.up g439.f
            replace s228 := g439.f _ _ s228
            replace a229 := a229.up g439.f
            replace r237 := r237.up g439.f
            replace r263 := r263.up g439.f
            replace w285 := w285.keep g439
            replace r283 := r283.up g439.f
            replace h290 := g439.f _ _ h290
            replace r291 := r291.up g439.f
            replace r292 := r292.up g439.f
            replace s295 := ex_t g439.f s295
            replace a296 := a296.up g439.f
            replace r304 := r304.up g439.f
            replace s351 := ex_t g439.f s351
            replace a352 := a352.up g439.f
            replace r360 := r360.up g439.f
            replace s407 := g439.f _ _ s407
            replace a408 := a408.up g439.f
            replace s411 := g439.f _ _ s411
            replace a412 := a412.up g439.f
            replace r418 := r418.up g439.f
            replace s422 := g439.f _ _ s422
            replace a423 := a423.up g439.f
            have eF436 := g439.s
            have gF436 := g444.trans (g439.weak (by simp))
            refine ⟨rfl, ⟨_, rfl⟩, _, rfl, ?_⟩
            obtain ⟨p445, xs446, rfl, s447, a448⟩ := dp_lst r440
            refine ⟨_, rfl, ⟨_, (sq_of (eF436 _ _ s447))⟩, ?_⟩
            obtain ⟨h468, k424⟩ := post_guard k424
            refine lc_map (K := K) (M := []) (wlk_list eF436 s447 a448) eT k424 eF436 h468 (fun _ _ => by simp) (fun x451 v466 F459 H460 F461 H462 g463 g464 r465 Q' k449 => ?_) (fun _ z => z) (fun b450 v452 F453 H454 g455 r456 k424 => ?_) gm_name
            · have g469 := Gm.refl (M := []) g463.s
              replace r43 := r43.up g463.f
              replace s48 := ex_t g463.f s48
              replace a49 := a49.up g463.f
              replace r157 := r157.up g463.f
              replace s159 := g463.f _ _ s159
              replace a160 := a160.up g463.f
              replace r169 := r169.up g463.f
              replace r204 := r204.up g463.f
              replace s228 := g463.f _ _ s228
              replace a229 := a229.up g463.f
              replace r237 := r237.up g463.f
              replace r263 := r263.up g463.f
              replace w285 := w285.keep g463
              replace r283 := r283.up g463.f
              replace h290 := g463.f _ _ h290
              replace r291 := r291.up g463.f
              replace r292 := r292.up g463.f
              replace s295 := ex_t g463.f s295
              replace a296 := a296.up g463.f
              replace r304 := r304.up g463.f
              replace s351 := ex_t g463.f s351
              replace a352 := a352.up g463.f
              replace r360 := r360.up g463.f
              replace s407 := g463.f _ _ s407
              replace a408 := a408.up g463.f
              replace s411 := g463.f _ _ s411
              replace a412 := a412.up g463.f
              replace r418 := r418.up g463.f
              replace s422 := g463.f _ _ s422
              replace a423 := a423.up g463.f
              replace r440 := r440.up g463.f
              replace s447 := g463.f _ _ s447
              replace a448 := a448.up g463.f
              replace r43 := r43.up g464.f
              replace s48 := ex_t g464.f s48
              replace a49 := a49.up g464.f
              replace r157 := r157.up g464.f
              replace s159 := g464.f _ _ s159
              replace a160 := a160.up g464.f
              replace r169 := r169.up g464.f
              replace r204 := r204.up g464.f
              replace s228 := g464.f _ _ s228
              replace a229 := a229.up g464.f
              replace r237 := r237.up g464.f
              replace r263 := r263.up g464.f
              replace w285 := w285.keep g464
              replace r283 := r283.up g464.f
              replace h290 := g464.f _ _ h290
              replace r291 := r291.up g464.f
              replace r292 := r292.up g464.f
              replace s295 := ex_t g464.f s295
              replace a296 := a296.up g464.f
              replace r304 := r304.up g464.f
              replace s351 := ex_t g464.f s351
              replace a352 := a352.up g464.f
              replace r360 := r360.up g464.f
              replace s407 := g464.f _ _ s407
              replace a408 := a408.up g464.f
              replace s411 := g464.f _ _ s411
              replace a412 := a412.up g464.f
              replace r418 := r418.up g464.f
              replace s422 := g464.f _ _ s422
              replace a423 := a423.up g464.f
              replace r440 := r440.up g464.f
              replace s447 := g464.f _ _ s447
              replace a448 := a448.up g464.f
              have eF461 := g464.s
              have gF461 := g469.trans (g464.weak (by simp))
              refine ⟨rfl, _, rfl, ?_⟩
              obtain ⟨l470, h471, k449⟩ := post_strD r465 k449
              refine ⟨_, _, rfl, h471, ?_⟩
              exact k449.h _ _ _ gF461 (Dq.str (sT l470))
            have eF453 := g455.s
            have gF453 := gF436.trans (g455.weak (by simp))
            replace r43 := r43.up g455.f
            replace s48 := ex_t g455.f s48
            replace a49 := a49.up g455.f
            replace r157 := r157.up g455.f
            replace s159 := g455.f _ _ s159
            replace a160 := a160.up g455.f
            replace r169 := r169.up g455.f
            replace r204 := r204.up g455.f
            replace s228 := g455.f _ _ s228
            replace a229 := a229.up g455.f
            replace r237 := r237.up g455.f
            replace r263 := r263.up g455.f
            replace w285 := w285.keep g455
            replace r283 := r283.up g455.f
            replace h290 := g455.f _ _ h290
            replace r291 := r291.up g455.f
            replace r292 := r292.up g455.f
            replace s295 := ex_t g455.f s295
            replace a296 := a296.up g455.f
            replace r304 := r304.up g455.f
            replace s351 := ex_t g455.f s351
            replace a352 := a352.up g455.f
            replace r360 := r360.up g455.f
            replace s407 := g455.f _ _ s407
            replace a408 := a408.up g455.f
            replace s411 := g455.f _ _ s411
            replace a412 := a412.up g455.f
            replace r418 := r418.up g455.f
            replace s422 := g455.f _ _ s422
            replace a423 := a423.up g455.f
            replace r440 := r440.up g455.f
            replace s447 := g455.f _ _ s447
            replace a448 := a448.up g455.f
            obtain ⟨p475, xs476, rfl, s477, a478⟩ := dp_lst r456
            obtain ⟨h473, k424⟩ := post_guard k424
            have q474 : SqL K H454 p475 xs476 := (sq_of (eF453 _ _ s477))
            rw [all_txts a478] at q474
            refine ⟨_, _, _, rfl, rfl, .inl q474, h473, ?_⟩
            exact k424.h _ _ _ gF453 (Dq.str (sT (joinT ([32] : List Nat) b450)))
          have eF428 := g430.s
          have gF428 := gF415.trans (g430.weak (by simp))
          replace r43 := r43.up g430.f
          replace s48 := ex_t g430.f s48
          replace a49 := a49.up g430.f
          replace r157 := r157.up g430.f
          replace s159 := g430.f _ _ s159
          replace a160 := a160.up g430.f
          replace r169 := r169.up g430.f
          replace r204 := r204.up g430.f
          replace s228 := g430.f _ _ s228
          replace a229 := a229.up g430.f
          replace r237 := r237.up g430.f
          replace r263 := r263.up g430.f
          replace w285 := w285.keep g430
          replace r283 := r283.up g430.f
          replace h290 := g430.f _ _ h290
          replace r291 := r291.up g430.f
          replace r292 := r292.up g430.f
          replace s295 := ex_t g430.f s295
          replace a296 := a296.up g430.f
          replace r304 := r304.up g430.f
          replace s351 := ex_t g430.f s351
          replace a352 := a352.up g430.f
          replace r360 := r360.up g430.f
          replace s407 := g430.f _ _ s407
          replace a408 := a408.up g430.f
          replace s411 := g430.f _ _ s411
          replace a412 := a412.up g430.f
          replace r418 := r418.up g430.f
          replace s422 := g430.f _ _ s422
          replace a423 := a423.up g430.f
          obtain ⟨p482, xs483, rfl, s484, a485⟩ := dp_lst r431
          obtain ⟨h480, kfb3⟩ := post_guard kfb3
          have q481 : SqL K H429 p482 xs483 := (sq_of (eF428 _ _ s484))
          rw [all_txts a485] at q481
          refine ⟨_, _, _, rfl, rfl, .inl q481, h480, ?_⟩
          refine ⟨_, rfl, ?_⟩
          refine ⟨F428, _, b279.1, rfl, eF428, r283, (post_bd kfb3).mono (fun b486 kfb3 v491 F487 H488 g489 r490 => ?_) (fun _ z => z)⟩
          have eF487 := g489.s
          have gF487 := gF428.trans (g489.weak (by simp))
          replace r43 := r43.up g489.f
          replace s48 := ex_t g489.f s48
          replace a49 := a49.up g489.f
          replace r157 := r157.up g489.f
          replace s159 := g489.f _ _ s159
          replace a160 := a160.up g489.f
          replace r169 := r169.up g489.f
          replace r204 := r204.up g489.f
          replace s228 := g489.f _ _ s228
          replace a229 := a229.up g489.f
          replace r237 := r237.up g489.f
          replace r263 := r263.up g489.f
          replace w285 := w285.keep g489
          replace r283 := r283.up g489.f
          replace h290 := g489.f _ _ h290
          replace r291 := r291.up g489.f
          replace r292 := r292.up g489.f
          replace s295 := ex_t g489.f s295
          replace a296 := a296.up g489.f
          replace r304 := r304.up g489.f
          replace s351 := ex_t g489.f s351
          replace a352 := a352.up g489.f
          replace r360 := r360.up g489.f
          replace s407 := g489.f _ _ s407
          replace a408 := a408.up g489.f
          replace s411 := g489.f _ _ s411
          replace a412 := a412.up g489.f
          replace r418 := r418.up g489.f
          replace s422 := g489.f _ _ s422
          replace a423 := a423.up g489.f
          replace r431 := r431.up g489.f
          replace s484 := g489.f _ _ s484
          replace a485 := a485.up g489.f
          subst r490
          refine ⟨_, rfl, rfl, ?_⟩
          rw [decV_txt]
          refine ⟨_, rfl, ?_⟩
          refine or_jM (M := []) eF487 kfb3 (fun _ Q' kfb3tb493 => ?_) (fun b493 F494 H495 g496 kfb3 => ?_)
          · have gF487_ := Gm.refl (M := []) eF487
            refine ⟨_, rfl, ?_⟩
            refine ⟨F487, (joinT ([10] : List Nat) b425), rfl, eF487, (post_bd kfb3tb493).mono (fun b497 kfb3tb493 v502 F498 H499 g500 r501 => ?_) (fun _ z => z)⟩
            have eF498 := g500.s
            have gF498 := gF487_.trans (g500.weak (by simp))
            replace r43 := r43.up g500.f
            replace s48 := ex_t g500.f s48
            replace a49 := a49.up g500.f
            replace r157 := r157.up g500.f
            replace s159 := g500.f _ _ s159
            replace a160 := a160.up g500.f
            replace r169 := r169.up g500.f
            replace r204 := r204.up g500.f
            replace s228 := g500.f _ _ s228
            replace a229 := a229.up g500.f
            replace r237 := r237.up g500.f
            replace r263 := r263.up g500.f
            replace w285 := w285.keep g500
            replace r283 := r283.up g500.f
            replace h290 := g500.f _ _ h290
            replace r291 := r291.up g500.f
            replace r292 := r292.up g500.f
            replace s295 := ex_t g500.f s295
            replace a296 := a296.up g500.f
            replace r304 := r304.up g500.f
            replace s351 := ex_t g500.f s351
            replace a352 := a352.up g500.f
            replace r360 := r360.up g500.f
            replace s407 := g500.f _ _ s407
            replace a408 := a408.up g500.f
            replace s411 := g500.f _ _ s411
            replace a412 := a412.up g500.f
            replace r418 := r418.up g500.f
            replace s422 := g500.f _ _ s422
            replace a423 := a423.up g500.f
            replace r431 := r431.up g500.f
            replace s484 := g500.f _ _ s484
            replace a485 := a485.up g500.f
            refine ⟨_, rfl, ?_⟩
            obtain ⟨a504, dx505, m506, t507, rfl, h508, r509, r510⟩ := r501.ex
            refine ⟨_, _, _, _, _, _, rfl, rfl, eF498 _ _ h508, eF498 _ _ h290, F498, _, b497, _, b279.1, rfl, eF498, r501, r283, (post_bd kfb3tb493).mono (fun b511 kfb3tb493 v516 F512 H513 g514 r515 => ?_) (fun _ z => z)⟩
            subst r515
            have eF512 := g514.s
            have gF512 := gF498.trans (g514.weak (by simp))
            replace r43 := r43.up g514.f
            replace s48 := ex_t g514.f s48
            replace a49 := a49.up g514.f
            replace r157 := r157.up g514.f
            replace s159 := g514.f _ _ s159
            replace a160 := a160.up g514.f
            replace r169 := r169.up g514.f
            replace r204 := r204.up g514.f
            replace s228 := g514.f _ _ s228
            replace a229 := a229.up g514.f
            replace r237 := r237.up g514.f
            replace r263 := r263.up g514.f
            replace w285 := w285.keep g514
            replace r283 := r283.up g514.f
            replace h290 := g514.f _ _ h290
            replace r291 := r291.up g514.f
            replace r292 := r292.up g514.f
            replace s295 := ex_t g514.f s295
            replace a296 := a296.up g514.f
            replace r304 := r304.up g514.f
            replace s351 := ex_t g514.f s351
            replace a352 := a352.up g514.f
            replace r360 := r360.up g514.f
            replace s407 := g514.f _ _ s407
            replace a408 := a408.up g514.f
            replace s411 := g514.f _ _ s411
            replace a412 := a412.up g514.f
            replace r418 := r418.up g514.f
            replace s422 := g514.f _ _ s422
            replace a423 := a423.up g514.f
            replace r431 := r431.up g514.f
            replace s484 := g514.f _ _ s484
            replace a485 := a485.up g514.f
            replace r501 := r501.up g514.f
            replace h508 := g514.f _ _ h508
            replace r509 := r509.up g514.f
            replace r510 := r510.up g514.f
            refine ⟨_, rfl, ?_⟩
            refine ⟨_, rfl, ?_⟩
            exact kfb3tb493.h _ _ gF512
          have eF494 := g496.s
          have gF494 := gF487.trans (g496.weak (by simp))
          replace r43 := r43.up g496.f
          replace s48 := ex_t g496.f s48
          replace a49 := a49.up g496.f
          replace r157 := r157.up g496.f
          replace s159 := g496.f _ _ s159
          replace a160 := a160.up g496.f
          replace r169 := r169.up g496.f
          replace r204 := r204.up g496.f
          replace s228 := g496.f _ _ s228
          replace a229 := a229.up g496.f
          replace r237 := r237.up g496.f
          replace r263 := r263.up g496.f
          replace w285 := w285.keep g496
          replace r283 := r283.up g496.f
          replace h290 := g496.f _ _ h290
          replace r291 := r291.up g496.f
          replace r292 := r292.up g496.f
          replace s295 := ex_t g496.f s295
          replace a296 := a296.up g496.f
          replace r304 := r304.up g496.f
          replace s351 := ex_t g496.f s351
          replace a352 := a352.up g496.f
          replace r360 := r360.up g496.f
          replace s407 := g496.f _ _ s407
          replace a408 := a408.up g496.f
          replace s411 := g496.f _ _ s411
          replace a412 := a412.up g496.f
          replace r418 := r418.up g496.f
          replace s422 := g496.f _ _ s422
          replace a423 := a423.up g496.f
          replace r431 := r431.up g496.f
          replace s484 := g496.f _ _ s484
          replace a485 := a485.up g496.f
          refine cs kfb3 (fun _ kfb3 => ?_) (fun _ kfb3 => ?_)
          · exact (show Post (Mm.ok _) _ _ from kfb3.h).h _
          · exact kfb3.h _ _ _ gF494 ⟨_, _, _, _, _, _, _, _, _, _, rfl, w285⟩
    have g517 := g_.trans (g17.weak (by simp))
    have eF15 := g17.s
    obtain ⟨u518, u519, u520, u521, u522, u523, u524, u525, u526, u527, rfl, w528⟩ := i18
    show _ ∧ _
    refine new_tup (K := K) (M := []) eF15 .nil (by show 0 ≤ 100000; decide) fun v533 F529 H530 g531 r532 => ?_
    have eF529 := g531.s
    have gF529 := g517.trans (g531.weak (by simp))
    replace w528 := w528.keep g531
    replace r532 : Dq K F529 v533 (eV (e2 PyData.int PyData.int) []) := r532
    refine ⟨F529, _, [], rfl, eF529, r532, (post_bd k).mono (fun b534 k v539 F535 H536 g537 r538 => ?_) (fun _ z => z)⟩
    have eF535 := g537.s
    have gF535 := gF529.trans (g537.weak (by simp))
    replace w528 := w528.keep g537
    replace r532 := r532.up g537.f
    subst r538
    refine ⟨rfl, ?_⟩
    rw [decV_txt]
    refine ⟨_, rfl, ?_⟩
    refine cs k (fun _ k => ?_) (fun _ k => ?_)
    · show _ ∧ _
      refine new_tup (K := K) (M := []) eF535 (.cons (Dq.int (0 : Int)) (.cons (Dq.int (1 : Int)) .nil)) (by show 2 ≤ 100000; decide) fun v545 F541 H542 g543 r544 => ?_
      have eF541 := g543.s
      have gF541 := gF535.trans (g543.weak (by simp))
      replace w528 := w528.keep g543
      replace r532 := r532.up g543.f
      replace r544 : Dq K F541 v545 ((e2 PyData.int PyData.int) ((0 : Int), (1 : Int))) := r544
      refine ⟨_, _, rfl, rfl, ?_⟩
      show _ ∧ _
      refine new_tup (K := K) (M := []) eF541 (.cons (Dq.int ((0 : Int) - (1 : Int))) (.cons (Dq.int (1 : Int)) .nil)) (by show 2 ≤ 100000; decide) fun v550 F546 H547 g548 r549 => ?_
      have eF546 := g548.s
      have gF546 := gF541.trans (g548.weak (by simp))
      replace w528 := w528.keep g548
      replace r532 := r532.up g548.f
      replace r544 := r544.up g548.f
      replace r549 : Dq K F546 v550 ((e2 PyData.int PyData.int) (((0 : Int) - (1 : Int)), (1 : Int))) := r549
      show _ ∧ _
      refine new_tup (K := K) (M := []) eF546 (.cons (Dq.int (1 : Int)) (.cons (Dq.int (1 : Int)) .nil)) (by show 2 ≤ 100000; decide) fun v555 F551 H552 g553 r554 => ?_
      have eF551 := g553.s
      have gF551 := gF546.trans (g553.weak (by simp))
      replace w528 := w528.keep g553
      replace r532 := r532.up g553.f
      replace r544 := r544.up g553.f
      replace r549 := r549.up g553.f
      replace r554 : Dq K F551 v555 ((e2 PyData.int PyData.int) ((1 : Int), (1 : Int))) := r554
      show _ ∧ _
      refine new_tup (K := K) (M := []) eF551 (.cons (Dq.int (0 : Int)) (.cons (Dq.int (1 : Int)) .nil)) (by show 2 ≤ 100000; decide) fun v560 F556 H557 g558 r559 => ?_
      have eF556 := g558.s
      have gF556 := gF551.trans (g558.weak (by simp))
      replace w528 := w528.keep g558
      replace r532 := r532.up g558.f
      replace r544 := r544.up g558.f
      replace r549 := r549.up g558.f
      replace r554 := r554.up g558.f
      replace r559 : Dq K F556 v560 ((e2 PyData.int PyData.int) ((0 : Int), (1 : Int))) := r559
      show _ ∧ _
      refine new_tup (K := K) (M := []) eF556 (.cons r544 (.cons r549 (.cons r554 (.cons r559 .nil)))) (by show 4 ≤ 100000; decide) fun v565 F561 H562 g563 r564 => ?_
      have eF561 := g563.s
      have gF561 := gF556.trans (g563.weak (by simp))
      replace w528 := w528.keep g563
      replace r532 := r532.up g563.f
      replace r544 := r544.up g563.f
      replace r549 := r549.up g563.f
      replace r554 := r554.up g563.f
      replace r559 := r559.up g563.f
      replace r564 : Dq K F561 v565 ((eV (e2 PyData.int PyData.int)) [((0 : Int), (1 : Int)), (((0 : Int) - (1 : Int)), (1 : Int)), ((1 : Int), (1 : Int)), ((0 : Int), (1 : Int))]) := r564
      refine ⟨F561, _, [((0 : Int), (1 : Int)), (((0 : Int) - (1 : Int)), (1 : Int)), ((1 : Int), (1 : Int)), ((0 : Int), (1 : Int))], rfl, eF561, r564, (post_bd k).mono (fun b566 k v571 F567 H568 g569 r570 => ?_) (fun _ z => z)⟩
      have eF567 := g569.s
      have gF567 := gF561.trans (g569.weak (by simp))
      replace w528 := w528.keep g569
      replace r532 := r532.up g569.f
      replace r544 := r544.up g569.f
      replace r549 := r549.up g569.f
      replace r554 := r554.up g569.f
      replace r559 := r559.up g569.f
      replace r564 := r564.up g569.f
      subst r570
      refine ⟨rfl, ?_⟩
      rw [decV_txt]
      exact k.h _
    · exact k.h _
end L

set_option Elab.async false
set_option linter.all false
set_option maxRecDepth 100000
set_option maxHeartbeats 2000000
set_option exponentiation.threshold 100
namespace L
open PySem L2 Evl Wk
/-! ### fractions, in any terms -/
theorem lowest_any {a b : Int} {n : Nat} (h : b ≠ 0) (hb : b.natAbs < 2 ^ n) (hn : n < 9000) : lowest a b = .ok (fr ((a : Rat) / (b : Rat))) := by
  unfold lowest
  have g1 := Nat.lt_of_le_of_lt (gcd_leZ (a := a) h) hb
  have g0 := gcd_posZ (a := a) h
  by_cases q : b < 0
  · rw [cT (decide_eq_true q), bdo, div_any (by omega) (by rw [Int.natAbs_neg]; exact g1) hn, bdo, div_any (by omega) (by rw [Int.natAbs_neg]; exact g1) hn, bdo, fr_neg q]
  · rw [cF (decide_eq_false q), bdo, div_any (by omega) g1 hn, bdo, div_any (by omega) g1 hn, bdo, fr_pos (by omega)]
theorem lowest_ok {a b : Int} {n : Nat} (h : 0 < b) (hb : b.natAbs < 2 ^ n) (hn : n < 9000) : lowest a b = .ok (fr ((a : Rat) / (b : Rat))) := lowest_any (by omega) hb hn
theorem lowest_x {x : Int × Int} {q : Rat} {n : Nat} (h : Rx n x q) (hn : n < 9000) : lowest x.1 x.2 = .ok (fr q) := by rw [lowest_any h.nz h.b hn, h.v]
/-! ### places, weights, polynomials that are handed in -/
theorem weights_fold {f : Unit → Int × (Int × Int) → Mm Unit} {count : Int} (hf : ∀ s y, f s y = cond ((decide (y.1 = count)) || (decide (y.2.2 = (0 : Int)))) (Mm.bad) (Mm.ok ())) : ∀ (l : List (Int × Int)) (k : Int), k + l.length ≤ count → (∀ x ∈ l, x.2 ≠ 0) → foldM f () (numL k l) = .ok ()
  | [], k, _, _ => rfl
  | x :: l, k, h, hn => by
    rw [List.length_cons] at h
    unfold numL foldM
    rw [hf, cF (by rw [decide_eq_false (by show ¬ k = count; omega), decide_eq_false (hn x (List.mem_cons_self ..))]; rfl), bdo]
    exact weights_fold hf l (k + 1) (by omega) fun y hy => hn y (List.mem_cons_of_mem _ hy)
def toR (l : List Int) : List Rat := l.map fun x => ((x : Int) : Rat)
theorem toR_fr (l : List Int) : (toR l).map fr = l.map fun x => (x, (1 : Int)) := by
  unfold toR
  rw [List.map_map]
  exact List.map_congr_left fun x _ => fr_of_int x
theorem toR_sq {l : List Int} {c : Nat} (h : ∀ x ∈ l, x.natAbs < 2 ^ c) (h0 : 0 < c) : Sqs c (toR l) := fun q hq => by
  obtain ⟨x, hx, rfl⟩ := List.mem_map.mp hq
  exact sq_int (h x hx) h0
def zipR (ps ws : List Rat) (f : List Rat) : List Rat := (ps.zip ws).map fun x => x.2 * ev f x.1
def Rd (ps ws f : List Rat) : Rat := (zipR ps ws f).sum
/-! ### the law's own fractions -/
theorem law_low_any {a b : Int} {n : Nat} (h : b ≠ 0) (hb : b.natAbs < 2 ^ n) (hn : n < 9000) : law_low a b = .ok (fr ((a : Rat) / (b : Rat))) := by
  unfold law_low
  rw [euclid _ _ _ (abs_nn a) (abs_nn b) (by omega), abs_na, abs_na, bdo]
  have g1 := Nat.lt_of_le_of_lt (gcd_leZ (a := a) h) hb
  have g0 := gcd_posZ (a := a) h
  by_cases q : b > 0
  · rw [cT (decide_eq_true q), bdo, div_any (by omega) g1 hn, bdo, div_any (by omega) g1 hn, bdo, fr_pos q]
  · have e : (0 : Int) - ((Nat.gcd a.natAbs b.natAbs : Nat) : Int) = -((Nat.gcd a.natAbs b.natAbs : Nat) : Int) := by omega
    rw [cF (decide_eq_false q), bdo, e, div_any (by omega) (by rw [Int.natAbs_neg]; exact g1) hn, bdo, div_any (by omega) (by rw [Int.natAbs_neg]; exact g1) hn, bdo, fr_neg (by omega)]
theorem law_low_x {x : Int × Int} {q : Rat} {n : Nat} (h : Rx n x q) (hn : n < 9000) : law_low x.1 x.2 = .ok (fr q) := by rw [law_low_any h.nz h.b hn, h.v]
theorem law_add_x {x y : Int × Int} {p q : Rat} {a b : Nat} (hx : Rx a x p) (hy : Rx b y q) (h : a + b < 8999) : law_add x y = .ok (fr (p + q)) := by
  unfold law_add
  rw [mul_ok hx.t hy.b (by omega), bdo, mul_ok hy.t hx.b (by omega), bdo, mul_ok hx.b hy.b (by omega), bdo, law_low_any (mul_nz hx.nz hy.nz) (mul_lt hx.b hy.b (Nat.le_refl _)) (by omega), bdo, rx_add hx hy]
theorem law_times_x {x y : Int × Int} {p q : Rat} {a b : Nat} (hx : Rx a x p) (hy : Rx b y q) (h : a + b < 8999) : law_times x y = .ok (fr (p * q)) := by
  unfold law_times
  rw [mul_ok hx.t hy.t (by omega), bdo, mul_ok hx.b hy.b (by omega), bdo, law_low_any (mul_nz hx.nz hy.nz) (mul_lt hx.b hy.b (Nat.le_refl _)) (by omega), bdo, rx_mul hx hy]
theorem law_add_ok {p q : Rat} {a b : Nat} (ha : Sq a p) (hb : Sq b q) (h : a + b < 8999) : law_add (fr p) (fr q) = .ok (fr (p + q)) := law_add_x (rx_fr ha) (rx_fr hb) h
theorem law_times_ok {p q : Rat} {a b : Nat} (ha : Sq a p) (hb : Sq b q) (h : a + b < 8999) : law_times (fr p) (fr q) = .ok (fr (p * q)) := law_times_x (rx_fr ha) (rx_fr hb) h
/-! ### what the law draws -/
structure PlB (most : Nat) (x : List (Int × Int)) (ps : List Rat) : Prop where
  rx : All2 (fun p x => Rx 7 x p) ps x
  asc : ps.Pairwise (· < ·)
  len : ps.length ≤ most
  pos : 0 < ps.length
  dn : ∃ B : Int, 1 ≤ B ∧ B ≤ 3 ∧ ∀ p ∈ ps, ∃ s : Int, s.natAbs ≤ 40 ∧ p = (s : Rat) / (B : Rat)
theorem rat_lt_div {a b c : Int} (h : 0 < c) (k : a < b) : (a : Rat) / (c : Rat) < (b : Rat) / (c : Rat) := by
  have e : (a : Rat) < (b : Rat) := Rat.intCast_lt_intCast.mpr k
  have f : (0 : Rat) < (c : Rat) := Rat.intCast_pos.mpr h
  rw [Rat.div_def, Rat.div_def]
  exact Rat.mul_lt_mul_of_pos_right e (Rat.inv_pos.mpr f)
theorem law_fractions_ok {scr : List Int} {st : Rw} {n : Int} {N : Nat} (r : Rk N st) (h0 : 0 ≤ n) (h1 : n ≤ 100) (hN : N < 9000) : Yes (law_fractions scr st n) fun r => (∃ qs, All2 (fun q x => Rx 5 x q) qs r.1 ∧ (qs.length : Int) = n) ∧ Rk (N + 2 * n.toNat) r.2 := by
  unfold law_fractions
  rw [range_ok (by omega) (by omega), bdo]
  refine .guard (by rw [rangeL_len]; omega) ?_
  refine (yes_draws 2 (fun x : Int × Int => Rx 5 x ((x.1 : Rat) / (x.2 : Rat))) (rangeL 0 n.toNat) st N r (by rw [rangeL_len]; omega) fun s x M hx rk hM => ?_).bd fun c hc => ?_
  · refine (takenB_ok rk (by omega) (by omega) (by omega)).bd fun d hd => ?_
    refine (takenB_ok hd.2 (by omega) (by omega) (by omega)).bd fun e he => ?_
    obtain ⟨i, hi, gi⟩ := getM_ok (l := [(1 : Int), (1 : Int), (2 : Int), (6 : Int), ((0 : Int) - (4 : Int))]) he.1.1 (by show e.1 < 5; exact he.1.2)
    simp only [List.mem_cons, List.not_mem_nil, or_false] at hi
    have d1 := hd.1
    have e5 : (2 : Nat) ^ 5 = 32 := by decide
    exact .eq gi (.ok ⟨⟨by show i ≠ 0; omega, by show (d.1 - 20).natAbs < _; omega, by show i.natAbs < _; omega, rfl⟩, he.2⟩)
  · obtain ⟨⟨c1, c2⟩, c3⟩ := hc
    rw [rangeL_len] at c1 c3
    refine .ok ⟨⟨c.1.map fun x => (x.1 : Rat) / (x.2 : Rat), ?_, by rw [List.length_map]; show ((c.1.length : Nat) : Int) = n; omega⟩, c3⟩
    have k : ∀ l : List (Int × Int), (∀ y ∈ l, Rx 5 y ((y.1 : Rat) / (y.2 : Rat))) → All2 (fun q x => Rx 5 x q) (l.map fun x => (x.1 : Rat) / (x.2 : Rat)) l := fun l => by
      induction l with
      | nil => exact fun _ => .nil
      | cons y l ih => exact fun h => .cons (h y (List.mem_cons_self ..)) (ih fun z hz => h z (List.mem_cons_of_mem _ hz))
    exact k c.1 c2
/-! ### weightings that are right, their sums -/
theorem pow_fold {f : Int → Int → Mm Int} {base : Int} {b : Nat} (hb : base.natAbs < 2 ^ b) (hf : ∀ s x, f s x = (mulM s base).bd fun m => Mm.ok m) : ∀ (l : List Int) (s : Int) (a : Nat), s.natAbs < 2 ^ a → a + b * (l.length + 1) ≤ 900000 → foldM f s l = .ok (s * base ^ l.length)
  | [], s, a, _, _ => by simp [foldM]
  | x :: l, s, a, ha, h => by
    have e : a + b + b * (l.length + 1) ≤ 900000 := by
      rw [List.length_cons] at h
      have : b * (l.length + 1 + 1) = b * (l.length + 1) + b := by rw [Nat.mul_succ]
      omega
    unfold foldM
    rw [hf, mul_ok ha hb (by omega)]
    show foldM f (s * base) l = _
    rw [pow_fold hb hf l (s * base) (a + b) (mul_lt ha hb (Nat.le_refl _)) e, List.length_cons, Int.mul_assoc, Int.pow_succ']
theorem pow_lt {base : Int} {b : Nat} (hb : base.natAbs < 2 ^ b) : ∀ n : Nat, (base ^ n).natAbs < 2 ^ (b * n + 1)
  | 0 => by simp
  | n + 1 => by
    rw [Int.pow_succ]
    exact mul_lt (pow_lt hb n) hb (by rw [Nat.mul_succ]; omega)
theorem sum_lt {a : Nat} : ∀ l : List Int, (∀ x ∈ l, x.natAbs < 2 ^ a) → l.sum.natAbs < 2 ^ (a + l.length)
  | [], _ => by
    have := two_le (a + 0)
    show 0 < 2 ^ (a + 0)
    omega
  | x :: l, h => by
    rw [List.sum_cons]
    refine add_lt (h x (List.mem_cons_self ..)) (sum_lt l fun y hy => h y (List.mem_cons_of_mem _ hy)) ?_ ?_ <;> (rw [List.length_cons]; omega)
structure Good (w : Wt) : Prop where
  ms : ∀ m ∈ w.1, m.1.natAbs ≤ 20 ∧ 1 ≤ m.2 ∧ m.2 ≤ 20
  ss : ∀ s ∈ w.2, s.1.natAbs ≤ 20 ∧ s.2.1.natAbs ≤ 20 ∧ 1 ≤ s.2.2 ∧ s.2.2 ≤ 20 ∧ s.1 < s.2.1
  lm : w.1.length ≤ 6
  ls : w.2.length ≤ 4
  ne : w.1 ≠ [] ∨ w.2 ≠ []
def mI (k : Nat) (m : Int × Int) : Int := m.2 * m.1 ^ k
def sI (k : Nat) (s : Int × Int × Int) : Int := s.2.2 * (s.2.1 ^ (k + 1) - s.1 ^ (k + 1))
def PS (w : Wt) (k : Nat) : Rat := (((w.1.map (mI k)).sum * ((k : Int) + 1) + (w.2.map (sI k)).sum : Int) : Rat) / (((k : Int) + 1 : Int) : Rat)
theorem pow_lt20 {x : Int} {k : Nat} (h : x.natAbs ≤ 20) (hk : k ≤ 61) : (x ^ k).natAbs < 2 ^ 306 := up_lt (pow_lt (b := 5) (by omega) k) (by omega)
theorem mI_lt {k : Nat} {m : Int × Int} (h : m.1.natAbs ≤ 20 ∧ 1 ≤ m.2 ∧ m.2 ≤ 20) (hk : k ≤ 60) : (mI k m).natAbs < 2 ^ 320 :=
  mul_lt (a := 5) (by omega) (pow_lt20 h.1 (by omega)) (by decide)
theorem sI_lt {k : Nat} {s : Int × Int × Int} (h : s.1.natAbs ≤ 20 ∧ s.2.1.natAbs ≤ 20 ∧ 1 ≤ s.2.2 ∧ s.2.2 ≤ 20 ∧ s.1 < s.2.1) (hk : k ≤ 60) : (sI k s).natAbs < 2 ^ 320 :=
  mul_lt (a := 5) (by omega) (sub_lt (n := 307) (pow_lt20 h.2.1 (by omega)) (pow_lt20 h.1 (by omega)) (by decide) (by decide)) (by decide)
theorem small_lt {k : Nat} (hk : k ≤ 60) : ((k : Int) + 1).natAbs < 2 ^ 6 := by
  have : (2 : Nat) ^ 6 = 64 := by decide
  omega
theorem sums_lt {w : Wt} (g : Good w) {k : Nat} (hk : k ≤ 60) : (w.1.map (mI k)).sum.natAbs < 2 ^ 326 ∧ (w.2.map (sI k)).sum.natAbs < 2 ^ 326 := by
  constructor
  · refine up_lt (sum_lt (a := 320) _ fun x hx => ?_) (by rw [List.length_map]; have := g.lm; omega)
    obtain ⟨m, hm, rfl⟩ := List.mem_map.mp hx
    exact mI_lt (g.ms m hm) hk
  · refine up_lt (sum_lt (a := 320) _ fun x hx => ?_) (by rw [List.length_map]; have := g.ls; omega)
    obtain ⟨m, hm, rfl⟩ := List.mem_map.mp hx
    exact sI_lt (g.ss m hm) hk
theorem sq_PS {w : Wt} (g : Good w) {k : Nat} (hk : k ≤ 60) : Sq 340 (PS w k) := by
  obtain ⟨a, b⟩ := sums_lt g hk
  refine sq_div (by omega) ?_ (up_lt (small_lt hk) (by decide))
  exact add_lt (mul_lt a (small_lt hk) (Nat.le_refl _)) b (by decide) (by decide)
theorem whole_ok {n l h : Int} (a : l ≤ n) (b : n ≤ h) : whole_within n l h = .ok true := by
  unfold whole_within
  rw [decide_eq_true a, decide_eq_true b]
  rfl
theorem sum_cast {α : Type} (f : α → Int) : ∀ l : List α, (l.map fun x => ((f x : Int) : Rat)).sum = (((l.map f).sum : Int) : Rat)
  | [] => rfl
  | x :: l => by
    rw [List.map_cons, List.sum_cons, List.map_cons, List.sum_cons, sum_cast f l]
    push_cast
    rfl
theorem sum_castD {α : Type} (f : α → Int) (c : Rat) : ∀ l : List α, (l.map fun x => ((f x : Int) : Rat) / c).sum = (((l.map f).sum : Int) : Rat) / c
  | [] => by
    show (0 : Rat) = ((0 : Int) : Rat) / c
    push_cast
    grind
  | x :: l => by
    rw [List.map_cons, List.sum_cons, List.map_cons, List.sum_cons, sum_castD f c l]
    push_cast
    grind
theorem sum_nn : ∀ l : List Int, (∀ x ∈ l, 0 < x) → 0 ≤ l.sum ∧ (l ≠ [] → 0 < l.sum)
  | [], _ => ⟨by decide, fun h => absurd rfl h⟩
  | x :: l, h => by
    have a := (sum_nn l fun y hy => h y (List.mem_cons_of_mem _ hy)).1
    have b := h x (List.mem_cons_self ..)
    rw [List.sum_cons]
    exact ⟨by omega, fun _ => by omega⟩
theorem PS0_pos {w : Wt} (g : Good w) : 0 < PS w 0 := by
  have a := sum_nn (w.1.map (mI 0)) fun x hx => by
    obtain ⟨m, hm, rfl⟩ := List.mem_map.mp hx
    have := g.ms m hm
    unfold mI
    rw [Int.pow_zero]
    omega
  have b := sum_nn (w.2.map (sI 0)) fun x hx => by
    obtain ⟨s, hs, rfl⟩ := List.mem_map.mp hx
    have := g.ss s hs
    unfold sI
    rw [Int.pow_succ, Int.pow_zero, Int.pow_succ, Int.pow_zero, Int.one_mul, Int.one_mul]
    exact Int.mul_pos (by omega) (by omega)
  have c : 0 < (w.1.map (mI 0)).sum + (w.2.map (sI 0)).sum := by
    rcases g.ne with h | h
    · have := a.2 (by simpa using h)
      omega
    · have := b.2 (by simpa using h)
      omega
  unfold PS
  have e : (((w.1.map (mI 0)).sum * (((0 : Nat) : Int) + 1) + (w.2.map (sI 0)).sum : Int) : Rat) / (((((0 : Nat) : Int) + 1 : Int)) : Rat) = (((w.1.map (mI 0)).sum + (w.2.map (sI 0)).sum : Int) : Rat) := by
    push_cast
    grind
  rw [e]
  exact Rat.intCast_pos.mpr c
theorem pow_lt12 {x : Int} {k : Nat} (h : x.natAbs ≤ 20) (hk : k ≤ 13) : (x ^ k).natAbs < 2 ^ 66 := up_lt (pow_lt (b := 5) (by omega) k) (by omega)
theorem sq_PS12 {w : Wt} (g : Good w) {k : Nat} (hk : k ≤ 12) : Sq 90 (PS w k) := by
  have sm : ((k : Int) + 1).natAbs < 2 ^ 4 := by
    have : (2 : Nat) ^ 4 = 16 := by decide
    omega
  have a : (w.1.map (mI k)).sum.natAbs < 2 ^ 80 := by
    refine up_lt (sum_lt (a := 72) _ fun x hx => ?_) (by rw [List.length_map]; have := g.lm; omega)
    obtain ⟨m, hm, rfl⟩ := List.mem_map.mp hx
    have q := g.ms m hm
    exact mul_lt (a := 5) (by omega) (pow_lt12 q.1 (by omega)) (by decide)
  have b : (w.2.map (sI k)).sum.natAbs < 2 ^ 80 := by
    refine up_lt (sum_lt (a := 72) _ fun x hx => ?_) (by rw [List.length_map]; have := g.ls; omega)
    obtain ⟨s, hs, rfl⟩ := List.mem_map.mp hx
    have q := g.ss s hs
    exact mul_lt (a := 5) (by omega) (sub_lt (n := 67) (pow_lt12 q.2.1 (by omega)) (pow_lt12 q.1 (by omega)) (by decide) (by decide)) (by decide)
  refine sq_div (by omega) ?_ (up_lt sm (by decide))
  exact add_lt (mul_lt a sm (Nat.le_refl _)) b (by decide) (by decide)
def tW (w : Wt) (x : Int × Rat) : Rat := x.2 * PS w x.1.toNat
def WS (w : Wt) (l : List Rat) : Rat := ((numL 0 l).map (tW w)).sum
structure MsOk (ms : Ms) : Prop where
  each : ∀ m ∈ ms, m.1.natAbs ≤ 20 ∧ 1 ≤ m.2 ∧ m.2 ≤ 20
  asc : (ms.map (·.1)).Pairwise (· < ·)
  len : ms.length ≤ 6
theorem zeroW : MsOk [(0, 1)] := ⟨by decide, by decide, by decide⟩
def SsTo : Int → Ss → Int → Prop
  | a, [], z => a ≤ z
  | a, s :: l, z => a ≤ s.1 ∧ s.1 < s.2.1 ∧ 1 ≤ s.2.2 ∧ s.2.2 ≤ 20 ∧ SsTo s.2.1 l z
theorem SsTo.le : ∀ {l : Ss} {a z : Int}, SsTo a l z → a ≤ z
  | [], _, _, h => h
  | s :: l, a, z, h => by
    have := SsTo.le h.2.2.2.2
    have := h.1
    have := h.2.1
    omega
theorem SsTo.up : ∀ {l : Ss} {a z z' : Int}, SsTo a l z → z ≤ z' → SsTo a l z'
  | [], _, _, _, h, k => Int.le_trans h k
  | s :: l, _, _, _, ⟨a, b, c, d, e⟩, k => ⟨a, b, c, d, SsTo.up e k⟩
theorem SsTo.low : ∀ {l : Ss} {a a' z : Int}, SsTo a l z → a' ≤ a → SsTo a' l z
  | [], _, _, _, h, k => Int.le_trans k h
  | s :: l, _, _, _, ⟨a, b, c, d, e⟩, k => ⟨Int.le_trans k a, b, c, d, e⟩
theorem SsTo.app {lo hi h : Int} : ∀ {l : Ss} {a y : Int}, SsTo a l y → y ≤ lo → lo < hi → 1 ≤ h → h ≤ 20 → SsTo a (l ++ [(lo, hi, h)]) hi
  | [], a, y, h1, h2, h3, h4, h5 => ⟨Int.le_trans h1 h2, h3, h4, h5, Int.le_refl _⟩
  | s :: l, a, y, ⟨a1, b, c, d, e⟩, h2, h3, h4, h5 => ⟨a1, b, c, d, SsTo.app e h2 h3 h4 h5⟩
theorem SsTo.each : ∀ {l : Ss} {a z : Int}, SsTo a l z → -20 ≤ a → z ≤ 20 → ∀ s ∈ l, s.1.natAbs ≤ 20 ∧ s.2.1.natAbs ≤ 20 ∧ 1 ≤ s.2.2 ∧ s.2.2 ≤ 20 ∧ s.1 < s.2.1
  | [], _, _, _, _, _, _, h => by cases h
  | t :: l, a, z, ⟨a1, b, c, d, e⟩, ha, hz, s, h => by
    have := SsTo.le e
    rcases List.mem_cons.mp h with rfl | h
    · omega
    · exact SsTo.each e (by omega) hz s h
theorem is_place_ok {n : Int} (h : n.natAbs ≤ 20) : is_place n = .ok true := by
  unfold is_place
  rw [whole_ok (by omega) (by omega)]
  rfl
theorem is_mass_ok {n : Int} (h : 1 ≤ n) (h2 : n ≤ 20) : is_mass n = .ok true := by
  unfold is_mass
  rw [whole_ok h h2]
  rfl
theorem check_masses_ok {ms : Ms} (g : MsOk ms) : check_masses ms = .ok () := by
  unfold check_masses
  rw [enumL_eq]
  have k : ∀ (l : Ms) (k a : Int), 0 ≤ k → k + l.length ≤ 6 → (∀ m ∈ l, m.1.natAbs ≤ 20 ∧ 1 ≤ m.2 ∧ m.2 ≤ 20) → (l.map (·.1)).Pairwise (· < ·) → (∀ m ∈ l, a < m.1) →
      ∃ r, foldM (fun (b5 : Int) (x6 : (Int × (Int × Int))) => (cond (decide (x6.1 = (6 : Int))) (Mm.ok true) ((is_place (x6.2.1)).bd fun b42 => (cond (!b42) (Mm.ok true) ((is_mass (x6.2.2)).bd fun b53 => Mm.ok ((!b53) || (decide (x6.2.1 ≤ b5))))).bd fun b49 => Mm.ok b49)).bd fun b38 => cond b38 (Mm.bad) (Mm.ok x6.2.1)) a (numL k l) = .ok r := by
    intro l
    induction l with
    | nil => intro k a _ _ _ _ _; exact ⟨a, rfl⟩
    | cons m l ih =>
      intro k a h0 h1 h2 h3 h4
      obtain ⟨q1, q2⟩ := List.pairwise_cons.mp (show (m.1 :: l.map (·.1)).Pairwise (· < ·) from h3)
      obtain ⟨r, hr⟩ := ih (k + 1) m.1 (by omega) (by rw [List.length_cons] at h1; omega) (fun x hx => h2 x (List.mem_cons_of_mem _ hx)) q2 (fun x hx => q1 x.1 (List.mem_map_of_mem hx))
      refine ⟨r, ?_⟩
      have hm := h2 m (List.mem_cons_self ..)
      have ha := h4 m (List.mem_cons_self ..)
      unfold numL foldM
      rw [show decide ((k, m).1 = 6) = false from decide_eq_false (by show ¬ k = 6; rw [List.length_cons] at h1; omega)]
      simp only [bdo, cond_false, cond_true, Bool.not_true, Bool.false_or, is_place_ok hm.1, is_mass_ok hm.2.1 hm.2.2, decide_eq_false (show ¬ m.1 ≤ a by omega)]
      exact hr
  obtain ⟨r, hr⟩ := k ms 0 (-20 - 1) (by decide) (by have := g.len; omega) g.each g.asc (fun m hm => by have := g.each m hm; omega)
  rw [hr]
  rfl
theorem check_stretches_ok {ss : Ss} {z : Int} (g : SsTo (-20) ss z) (hz : z ≤ 20) (hl : ss.length ≤ 4) : check_stretches ss = .ok () := by
  unfold check_stretches
  rw [enumL_eq]
  have k : ∀ (l : Ss) (k a : Int), 0 ≤ k → k + l.length ≤ 4 → -20 ≤ a → SsTo a l z →
      ∃ r, foldM (fun (b5 : Int) (x6 : (Int × (Int × Int × Int))) => (cond (decide (x6.1 = (4 : Int))) (Mm.ok true) ((is_place (x6.2.1)).bd fun b45 => (cond (!b45) (Mm.ok true) ((is_place (x6.2.2.1)).bd fun b56 => (cond (!b56) (Mm.ok true) ((is_mass (x6.2.2.2)).bd fun b67 => Mm.ok (!b67))).bd fun b63 => Mm.ok b63)).bd fun b52 => Mm.ok b52)).bd fun b41 => cond b41 (Mm.bad) (cond ((decide (x6.2.1 < b5)) || (decide (x6.2.2.1 ≤ x6.2.1))) (Mm.bad) (Mm.ok x6.2.2.1))) a (numL k l) = .ok r := by
    intro l
    induction l with
    | nil => intro k a _ _ _ _; exact ⟨a, rfl⟩
    | cons m l ih =>
      intro k a h0 h1 h2 h3
      obtain ⟨q1, q2, q3, q4, q5⟩ := h3
      have q6 := q5.le
      obtain ⟨r, hr⟩ := ih (k + 1) m.2.1 (by omega) (by rw [List.length_cons] at h1; omega) (by omega) q5
      refine ⟨r, ?_⟩
      unfold numL foldM
      rw [show decide ((k, m).1 = 4) = false from decide_eq_false (by show ¬ k = 4; rw [List.length_cons] at h1; omega)]
      simp only [bdo, cond_false, cond_true, Bool.not_true, Bool.false_or, is_place_ok (show m.1.natAbs ≤ 20 by omega), is_place_ok (show m.2.1.natAbs ≤ 20 by omega), is_mass_ok q3 q4, decide_eq_false (show ¬ m.1 < a by omega), decide_eq_false (show ¬ m.2.1 ≤ m.1 by omega)]
      exact hr
  obtain ⟨r, hr⟩ := k ss 0 (-20) (by decide) (by omega) (by decide) g
  rw [hr]
  rfl
structure WOk (w : Wt) : Prop where
  ms : MsOk w.1
  ss : SsTo (-20) w.2 20
  ls : w.2.length ≤ 4
  ne : w.1 ≠ [] ∨ w.2 ≠ []
theorem WOk.good {w : Wt} (h : WOk w) : Good w := ⟨h.ms.each, h.ss.each (by decide) (by decide), h.ms.len, h.ls, h.ne⟩
theorem map_id3 (l : Ss) : l.map (fun x => (x.1, x.2.1, x.2.2)) = l := by
  conv => rhs; rw [← List.map_id l]
  rfl
theorem map_id2 (l : Ms) : l.map (fun x => (x.1, x.2)) = l := by
  conv => rhs; rw [← List.map_id l]
  rfl
theorem init_ok {w : Wt} (h : WOk w) : Weighting_init w.1 w.2 = .ok w := by
  have hm := h.ms.len
  have hs := h.ls
  unfold Weighting_init
  rw [check_masses_ok h.ms]
  show (check_stretches w.2).bd _ = _
  rw [check_stretches_ok h.ss (by decide) h.ls]
  have e : cond (decide ((w.1.length : Int) = 0)) (Mm.ok (decide ((w.2.length : Int) = 0))) (Mm.ok false) = Mm.ok false := by
    by_cases q : (w.1.length : Int) = 0
    · rw [decide_eq_true q]
      rcases h.ne with n | n
      · exact absurd (List.length_eq_zero_iff.mp (by omega)) n
      · rw [decide_eq_false (show ¬ (w.2.length : Int) = 0 from fun z => n (List.length_eq_zero_iff.mp (by omega)))]
        rfl
    · rw [decide_eq_false q]
      rfl
  show Mm.bd (cond (decide ((w.1.length : Int) = 0)) (Mm.ok (decide ((w.2.length : Int) = 0))) (Mm.ok false)) _ = _
  rw [e]
  show (guardM _).bd _ = _
  rw [bd_guard (by omega), mapMm_eq (f := fun (x28 : Int × Int) => Mm.ok (x28.1, x28.2)) (g := fun x => (x.1, x.2)) _ fun x hx => rfl, map_id2]
  show (guardM _).bd _ = _
  rw [bd_guard (by omega), mapMm_eq (f := fun (x75 : Int × Int × Int) => Mm.ok (x75.1, x75.2.1, x75.2.2)) (g := fun x => (x.1, x.2.1, x.2.2)) _ fun x hx => rfl, map_id3]
  rfl
/-! ### polynomials by their roots -/
def rp (p : Rat) : Rat → List Rat → List Rat
  | z, [] => [z]
  | z, x :: l => (z - x * p) :: rp p x l
theorem rp_len (p : Rat) : ∀ (l : List Rat) (z : Rat), (rp p z l).length = l.length + 1
  | [], _ => rfl
  | x :: l, z => by
    unfold rp
    rw [List.length_cons, rp_len p l, List.length_cons]
theorem zip_rp (p : Rat) : ∀ (l : List Rat) (z : Rat), ((z :: l).zip (l.map (· * p) ++ [0])).map (fun x => x.1 - x.2) = rp p z l
  | [], z => by
    show [z - 0] = [z]
    congr 1
    grind
  | x :: l, z => by
    rw [List.map_cons, List.cons_append, List.zip_cons_cons, List.map_cons, zip_rp p l x]
    rfl
def WRf (ps l : List Rat) : List Rat := ps.foldl (fun l p => rp p 0 l) l
def WR (ps : List Rat) : List Rat := WRf ps [1]
theorem WRf_len : ∀ (ps l : List Rat), (WRf ps l).length = l.length + ps.length
  | [], l => rfl
  | p :: ps, l => by
    show (WRf ps (rp p 0 l)).length = _
    rw [WRf_len ps, rp_len, List.length_cons]
    omega
theorem WR_len (ps : List Rat) : (WR ps).length = ps.length + 1 := by
  unfold WR
  rw [WRf_len]
  show 1 + _ = _
  omega
/-! ### what has a bottom in common -/
def Dv (D : Int) (a : Nat) (q : Rat) : Prop := ∃ n : Int, q = (n : Rat) / (D : Rat) ∧ n.natAbs < 2 ^ a
theorem Dv.sq {D : Int} {a : Nat} {q : Rat} (h : Dv D a q) (h0 : 0 < D) (hD : D.natAbs < 2 ^ a) : Sq a q := by
  obtain ⟨n, rfl, hn⟩ := h
  exact sq_div h0 hn hD
theorem Dv.up {D : Int} {a b : Nat} {q : Rat} (h : Dv D a q) (k : a ≤ b) : Dv D b q := by
  obtain ⟨n, e, hn⟩ := h
  exact ⟨n, e, up_lt hn k⟩
theorem dv_zero {D : Int} {a : Nat} : Dv D a 0 := ⟨0, by push_cast; grind, by have := two_le a; show 0 < 2 ^ a; omega⟩
theorem dv_step {D B : Int} {a e : Nat} {z x p : Rat} (hD : 0 < D) (hB : 0 < B) (hz : Dv D a z) (hx : Dv D a x) (hp : Dv B e p) (hBe : B.natAbs < 2 ^ e) : Dv (D * B) (a + e + 1) (z - x * p) := by
  obtain ⟨n, rfl, hn⟩ := hz
  obtain ⟨m, rfl, hm⟩ := hx
  obtain ⟨s, rfl, hs⟩ := hp
  refine ⟨n * B - m * s, ?_, sub_lt (mul_lt hn hBe (Nat.le_refl _)) (mul_lt hm hs (Nat.le_refl _)) (by omega) (by omega)⟩
  have k1 := intc_ne (n := D) (by omega)
  have k2 := intc_ne (n := B) (by omega)
  push_cast
  grind
theorem dv_last {D B : Int} {a e : Nat} {z : Rat} (hD : 0 < D) (hB : 0 < B) (hz : Dv D a z) (hBe : B.natAbs < 2 ^ e) : Dv (D * B) (a + e + 1) z := by
  obtain ⟨n, rfl, hn⟩ := hz
  refine ⟨n * B, ?_, mul_lt hn hBe (by omega)⟩
  have k1 := intc_ne (n := D) (by omega)
  have k2 := intc_ne (n := B) (by omega)
  push_cast
  grind
theorem rp_dv {D B : Int} {a e : Nat} {p : Rat} (hD : 0 < D) (hB : 0 < B) (hp : Dv B e p) (hBe : B.natAbs < 2 ^ e) : ∀ (l : List Rat) (z : Rat), Dv D a z → (∀ x ∈ l, Dv D a x) → ∀ q ∈ rp p z l, Dv (D * B) (a + e + 1) q
  | [], z, hz, _, q, hq => by
    rw [List.mem_singleton.mp hq]
    exact dv_last hD hB hz hBe
  | x :: l, z, hz, hl, q, hq => by
    have hx := hl x (List.mem_cons_self ..)
    rcases List.mem_cons.mp hq with rfl | hq
    · exact dv_step hD hB hz hx hp hBe
    · exact rp_dv hD hB hp hBe l x hx (fun y hy => hl y (List.mem_cons_of_mem _ hy)) q hq
theorem wrf_dv {B : Int} {e : Nat} (hB : 0 < B) (hBe : B.natAbs < 2 ^ e) : ∀ (ps l : List Rat) (D : Int) (a : Nat), 0 < D → (∀ p ∈ ps, Dv B e p) → (∀ x ∈ l, Dv D a x) → ∀ q ∈ WRf ps l, Dv (D * B ^ ps.length) (a + (e + 1) * ps.length) q
  | [], l, D, a, _, _, hl, q, hq => by
    rw [List.length_nil, Int.pow_zero, Int.mul_one]
    exact hl q hq
  | p :: ps, l, D, a, hD, hp, hl, q, hq => by
    have h := wrf_dv hB hBe ps (rp p 0 l) (D * B) (a + e + 1) (Int.mul_pos hD hB) (fun q hq => hp q (List.mem_cons_of_mem _ hq)) (rp_dv hD hB (hp p (List.mem_cons_self ..)) hBe l 0 dv_zero hl) q hq
    have e1 : D * B * B ^ ps.length = D * B ^ (p :: ps).length := by rw [List.length_cons, Int.pow_succ, Int.mul_assoc, Int.mul_comm B]
    have e2 : a + e + 1 + (e + 1) * ps.length = a + (e + 1) * (p :: ps).length := by rw [List.length_cons, Nat.mul_succ]; omega
    rw [e1, e2] at h
    exact h
structure PB (B : Int) (e : Nat) (ps : List Rat) : Prop where
  b0 : 0 < B
  be : B.natAbs < 2 ^ e
  each : ∀ p ∈ ps, Dv B e p
theorem PB.sq {B : Int} {e : Nat} {ps : List Rat} (h : PB B e ps) : Sqs e ps := fun p hp => (h.each p hp).sq h.b0 h.be
theorem PB.sub {B : Int} {e : Nat} {ps qs : List Rat} (h : PB B e ps) (k : ∀ p ∈ qs, p ∈ ps) : PB B e qs := ⟨h.b0, h.be, fun p hp => h.each p (k p hp)⟩
theorem pow_ltZ {B : Int} {e : Nat} (h : B.natAbs < 2 ^ e) : ∀ n : Nat, (B ^ n).natAbs < 2 ^ (e * n + 1)
  | 0 => by simp
  | n + 1 => by
    rw [Int.pow_succ]
    exact mul_lt (pow_ltZ h n) h (by rw [Nat.mul_succ]; omega)
theorem pow_posZ {B : Int} (h : 0 < B) : ∀ n : Nat, 0 < B ^ n
  | 0 => by rw [Int.pow_zero]; decide
  | n + 1 => by
    rw [Int.pow_succ]
    exact Int.mul_pos (pow_posZ h n) h
theorem dv_one {a : Nat} : Dv 1 (a + 1) 1 := ⟨1, by decide +kernel, by have := two_le a; show 1 < 2 ^ (a + 1); rw [Nat.pow_succ]; omega⟩
theorem WR_sq {B : Int} {e : Nat} {ps : List Rat} (h : PB B e ps) : Sqs (1 + (e + 1) * ps.length) (WR ps) := fun q hq => by
  have d := wrf_dv h.b0 h.be ps [1] 1 1 (by decide) h.each (fun x hx => by rw [List.mem_singleton.mp hx]; exact dv_one) q hq
  rw [Int.one_mul] at d
  refine d.sq (pow_posZ h.b0 _) (up_lt (pow_ltZ h.be _) ?_)
  rw [Nat.succ_mul]
  omega
/-! ### values -/
theorem ev_rp (p x : Rat) : ∀ (l : List Rat) (z : Rat), ev (rp p z l) x = z + ev l x * (x - p)
  | [], z => by
    show z + x * 0 = z + 0 * (x - p)
    grind
  | c :: l, z => by
    show (z - c * p) + x * ev (rp p c l) x = z + (c + x * ev l x) * (x - p)
    rw [ev_rp p x l c]
    grind
def prd (x : Rat) (ps : List Rat) : Rat := ps.foldl (fun a p => a * (x - p)) 1
theorem prd_from (x : Rat) : ∀ (ps : List Rat) (a : Rat), ps.foldl (fun a p => a * (x - p)) a = a * prd x ps
  | [], a => by
    show a = a * 1
    grind
  | p :: ps, a => by
    unfold prd
    rw [List.foldl_cons, List.foldl_cons, prd_from x ps, prd_from x ps]
    grind
theorem prd_cons (x p : Rat) (ps : List Rat) : prd x (p :: ps) = (x - p) * prd x ps := by
  unfold prd
  rw [List.foldl_cons, prd_from]
  show 1 * (x - p) * prd x ps = _
  unfold prd
  grind
theorem ev_WRf (x : Rat) : ∀ (ps l : List Rat), ev (WRf ps l) x = ev l x * prd x ps
  | [], l => by
    show ev l x = ev l x * 1
    grind
  | p :: ps, l => by
    show ev (WRf ps (rp p 0 l)) x = _
    rw [ev_WRf x ps, ev_rp, prd_cons]
    grind
theorem ev_WR (x : Rat) (ps : List Rat) : ev (WR ps) x = prd x ps := by
  unfold WR
  rw [ev_WRf]
  show (1 + x * 0) * _ = _
  grind
theorem prd_ne {x : Rat} : ∀ {ps : List Rat}, x ∉ ps → prd x ps ≠ 0
  | [], _ => by
    show (1 : Rat) ≠ 0
    decide
  | p :: ps, h => by
    have h1 : x ≠ p := fun e => h (by rw [e]; exact List.mem_cons_self ..)
    have h2 := prd_ne (x := x) (ps := ps) fun e => h (List.mem_cons_of_mem _ e)
    rw [prd_cons]
    intro z
    rcases Rat.mul_eq_zero.mp z with q | q
    · exact h1 (by grind)
    · exact h2 q
theorem prd_zero {x : Rat} : ∀ {ps : List Rat}, x ∈ ps → prd x ps = 0
  | [], h => by cases h
  | p :: ps, h => by
    rw [prd_cons]
    rcases List.mem_cons.mp h with rfl | h
    · grind
    · rw [prd_zero h]
      grind
theorem prd_sq {B : Int} {e : Nat} {x : Rat} : ∀ {ps : List Rat}, 0 < B → B.natAbs < 2 ^ e → Dv B e x → (∀ p ∈ ps, Dv B e p) → Sq (1 + (e + 1) * ps.length) (prd x ps)
  | [], _, _, _, _ => one_sq
  | p :: ps, hB, hBe, hx, hp => by
    have ih := prd_sq (ps := ps) hB hBe hx fun q hq => hp q (List.mem_cons_of_mem _ hq)
    have d : Sq (e + 1) (x - p) := by
      obtain ⟨n, rfl, hn⟩ := hx
      obtain ⟨m, rfl, hm⟩ := hp p (List.mem_cons_self ..)
      have k := intc_ne (n := B) (by omega)
      have e1 : (n : Rat) / (B : Rat) - (m : Rat) / (B : Rat) = ((n - m : Int) : Rat) / (B : Rat) := by
        push_cast
        grind
      rw [e1]
      exact sq_div hB (sub_lt hn hm (by omega) (by omega)) (up_lt hBe (by omega))
    rw [prd_cons]
    exact sq_mul d ih (by rw [List.length_cons, Nat.mul_succ]; omega)
/-! ### the polynomial that is 1 at one place and 0 at the others -/
def oth (ps : List Rat) (i : Nat) : List Rat := ps.take i ++ ps.drop (i + 1)
def LB (ps : List Rat) (i : Nat) : List Rat := (WR (oth ps i)).map fun c => c / prd (ps.getD i 0) (oth ps i)
theorem oth_len {ps : List Rat} {i : Nat} (h : i < ps.length) : (oth ps i).length = ps.length - 1 := by
  unfold oth
  rw [List.length_append, List.length_take, List.length_drop]
  omega
theorem oth_mem {ps : List Rat} {i : Nat} {q : Rat} (h : q ∈ oth ps i) : q ∈ ps := by
  rcases List.mem_append.mp h with h | h
  · exact List.mem_of_mem_take h
  · exact List.mem_of_mem_drop h
theorem oth_not {ps : List Rat} {i : Nat} (ha : ps.Pairwise (· < ·)) (h : i < ps.length) : ps[i] ∉ oth ps i := by
  have e : ps = ps.take i ++ ps[i] :: ps.drop (i + 1) := by
    rw [← List.drop_eq_getElem_cons h, List.take_append_drop]
  have k : ∀ (l r : List Rat) (x : Rat), (l ++ x :: r).Pairwise (· < ·) → x ∉ l ++ r := fun l r x hp hx => by
    obtain ⟨_, h2, h3⟩ := List.pairwise_append.mp hp
    rcases List.mem_append.mp hx with q | q
    · exact absurd (h3 x q x (List.mem_cons_self ..)) (by grind)
    · exact absurd ((List.pairwise_cons.mp h2).1 x q) (by grind)
  exact k _ _ _ (by rw [← e]; exact ha)
theorem getD_at {ps : List Rat} {i : Nat} (h : i < ps.length) : ps.getD i 0 = ps[i] := by
  rw [List.getD_eq_getElem?_getD, List.getElem?_eq_getElem h]
  rfl
theorem cut_lo {α : Type} (l : List α) (n : Nat) (h : n ≤ l.length) : cutL l none (some (n : Int)) = l.take n := by
  unfold cutL
  rw [HT.sIx_none, HT.sIx_nat, Nat.min_eq_left h]
  rfl
theorem cut_hi {α : Type} (l : List α) (n : Nat) (h : n ≤ l.length) : cutL l (some (n : Int)) none = l.drop n := by
  unfold cutL
  rw [HT.sIx_none, HT.sIx_nat, Nat.min_eq_left h]
  exact List.take_of_length_le (by rw [List.length_drop]; omega)
theorem LB_len {ps : List Rat} {i : Nat} (h : i < ps.length) : (LB ps i).length = ps.length := by
  unfold LB
  rw [List.length_map, WR_len, oth_len h]
  omega
theorem LB_sq {B : Int} {e : Nat} {ps : List Rat} (hp : PB B e ps) (ha : ps.Pairwise (· < ·)) {i : Nat} (h : i < ps.length) : Sqs (2 * (1 + (e + 1) * (ps.length - 1))) (LB ps i) := fun q hq => by
  have ho : PB B e (oth ps i) := hp.sub fun p hp => oth_mem hp
  obtain ⟨c, hc, rfl⟩ := List.mem_map.mp hq
  have s1 := WR_sq ho c hc
  have s2 := prd_sq (ps := oth ps i) hp.b0 hp.be (hp.each ps[i] (List.getElem_mem h)) ho.each
  rw [oth_len h] at s1 s2
  have ne := prd_ne (oth_not ha h)
  rw [getD_at h]
  exact sq_divB s1 s2 ne (by omega)
/-! ### weights -/
def Wts (w : Wt) (ps : List Rat) : List Rat := (List.range ps.length).map fun i => WS w (LB ps i)
theorem Wts_len (w : Wt) (ps : List Rat) : (Wts w ps).length = ps.length := by
  unfold Wts
  rw [List.length_map, List.length_range]
theorem WS_sq {w : Wt} (g : Good w) {B : Int} {e : Nat} {ps : List Rat} (hp : PB B e ps) (ha : ps.Pairwise (· < ·)) (hl : ps.length ≤ 6) (he : e ≤ 30) {i : Nat} (h : i < ps.length) : Sq (1 + (2 * (1 + (e + 1) * (ps.length - 1)) + 91) * ps.length) (WS w (LB ps i)) := by
  have sL := LB_sq hp ha h
  have k : ∀ l : List (Int × Rat), (∀ x ∈ l, Sq (2 * (1 + (e + 1) * (ps.length - 1)) + 90) (tW w x)) → Sq (1 + (2 * (1 + (e + 1) * (ps.length - 1)) + 91) * l.length) (l.map (tW w)).sum := fun l => by
    induction l with
    | nil => intro _; exact zero_sqn (by omega)
    | cons x l ih =>
      intro hx
      rw [List.map_cons, List.sum_cons]
      exact sq_add (hx x (List.mem_cons_self ..)) (ih fun y hy => hx y (List.mem_cons_of_mem _ hy)) (by rw [List.length_cons, Nat.mul_succ]; omega)
  have q := k (numL 0 (LB ps i)) fun x hx => by
    obtain ⟨a, b, m⟩ := numL_mem _ 0 x hx
    have := LB_len h
    exact sq_mul (sL _ m) (sq_PS12 g (by omega)) (Nat.le_refl _)
  rw [numL_len, LB_len h] at q
  exact q
/-! ### indexes -/
theorem filMm_eq {α γ : Type} {f : α → Mm (Option γ)} (g : α → Option γ) : ∀ l : List α, (∀ x ∈ l, f x = .ok (g x)) → filMm f l = .ok (l.filterMap g)
  | [], _ => rfl
  | x :: l, h => by
    unfold filMm
    rw [h x (List.mem_cons_self ..), bdo, filMm_eq g l fun y hy => h y (List.mem_cons_of_mem _ hy), bdo, List.filterMap_cons]
    cases g x <;> rfl
theorem filMm_map {α β γ : Type} {f : β → Mm (Option γ)} {g : α → β} : ∀ l : List α, filMm f (l.map g) = filMm (fun x => f (g x)) l
  | [] => rfl
  | x :: l => by
    rw [List.map_cons]
    unfold filMm
    rw [filMm_map l]
theorem numL_fst {α : Type} : ∀ (l : List α) (k : Int), (numL k l).map (·.1) = rangeL k l.length
  | [], k => rfl
  | x :: l, k => by
    unfold numL
    rw [List.map_cons, numL_fst l, List.length_cons, rangeL_succ]
theorem numL_at {α : Type} {l : List α} {y : Int × α} (h : y ∈ numL 0 l) : l[y.1.toNat]? = some y.2 ∧ 0 ≤ y.1 := by
  have k : ∀ (l pre : List α) (y : Int × α), y ∈ numL (pre.length : Int) l → (pre ++ l)[y.1.toNat]? = some y.2 := fun l => by
    induction l with
    | nil => intro pre y h; cases h
    | cons x l ih =>
      intro pre y h
      rcases List.mem_cons.mp h with rfl | h
      · show (pre ++ x :: l)[((pre.length : Int)).toNat]? = some x
        rw [Int.toNat_natCast]
        simp
      · have := ih (pre ++ [x]) y (by rw [List.length_append, List.length_singleton]; exact h)
        simpa using this
  exact ⟨by simpa using k l [] y h, (numL_mem l 0 y h).1⟩
def idx (P : Rat → Bool) (l : List Rat) : List Int := (numL 0 l).filterMap fun y => if P y.2 then some y.1 else none
theorem idx_prog {f : Int × (Int × Int) → Mm (Option Int)} (P : Rat → Bool) (l : List Rat) (hf : ∀ (i : Int) (q : Rat), q ∈ l → f (i, fr q) = .ok (if P q then some i else none)) : filMm f (enumL (l.map fr)) = .ok (idx P l) := by
  rw [enumL_eq, numL_map, filMm_map]
  exact filMm_eq _ _ fun y hy => hf y.1 y.2 (numL_mem l 0 y hy).2.2
theorem idx_law {f : Int → Mm (Option Int)} (P : Rat → Bool) (l : List Rat) (hf : ∀ (i : Nat) (q : Rat), l[i]? = some q → f (i : Int) = .ok (if P q then some (i : Int) else none)) : filMm f (rangeL 0 l.length) = .ok (idx P l) := by
  rw [← numL_fst, filMm_map]
  refine filMm_eq _ _ fun y hy => ?_
  obtain ⟨h1, h2⟩ := numL_at hy
  have e : y.1 = ((y.1.toNat : Nat) : Int) := by omega
  have := hf y.1.toNat y.2 h1
  rw [← e] at this
  exact this
theorem fr_isz (q : Rat) : decide (fr q = ((0, 1) : Int × Int)) = decide (q = 0) := by
  rw [← fr_zero]
  exact decide_eq_decide.mpr ⟨fr_inj, fun h => by rw [h]⟩
theorem fr_isp (q : Rat) : decide ((fr q).1 > (0 : Int)) = decide (0 < q) := decide_eq_decide.mpr (by
  constructor
  · intro h
    have v := fr_val q
    have p : (0 : Rat) < ((fr q).1 : Rat) := Rat.intCast_pos.mpr h
    have d : (0 : Rat) < ((fr q).2 : Rat) := Rat.intCast_pos.mpr (den_posI q)
    rw [← v, Rat.div_def]
    exact Rat.mul_pos p (Rat.inv_pos.mpr d)
  · exact fun h => num_pos' h)
structure Pls (n : Nat) (pl : List (Int × Int)) (ps : List Rat) : Prop where
  rx : All2 (fun p x => Rx 7 x p) ps pl
  asc : ps.Pairwise (· < ·)
  len : ps.length ≤ n
  pos : 0 < ps.length
  pb : ∃ B, PB B 6 ps
theorem PlB.pls {n : Nat} {pl : List (Int × Int)} {ps : List Rat} (h : PlB n pl ps) : Pls n pl ps := by
  obtain ⟨B, b1, b3, hB⟩ := h.dn
  have e6 : (2 : Nat) ^ 6 = 64 := by decide
  refine ⟨h.rx, h.asc, h.len, h.pos, B, by omega, by omega, fun p hp => ?_⟩
  obtain ⟨s, s1, s2⟩ := hB p hp
  exact ⟨s, s2, by omega⟩
theorem int_pls {n : Nat} (zs : List Int) (h : zs.Pairwise (· < ·)) (hb : ∀ z ∈ zs, z.natAbs ≤ 40) (hl : zs.length ≤ n) (h0 : 0 < zs.length) : Pls n (zs.map fun z => (z, (1 : Int))) (zs.map fun z => ((z : Int) : Rat)) := by
  have e6 : (2 : Nat) ^ 6 = 64 := by decide
  have e7 : (2 : Nat) ^ 7 = 128 := by decide
  refine ⟨?_, ?_, by rw [List.length_map]; exact hl, by rw [List.length_map]; exact h0, 1, by decide, by decide, fun p hp => ?_⟩
  · clear h hl h0
    induction zs with
    | nil => exact .nil
    | cons z zs ih => exact .cons (rx_int (by have := hb z (List.mem_cons_self ..); omega) (by decide)) (ih fun y hy => hb y (List.mem_cons_of_mem _ hy))
  · rw [List.pairwise_map]
    exact h.imp fun k => Rat.intCast_lt_intCast.mpr k
  · obtain ⟨z, hz, rfl⟩ := List.mem_map.mp hp
    refine ⟨z, ?_, by have := hb z hz; omega⟩
    push_cast
    grind
theorem mass_places (w : Wt) : w.1.map (fun x => (x.1, (1 : Int))) = (w.1.map (·.1)).map fun z => (z, (1 : Int)) := by rw [List.map_map]; rfl
/-! ### interpolation -/
theorem ev_map_mul (c x : Rat) : ∀ l : List Rat, ev (l.map (c * ·)) x = c * ev l x
  | [] => by
    show (0 : Rat) = c * 0
    grind
  | y :: l => by
    show c * y + x * ev (l.map (c * ·)) x = c * (y + x * ev l x)
    rw [ev_map_mul c x l]
    grind
theorem ev_zipWith (x : Rat) : ∀ l r : List Rat, l.length = r.length → ev (List.zipWith (· + ·) l r) x = ev l x + ev r x
  | [], [], _ => by
    show (0 : Rat) = 0 + 0
    grind
  | [], _ :: _, h => by cases h
  | _ :: _, [], h => by cases h
  | a :: l, b :: r, h => by
    show a + b + x * ev (List.zipWith (· + ·) l r) x = a + x * ev l x + (b + x * ev r x)
    rw [ev_zipWith x l r (by simpa using h)]
    grind
theorem ev_LB (ps : List Rat) (i : Nat) (x : Rat) : ev (LB ps i) x = prd x (oth ps i) / prd (ps.getD i 0) (oth ps i) := by
  unfold LB
  rw [map_divI, ev_map_mul, ev_WR]
  grind
where map_divI {c : Rat} {l : List Rat} : l.map (fun y => y / c) = l.map ((1 / c) * ·) := List.map_congr_left fun y _ => by grind
theorem mem_oth {ps : List Rat} {i j : Nat} (hj : j < ps.length) (h : j ≠ i) : ps[j] ∈ oth ps i := by
  unfold oth
  by_cases q : j < i
  · refine List.mem_append_left _ (List.mem_iff_getElem.mpr ⟨j, by rw [List.length_take]; omega, ?_⟩)
    rw [List.getElem_take]
  · refine List.mem_append_right _ (List.mem_iff_getElem.mpr ⟨j - (i + 1), by rw [List.length_drop]; omega, ?_⟩)
    rw [List.getElem_drop]
    congr 1
    omega
theorem ev_LB_self {ps : List Rat} (ha : ps.Pairwise (· < ·)) {i : Nat} (h : i < ps.length) : ev (LB ps i) ps[i] = 1 := by
  rw [ev_LB, getD_at h]
  have := prd_ne (oth_not ha h)
  grind
theorem ev_LB_other {ps : List Rat} {i j : Nat} (hj : j < ps.length) (h : j ≠ i) : ev (LB ps i) ps[j] = 0 := by
  rw [ev_LB, prd_zero (mem_oth hj h)]
  grind
def IPk (ps ys : List Rat) : Nat → List Rat
  | 0 => List.replicate ps.length 0
  | k + 1 => List.zipWith (· + ·) (IPk ps ys k) ((LB ps k).map (ys.getD k 0 * ·))
def IP (ps ys : List Rat) : List Rat := IPk ps ys ps.length
theorem IPk_len (ps ys : List Rat) : ∀ k, k ≤ ps.length → (IPk ps ys k).length = ps.length
  | 0, _ => by
    unfold IPk
    rw [List.length_replicate]
  | k + 1, h => by
    unfold IPk
    rw [List.length_zipWith, IPk_len ps ys k (by omega), List.length_map, LB_len (by omega), Nat.min_self]
theorem IP_len (ps ys : List Rat) : (IP ps ys).length = ps.length := IPk_len ps ys _ (Nat.le_refl _)
theorem ev_repl (x : Rat) : ∀ n : Nat, ev (List.replicate n 0) x = 0
  | 0 => rfl
  | n + 1 => by
    rw [List.replicate_succ]
    show 0 + x * ev (List.replicate n 0) x = 0
    rw [ev_repl x n]
    grind
theorem ev_IPk {ps ys : List Rat} (ha : ps.Pairwise (· < ·)) {j : Nat} (hj : j < ps.length) : ∀ k, k ≤ ps.length → ev (IPk ps ys k) ps[j] = if j < k then ys.getD j 0 else 0
  | 0, _ => by
    rw [if_neg (by omega)]
    exact ev_repl _ _
  | k + 1, h => by
    have ih := ev_IPk ha hj k (ys := ys) (by omega)
    show ev (List.zipWith (· + ·) (IPk ps ys k) ((LB ps k).map (ys.getD k 0 * ·))) ps[j] = _
    rw [ev_zipWith _ _ _ (by rw [IPk_len ps ys k (by omega), List.length_map, LB_len (by omega)]), ih, ev_map_mul]
    by_cases q : j = k
    · subst q
      rw [ev_LB_self ha hj, if_neg (by omega), if_pos (by omega)]
      grind
    · rw [ev_LB_other hj q]
      by_cases z : j < k
      · rw [if_pos z, if_pos (by omega)]
        grind
      · rw [if_neg z, if_neg (by omega)]
        grind
theorem ev_IP {ps ys : List Rat} (ha : ps.Pairwise (· < ·)) {j : Nat} (hj : j < ps.length) : ev (IP ps ys) ps[j] = ys.getD j 0 := by
  unfold IP
  rw [ev_IPk ha hj _ (Nat.le_refl _), if_pos hj]
theorem ev_IPf {ps : List Rat} (ha : ps.Pairwise (· < ·)) (f : Rat → Rat) : ∀ p ∈ ps, ev (IP ps (ps.map f)) p = f p := fun p hp => by
  obtain ⟨i, hi, rfl⟩ := List.getElem_of_mem hp
  rw [ev_IP ha hi, List.getD_eq_getElem?_getD, List.getElem?_map, List.getElem?_eq_getElem hi]
  rfl
/-! ### a polynomial is told by as many worths as it has coefficients -/
def sx (p : Rat) : List Rat → List Rat
  | [] => []
  | c :: l => ev (c :: l) p :: sx p l
theorem sx_len (p : Rat) : ∀ l, (sx p l).length = l.length
  | [] => rfl
  | c :: l => by
    unfold sx
    rw [List.length_cons, sx_len p l, List.length_cons]
theorem rp_sx (p : Rat) : ∀ (l : List Rat) (z c : Rat), z = c + ev l p * p → rp p z (sx p l) = c :: l
  | [], z, c, h => by
    show [z] = [c]
    congr 1
    rw [h]
    show c + 0 * p = c
    grind
  | d :: l, z, c, h => by
    show (z - ev (d :: l) p * p) :: rp p (ev (d :: l) p) (sx p l) = c :: d :: l
    rw [rp_sx p l (ev (d :: l) p) d (by show d + p * ev l p = d + ev l p * p; grind), h]
    congr 1
    grind
theorem factor {p : Rat} {c : Rat} {l : List Rat} (h : ev (c :: l) p = 0) : rp p 0 (sx p l) = c :: l := rp_sx p l 0 c (by
  have : c + p * ev l p = 0 := h
  grind)
theorem rp_zero (p : Rat) : ∀ (l : List Rat) (z : Rat), z = 0 → (∀ c ∈ l, c = 0) → ∀ c ∈ rp p z l, c = 0
  | [], z, hz, _, c, hc => by rw [List.mem_singleton.mp hc, hz]
  | x :: l, z, hz, h, c, hc => by
    have hx := h x (List.mem_cons_self ..)
    rcases List.mem_cons.mp hc with rfl | hc
    · rw [hz, hx]
      grind
    · exact rp_zero p l x hx (fun y hy => h y (List.mem_cons_of_mem _ hy)) c hc
theorem zero_of_roots : ∀ (ps l : List Rat), ps.Pairwise (· ≠ ·) → l.length ≤ ps.length → (∀ p ∈ ps, ev l p = 0) → ∀ c ∈ l, c = 0
  | _, [], _, _, _, c, hc => by cases hc
  | [], _ :: _, _, h, _, c, hc => by simp at h
  | p :: ps, c :: l, hn, hl, hr, d, hd => by
    obtain ⟨n1, n2⟩ := List.pairwise_cons.mp hn
    have f := factor (hr p (List.mem_cons_self ..))
    rw [List.length_cons, List.length_cons] at hl
    have z := zero_of_roots ps (sx p l) n2 (by rw [sx_len]; omega) fun q hq => by
      have e := hr q (List.mem_cons_of_mem _ hq)
      rw [← f, ev_rp] at e
      have : q - p ≠ 0 := fun z => n1 q hq (by grind)
      grind
    rw [← f] at hd
    exact rp_zero p _ 0 rfl z d hd
theorem asc_ne {ps : List Rat} (h : ps.Pairwise (· < ·)) : ps.Pairwise (· ≠ ·) := h.imp fun {a b} k e => by rw [e] at k; exact absurd k (by grind)
theorem same_poly {ps : List Rat} (hn : ps.Pairwise (· ≠ ·)) {l r : List Rat} (h1 : l.length = r.length) (h2 : l.length ≤ ps.length) (h : ∀ p ∈ ps, ev l p = ev r p) : l = r := by
  have z := zero_of_roots ps (List.zipWith (· + ·) l (r.map ((-1) * ·))) hn (by rw [List.length_zipWith, List.length_map]; omega) fun p hp => by
    rw [ev_zipWith _ _ _ (by rw [List.length_map]; exact h1), ev_map_mul, h p hp]
    grind
  have k : ∀ l r : List Rat, l.length = r.length → (∀ c ∈ List.zipWith (· + ·) l (r.map ((-1) * ·)), c = 0) → l = r := fun l => by
    induction l with
    | nil =>
      intro r h _
      cases r with
      | nil => rfl
      | cons => cases h
    | cons a l ih =>
      intro r h k
      cases r with
      | nil => cases h
      | cons b r =>
        have e := k (a + -1 * b) (by simp)
        rw [ih r (by simpa using h) fun c hc => k c (by simp only [List.map_cons, List.zipWith_cons_cons]; exact List.mem_cons_of_mem _ hc)]
        congr 1
        grind
  exact k l r h1 z
def tl (l : List Rat) : Nat → Nat
  | 0 => 0
  | n + 1 => if l.getD n 0 = 0 then tl l n else n + 1
def trim (l : List Rat) : List Rat := l.take (tl l l.length)
theorem tl_le (l : List Rat) : ∀ n, tl l n ≤ n
  | 0 => Nat.le_refl _
  | n + 1 => by
    unfold tl
    split
    · have := tl_le l n
      omega
    · exact Nat.le_refl _
theorem tl_zero {l : List Rat} : ∀ {n k : Nat}, tl l n ≤ k → k < n → l.getD k 0 = 0
  | 0, k, _, h => absurd h (by omega)
  | n + 1, k, h, h2 => by
    unfold tl at h
    split at h
    · rename_i z
      by_cases q : k = n
      · rw [q]; exact z
      · exact tl_zero h (by omega)
    · omega
theorem tl_min {l : List Rat} {m : Nat} : ∀ {n : Nat}, (∀ k, m ≤ k → k < n → l.getD k 0 = 0) → tl l n ≤ m
  | 0, _ => Nat.zero_le _
  | n + 1, h => by
    unfold tl
    split
    · exact tl_min fun k h1 h2 => h k h1 (by omega)
    · rename_i z
      apply Classical.byContradiction
      intro q
      exact z (h n (by omega) (by omega))
theorem getD_beyond {l : List Rat} {k : Nat} (h : l.length ≤ k) : l.getD k 0 = 0 := by
  rw [List.getD_eq_getElem?_getD, List.getElem?_eq_none h]
  rfl
theorem ev_take (x : Rat) : ∀ (l : List Rat) (m : Nat), (∀ k, m ≤ k → l.getD k 0 = 0) → ev (l.take m) x = ev l x
  | [], m, _ => by rw [List.take_nil]
  | c :: l, 0, h => by
    have z : ∀ r : List Rat, (∀ k, r.getD k 0 = 0) → ev r x = 0 := fun r => by
      induction r with
      | nil => intro _; rfl
      | cons d r ih =>
        intro hr
        have h0 : d = 0 := hr 0
        show d + x * ev r x = 0
        rw [ih fun k => hr (k + 1), h0]
        grind
    rw [z (c :: l) fun k => h k (Nat.zero_le _)]
    rfl
  | c :: l, m + 1, h => by
    rw [List.take_succ_cons]
    show c + x * ev (l.take m) x = c + x * ev l x
    rw [ev_take x l m fun k hk => h (k + 1) (by omega)]
theorem trim_ev (l : List Rat) (x : Rat) : ev (trim l) x = ev l x := ev_take x l _ fun k hk => by
  by_cases q : k < l.length
  · exact tl_zero hk q
  · exact getD_beyond (by omega)
theorem trim_len (l : List Rat) : (trim l).length = tl l l.length := by
  unfold trim
  rw [List.length_take]
  have := tl_le l l.length
  omega
theorem trim_le {l : List Rat} {m : Nat} : (trim l).length ≤ m ↔ ∀ k, m ≤ k → l.getD k 0 = 0 := by
  rw [trim_len]
  constructor
  · intro h k hk
    by_cases q : k < l.length
    · exact tl_zero (by omega) q
    · exact getD_beyond (by omega)
  · exact fun h => tl_min fun k h1 _ => h k h1
theorem tl_congr {l r : List Rat} : ∀ {n : Nat}, (∀ k, k < n → l.getD k 0 = r.getD k 0) → tl l n = tl r n
  | 0, _ => rfl
  | n + 1, h => by
    unfold tl
    rw [h n (by omega), tl_congr fun k hk => h k (by omega)]
theorem getD_app_lt {l r : List Rat} {k : Nat} (h : k < l.length) : (l ++ r).getD k 0 = l.getD k 0 := by
  rw [List.getD_eq_getElem?_getD, List.getD_eq_getElem?_getD, List.getElem?_append_left h]
theorem getD_snoc (l : List Rat) (x : Rat) : (l ++ [x]).getD l.length 0 = x := by
  rw [List.getD_eq_getElem?_getD]
  simp
theorem trim_snoc0 (l : List Rat) : trim (l ++ [0]) = trim l := by
  unfold trim
  rw [List.length_append, List.length_singleton]
  have e : tl (l ++ [0]) (l.length + 1) = tl l l.length := by
    show (if (l ++ [0]).getD l.length 0 = 0 then tl (l ++ [0]) l.length else l.length + 1) = _
    rw [getD_snoc, if_pos rfl]
    exact tl_congr fun k hk => getD_app_lt hk
  rw [e, List.take_append_of_le_length (tl_le _ _)]
theorem trim_snoc {l : List Rat} {x : Rat} (h : x ≠ 0) : trim (l ++ [x]) = l ++ [x] := by
  unfold trim
  rw [List.length_append, List.length_singleton]
  have e : tl (l ++ [x]) (l.length + 1) = l.length + 1 := by
    show (if (l ++ [x]).getD l.length 0 = 0 then tl (l ++ [x]) l.length else l.length + 1) = _
    rw [getD_snoc, if_neg h]
  rw [e]
  exact List.take_of_length_le (by simp)
theorem trim_mem {l : List Rat} {c : Rat} (h : c ∈ trim l) : c ∈ l := List.mem_of_mem_take h
theorem trim_pop : ∀ (N : Nat) (l : List Rat), l.length < N → foldW (fun (b137 : (List (Int × Int))) => (cond (!(decide (b137 = []))) ((getM b137 (-(1 : Int))).bd fun i170 => Mm.ok (decide (i170 = ((0 : Int), (1 : Int))))) (Mm.ok false)).bd fun b166 => Mm.ok b166) (fun (b138 : (List (Int × Int))) => (popN b138).bd fun _ => Mm.ok (List.dropLast b138)) N (l.map fr) = .ok ((trim l).map fr) := fun N => by
  induction N with
  | zero => intro l h; omega
  | succ N ih =>
    intro l hl
    unfold foldW
    rcases List.eq_nil_or_concat l with q | ⟨r, x, q⟩
    · subst q
      rfl
    · rw [List.concat_eq_append] at q
      subst q
      rw [List.length_append, List.length_singleton] at hl
      have e1 : (r ++ [x]).map fr = r.map fr ++ [fr x] := by rw [List.map_append]; rfl
      rw [e1, cT (c := !decide (r.map fr ++ [fr x] = [])) (by rw [decide_eq_false (by simp)]; rfl), getM_last, bdo, bdo, bdo, show decide (fr x = ((0 : Int), (1 : Int))) = decide (x = 0) from by
        rw [← fr_zero]
        exact decide_eq_decide.mpr ⟨fr_inj, fun h => by rw [h]⟩]
      by_cases z : x = 0
      · have p1 : popN (r.map fr ++ [fr x]) = .ok (r.map fr ++ [fr x]).dropLast := by
          cases h : r.map fr with
          | nil => rfl
          | cons a b => rfl
        rw [decide_eq_true z, z, trim_snoc0, ← ih r (by omega)]
        rw [z] at p1
        show ((popN _).bd fun _ => Mm.ok _).bd _ = _
        rw [p1, bdo, bdo]
        congr 1
        simp
      · rw [decide_eq_false z, trim_snoc z, e1]
/-! ### fitting a degree -/
def Fit (ps ys : List Rat) (m : Nat) : Prop := ∃ r : List Rat, r.length ≤ m ∧ ∀ j, j < ps.length → ev r (ps.getD j 0) = ys.getD j 0
theorem ev_pad (x : Rat) (n : Nat) : ∀ l : List Rat, ev (l ++ List.replicate n 0) x = ev l x
  | [] => ev_repl x n
  | c :: l => by
    show c + x * ev (l ++ List.replicate n 0) x = c + x * ev l x
    rw [ev_pad x n l]
theorem ev_IPg {ps ys : List Rat} (ha : ps.Pairwise (· < ·)) {j : Nat} (hj : j < ps.length) : ev (IP ps ys) (ps.getD j 0) = ys.getD j 0 := by
  rw [getD_at hj]
  exact ev_IP ha hj
theorem fit_iff {ps ys : List Rat} {m : Nat} (ha : ps.Pairwise (· < ·)) : (trim (IP ps ys)).length ≤ m ↔ Fit ps ys m := by
  constructor
  · exact fun h => ⟨trim (IP ps ys), h, fun j hj => by rw [trim_ev, ev_IPg ha hj]⟩
  · rintro ⟨r, hr, h⟩
    have il := IP_len ps ys
    by_cases q : ps.length ≤ m
    · have := tl_le (IP ps ys) (IP ps ys).length
      rw [trim_len]
      omega
    · have e : IP ps ys = r ++ List.replicate (ps.length - r.length) 0 := same_poly (asc_ne ha) (by rw [List.length_append, List.length_replicate]; omega) (by omega) fun p hp => by
        obtain ⟨i, hi, rfl⟩ := List.getElem_of_mem hp
        rw [ev_IP ha hi, ev_pad, ← h i hi, getD_at hi]
      rw [trim_le]
      intro k hk
      rw [e, List.getD_eq_getElem?_getD]
      by_cases z : r.length ≤ k
      · rw [List.getElem?_append_right z]
        by_cases y : k - r.length < ps.length - r.length
        · rw [List.getElem?_replicate, if_pos y]
          rfl
        · rw [List.getElem?_eq_none (by rw [List.length_replicate]; omega)]
          rfl
      · omega
theorem pad_len (l : List Rat) {n : Nat} (h : l.length ≤ n) : (l ++ List.replicate (n - l.length) 0).length = n := by
  rw [List.length_append, List.length_replicate]
  omega
theorem same_ev {ps l r : List Rat} {m : Nat} (hn : ps.Pairwise (· ≠ ·)) (hm : m ≤ ps.length) (h1 : l.length ≤ m) (h2 : r.length ≤ m) (h : ∀ p ∈ ps, ev l p = ev r p) (x : Rat) : ev l x = ev r x := by
  have := same_poly hn (l := l ++ List.replicate (m - l.length) 0) (r := r ++ List.replicate (m - r.length) 0) (by rw [pad_len l h1, pad_len r h2]) (by rw [pad_len l h1]; exact hm) fun p hp => by rw [ev_pad, ev_pad, h p hp]
  rw [← ev_pad x (m - l.length) l, this, ev_pad]
theorem take_asc {ps : List Rat} (h : ps.Pairwise (· < ·)) (m : Nat) : (ps.take m).Pairwise (· < ·) := h.sublist (List.take_sublist ..)
theorem getD_take {l : List Rat} {m j : Nat} (h : j < m) : (l.take m).getD j 0 = l.getD j 0 := by
  rw [List.getD_eq_getElem?_getD, List.getD_eq_getElem?_getD, List.getElem?_take_of_lt h]
theorem fit_first {ps ys : List Rat} {m : Nat} (ha : ps.Pairwise (· < ·)) : (∀ j, j < ps.length → ev (IP (ps.take m) (ys.take m)) (ps.getD j 0) = ys.getD j 0) ↔ Fit ps ys m := by
  have il := IP_len (ps.take m) (ys.take m)
  rw [List.length_take] at il
  have at_ : ∀ j, j < m → j < ps.length → ev (IP (ps.take m) (ys.take m)) (ps.getD j 0) = ys.getD j 0 := fun j h1 h2 => by
    have := ev_IPg (ys := ys.take m) (take_asc ha m) (j := j) (by rw [List.length_take]; omega)
    rw [getD_take h1, getD_take h1] at this
    exact this
  constructor
  · exact fun h => ⟨IP (ps.take m) (ys.take m), by omega, h⟩
  · rintro ⟨r, hr, h⟩ j hj
    by_cases q : ps.length ≤ m
    · exact at_ j (by omega) hj
    · rw [← h j hj]
      refine same_ev (ps := ps.take m) (m := m) (asc_ne (take_asc ha m)) (by rw [List.length_take]; omega) (by omega) hr (fun p hp => ?_) _
      obtain ⟨i, hi, rfl⟩ := List.getElem_of_mem hp
      rw [List.length_take] at hi
      rw [List.getElem_take]
      have e := getD_at (ps := ps) (i := i) (by omega)
      rw [← e, at_ i (by omega) (by omega), h i (by omega)]
/-! ### the polynomial through readings, as the program tells it -/
theorem LB_sq6 {B : Int} {e : Nat} {ps : List Rat} (hp : PB B e ps) (ha : ps.Pairwise (· < ·)) (hl : ps.length ≤ 6) (he : e ≤ 10) {i : Nat} (h : i < ps.length) : Sqs 112 (LB ps i) := by
  have m : (e + 1) * (ps.length - 1) ≤ 11 * 5 := Nat.mul_le_mul (by omega) (by omega)
  exact (LB_sq hp ha h).up (by omega)
theorem zw_sq {a b : Nat} : ∀ l r : List Rat, Sqs a l → Sqs b r → Sqs (a + b + 1) (List.zipWith (· + ·) l r)
  | [], _, _, _ => fun q hq => by cases hq
  | _ :: _, [], _, _ => fun q hq => by cases hq
  | x :: l, y :: r, h1, h2 => fun q hq => by
    rw [List.zipWith_cons_cons] at hq
    rcases List.mem_cons.mp hq with rfl | hq
    · exact sq_add (h1 x (List.mem_cons_self ..)) (h2 y (List.mem_cons_self ..)) (by omega)
    · exact zw_sq l r (fun z hz => h1 z (List.mem_cons_of_mem _ hz)) (fun z hz => h2 z (List.mem_cons_of_mem _ hz)) q hq
theorem getD_sq {ys : List Rat} {c : Nat} (hy : Sqs c ys) (h0 : 0 < c) (k : Nat) : Sq c (ys.getD k 0) := by
  by_cases q : k < ys.length
  · rw [getD_at q]
    exact hy _ (List.getElem_mem q)
  · rw [getD_beyond (by omega)]
    exact zero_sqn h0
theorem IPk_sq {B : Int} {e c : Nat} {ps ys : List Rat} (hp : PB B e ps) (ha : ps.Pairwise (· < ·)) (hl : ps.length ≤ 6) (he : e ≤ 10) (hy : Sqs c ys) (h0 : 0 < c) : ∀ k, k ≤ ps.length → Sqs (1 + (c + 113) * k) (IPk ps ys k)
  | 0, _ => fun q hq => by
    rw [List.eq_of_mem_replicate hq]
    exact zero_sqn (by omega)
  | k + 1, h => by
    have a := IPk_sq hp ha hl he hy h0 k (by omega)
    have b : Sqs (c + 112) ((LB ps k).map (ys.getD k 0 * ·)) := fun q hq => by
      obtain ⟨z, hz, rfl⟩ := List.mem_map.mp hq
      exact sq_mul (getD_sq hy h0 k) (LB_sq6 hp ha hl he (by omega) z hz) (Nat.le_refl _)
    exact (zw_sq _ _ a b).up (by rw [Nat.mul_succ]; omega)
theorem IP_sq {B : Int} {e c : Nat} {ps ys : List Rat} (hp : PB B e ps) (ha : ps.Pairwise (· < ·)) (hl : ps.length ≤ 6) (he : e ≤ 10) (hy : Sqs c ys) (h0 : 0 < c) : Sqs (1 + (c + 113) * 6) (IP ps ys) := by
  have m : (c + 113) * ps.length ≤ (c + 113) * 6 := Nat.mul_le_mul_left _ hl
  exact (IPk_sq hp ha hl he hy h0 _ (Nat.le_refl _)).up (by omega)
theorem zip_map_fr (l r : List Rat) : (l.map fr).zip (r.map fr) = (l.zip r).map fun x => (fr x.1, fr x.2) := by
  rw [List.zip_map]
  rfl
theorem zw_zip (l r : List Rat) : (l.zip r).map (fun x => x.1 + x.2) = List.zipWith (· + ·) l r := by
  rw [List.zip, List.map_zipWith]
theorem rep0 (n : Nat) (h : n ≤ 100000) : repM [((0, 1) : Int × Int)] (n : Int) = .ok ((List.replicate n (0 : Rat)).map fr) := by
  have k : ∀ n : Nat, (List.replicate n [((0, 1) : Int × Int)]).flatten = List.replicate n (0, 1) := fun n => by
    induction n with
    | zero => rfl
    | succ n ih =>
      rw [List.replicate_succ, List.flatten_cons, ih, List.replicate_succ]
      rfl
  unfold repM
  rw [if_pos ⟨by omega, by omega, by show 1 * _ ≤ _; omega⟩, Int.toNat_natCast, k, List.map_replicate, fr_zero]
theorem oth_asc {ps : List Rat} (ha : ps.Pairwise (· < ·)) (i : Nat) : (oth ps i).Pairwise (· < ·) := by
  have s : (oth ps i).Sublist ps := by
    unfold oth
    conv => rhs; rw [← List.take_append_drop i ps]
    exact (List.Sublist.refl _).append (List.drop_sublist_drop_left _ (by omega))
  exact ha.sublist s
def alone (ps ys : List Rat) (m : Nat) (i : Nat) : Bool := decide ((trim (IP (oth ps i) (oth ys i))).length ≤ m)
def FA (ps ys : List Rat) (m : Nat) : List Int := (rangeL 0 ps.length).filterMap fun x => if alone ps ys m x.toNat then some x else none
theorem rng_nat {n : Nat} {x : Int} (h : x ∈ rangeL 0 n) : ∃ k : Nat, x = (k : Int) ∧ k < n := by
  obtain ⟨i, hi, rfl⟩ := List.mem_map.mp h
  have := List.mem_range.mp hi
  exact ⟨i, by omega, this⟩
theorem readings_fold {f : Unit → Int × (Int × Int) → Mm Unit} (hf : ∀ s y, f s y = cond (decide (y.2.2 = (0 : Int))) (Mm.bad) (Mm.ok ())) : ∀ (l : List (Int × Int)) (k : Int), (∀ x ∈ l, x.2 ≠ 0) → foldM f () (numL k l) = .ok ()
  | [], k, _ => rfl
  | x :: l, k, hn => by
    unfold numL foldM
    rw [hf, cF (decide_eq_false (hn x (List.mem_cons_self ..))), bdo]
    exact readings_fold hf l (k + 1) fun y hy => hn y (List.mem_cons_of_mem _ hy)
structure FR (B : Int) (e c : Nat) (pl yl : List (Int × Int)) (ps ys : List Rat) : Prop where
  rp : All2 (fun p x => Rx 30 x p) ps pl
  ry : All2 (fun p x => Rx c x p) ys yl
  pb : PB B e ps
  asc : ps.Pairwise (· < ·)
  len : ps.length ≤ 6
  pos : 0 < ps.length
  eq : ys.length = ps.length
  e10 : e ≤ 10
  c0 : 0 < c
  c1 : c ≤ 180
theorem FR.sy {B : Int} {e c : Nat} {pl yl : List (Int × Int)} {ps ys : List Rat} (h : FR B e c pl yl ps ys) : Sqs c ys := h.ry.left fun _ _ r => r.sq
def mend (ps ys : List Rat) (i : Nat) : List Rat := ys.take i ++ (ev (IP (oth ps i) (oth ys i)) (ps.getD i 0) :: ys.drop (i + 1))
def Rep (ps ys : List Rat) (m : Nat) : Option (List Rat) := if (trim (IP ps ys)).length ≤ m then some ys else match FA ps ys m with
  | [i] => some (mend ps ys i.toNat)
  | _ => none
/-! ### weightings that the law draws -/
structure Sml (w : Wt) : Prop where
  ok : WOk w
  lm : w.1.length ≤ 3
  ls : w.2.length ≤ 2
  lo : ∀ m ∈ w.1, -12 ≤ m.1 ∧ m.1 ≤ 12
  hi : 1 < w.1.length → ∀ m ∈ w.1, m.1 < 12
  st : SsTo (-12) w.2 12
theorem asc_app {l : Ms} {p m : Int} (h : (l.map (·.1)).Pairwise (· < ·)) (k : ∀ x ∈ l, x.1 < p) : ((l ++ [(p, m)]).map (·.1)).Pairwise (· < ·) := by
  rw [List.map_append]
  refine List.pairwise_append.mpr ⟨h, List.pairwise_singleton .., fun a ha b hb => ?_⟩
  obtain ⟨x, hx, rfl⟩ := List.mem_map.mp ha
  rw [List.mem_singleton.mp hb]
  exact k x hx
theorem law_weighting_okB {scr : List Int} {st : Rw} {N : Nat} (r : Rk N st) (hN : N < 9000) : Yes (law_weighting scr st) fun r => Sml r.1 ∧ Rk (N + 30) r.2 := by
  unfold law_weighting
  refine (takenB_ok r (by omega) (by omega) (by omega)).bd fun a ha => ?_
  refine (takenB_ok ha.2 (by omega) (by omega) (by omega)).bd fun b hb => ?_
  have a1 := ha.1
  have b1 := hb.1
  rw [range_ok (by omega) (by omega), bdo]
  refine (yes_fold (fun (s : Int × Ms × Rw) (l : List Int) => ((s.2.1.map (·.1)).Pairwise (· < ·) ∧ (∀ m ∈ s.2.1, (-12 ≤ m.1 ∧ m.1 ≤ s.1) ∧ 1 ≤ m.2 ∧ m.2 ≤ 20) ∧ s.2.1.length + l.length ≤ 3) ∧ (-12 ≤ s.1 ∧ s.1 + 4 * l.length ≤ 8) ∧ ∃ M, Rk M s.2.2 ∧ M + 2 * l.length ≤ N + 10) _ _ ⟨⟨.nil, (fun m hm => by cases hm), by rw [rangeL_len]; show 0 + _ ≤ 3; omega⟩, ⟨by show -12 ≤ a.1 - 12; omega, by rw [rangeL_len]; show a.1 - 12 + _ ≤ 8; omega⟩, N + 2, hb.2, by rw [rangeL_len]; omega⟩ fun s x l hs => ?_).bd fun c hc => ?_
  · obtain ⟨⟨p1, p2, p3⟩, ⟨q1, q2⟩, M, rk, hM⟩ := hs
    rw [List.length_cons] at p3 q2 hM
    refine (takenB_ok rk (by omega) (by omega) (by omega)).bd fun d hd => ?_
    refine (takenB_ok hd.2 (by omega) (by omega) (by omega)).bd fun e he => ?_
    have d1 := hd.1
    have e1 := he.1
    refine .guard (by omega) (.ok ⟨⟨asc_app p1 fun x hx => by have := (p2 x hx).1; omega, fun m hm => ?_, by rw [List.length_append, List.length_singleton]; omega⟩, ⟨by show -12 ≤ s.1 + 1 + d.1; omega, by show s.1 + 1 + d.1 + 4 * (l.length : Int) ≤ 8; omega⟩, M + 2, he.2, by omega⟩)
    rcases List.mem_append.mp hm with h | h
    · have := p2 m h
      exact ⟨⟨this.1.1, by show m.1 ≤ s.1 + 1 + d.1; omega⟩, this.2⟩
    · rw [List.mem_singleton.mp h]
      exact ⟨⟨by show -12 ≤ s.1 + 1 + d.1; omega, Int.le_refl _⟩, by show 1 ≤ 1 + e.1; omega, by show 1 + e.1 ≤ 20; omega⟩
  · obtain ⟨⟨p1, p2, p3⟩, ⟨q1, q2⟩, M, rk, hM⟩ := hc
    rw [List.length_nil] at p3 q2 hM
    refine (takenB_ok rk (by omega) (by omega) (by omega)).bd fun d hd => ?_
    refine (takenB_ok hd.2 (by omega) (by omega) (by omega)).bd fun e he => ?_
    have d1 := hd.1
    have e1 := he.1
    rw [range_ok (by omega) (by omega), bdo]
    refine (yes_fold (fun (s : Int × Ss × Rw) (l : List Int) => (SsTo (-12) s.2.1 s.1 ∧ s.2.1.length + l.length ≤ 2 ∧ (s.2.1 = [] → -12 ≤ s.1 ∧ s.1 ≤ -4)) ∧ (-12 ≤ s.1 ∧ s.1 + 8 * l.length ≤ 12) ∧ ∃ M, Rk M s.2.2 ∧ M + 3 * l.length ≤ N + 20) _ _ ⟨⟨by show (-12 : Int) ≤ d.1 - 12; omega, by rw [rangeL_len]; show 0 + _ ≤ 2; omega, fun _ => ⟨by show -12 ≤ d.1 - 12; omega, by show d.1 - 12 ≤ -4; omega⟩⟩, ⟨by show -12 ≤ d.1 - 12; omega, by rw [rangeL_len]; show d.1 - 12 + _ ≤ 12; omega⟩, M + 2, he.2, by rw [rangeL_len]; omega⟩ fun s x l hs => ?_).bd fun f hf' => ?_
    · obtain ⟨⟨w1, w2, w3⟩, ⟨v1, v2⟩, M', rk', hM'⟩ := hs
      rw [List.length_cons] at w2 v2 hM'
      refine (takenB_ok rk' (by omega) (by omega) (by omega)).bd fun g hg => ?_
      refine (takenB_ok hg.2 (by omega) (by omega) (by omega)).bd fun h hh => ?_
      refine (takenB_ok hh.2 (by omega) (by omega) (by omega)).bd fun i hi => ?_
      have g1 := hg.1
      have h1 := hh.1
      have i1 := hi.1
      refine .guard (by omega) (.ok ⟨⟨w1.app (by omega) (by omega) (by omega) (by omega), by rw [List.length_append, List.length_singleton]; omega, fun z => by simp at z⟩, ⟨by show -12 ≤ s.1 + g.1 + 1 + h.1; omega, by show s.1 + g.1 + 1 + h.1 + 8 * (l.length : Int) ≤ 12; omega⟩, M' + 3, hi.2, by omega⟩)
    · obtain ⟨⟨w1, w2, w3⟩, ⟨v1, v2⟩, M', rk', hM'⟩ := hf'
      rw [List.length_nil] at w2 v2 hM'
      have done : ∀ (ms : Ms) (st' : Rw), ((ms.map (·.1)).Pairwise (· < ·)) → (∀ m ∈ ms, (-12 ≤ m.1 ∧ m.1 ≤ 12) ∧ 1 ≤ m.2 ∧ m.2 ≤ 20) → ms.length ≤ 3 → (1 < ms.length → ∀ m ∈ ms, m.1 < 12) → (ms ≠ [] ∨ f.2.1 ≠ []) → Rk (N + 30) st' → Yes ((Weighting_init ms f.2.1).bd fun b215 => Mm.ok (b215, st')) fun r => Sml r.1 ∧ Rk (N + 30) r.2 := fun ms st' h1 h2 h3 h6 h4 h5 => by
        have ok : WOk (ms, f.2.1) := ⟨⟨fun m hm => by have := h2 m hm; omega, h1, by show ms.length ≤ 6; omega⟩, (w1.up (by omega)).low (by decide), by show f.2.1.length ≤ 4; omega, h4⟩
        refine .eq (init_ok ok) (.ok ⟨⟨ok, h3, by show f.2.1.length ≤ 2; omega, fun m hm => (h2 m hm).1, h6, w1.up (by omega)⟩, h5⟩)
      have p2' : ∀ m ∈ c.2.1, (-12 ≤ m.1 ∧ m.1 ≤ 12) ∧ 1 ≤ m.2 ∧ m.2 ≤ 20 := fun m hm => by have := p2 m hm; omega
      by_cases z1 : c.2.1 = []
      · rw [cT (decide_eq_true z1), bdo]
        by_cases z2 : f.2.1 = []
        · rw [cT (c := decide (f.2.1 = [])) (decide_eq_true z2)]
          have := w3 z2
          obtain ⟨k, ek, hk, rk2⟩ := takenB_ok (scr := scr) (many := 20) rk' (by omega) (by omega) (by omega)
          rw [ek, bdo, guard_ok (by rw [z1]; decide), bdo, bdo]
          refine done _ _ ?_ ?_ ?_ ?_ ?_ (rk2.up (by omega))
          · rw [z1]
            simp
          · rw [z1]
            intro m hm
            simp only [List.nil_append, List.mem_singleton] at hm
            rw [hm]
            exact ⟨⟨this.1, by show f.1 ≤ 12; omega⟩, by show 1 ≤ 1 + k.1; omega, by show 1 + k.1 ≤ 20; omega⟩
          · rw [z1]
            show 1 ≤ 3
            decide
          · rw [z1]
            intro z
            exact absurd z (by simp)
          · exact .inl (by simp)
        · rw [cF (c := decide (f.2.1 = [])) (decide_eq_false z2), bdo]
          exact done _ _ p1 p2' p3 (fun _ m hm => by have := p2 m hm; omega) (.inr z2) (rk'.up (by omega))
      · rw [cF (c := decide (c.2.1 = [])) (decide_eq_false z1), bdo, cF rfl, bdo]
        exact done _ _ p1 p2' p3 (fun _ m hm => by have := p2 m hm; omega) (.inl z1) (rk'.up (by omega))
/-! ### own powers -/
theorem raised_fold {f : Int × Int → Int → Mm (Int × Int)} {x : Int × Int} {p : Rat} {b : Nat} (hx : Rx b x p) (hf : ∀ s i, f s i = (law_times s x).bd fun b29 => .ok b29) : ∀ (l : List Int) (q : Rat) (a : Nat), Sq a q → a + b * l.length < 8990 → foldM f (fr q) l = .ok (fr (q * p ^ l.length)) ∧ Sq (a + b * l.length) (q * p ^ l.length)
  | [], q, a, ha, _ => by
    rw [List.length_nil, Rat.pow_zero, Rat.mul_one]
    exact ⟨rfl, ha⟩
  | i :: l, q, a, ha, h => by
    have e : b * (i :: l).length = b * l.length + b := by rw [List.length_cons, Nat.mul_succ]
    have s1 := sq_mul ha hx.sq (Nat.le_refl _)
    obtain ⟨h1, h2⟩ := raised_fold hx hf l (q * p) (a + b) s1 (by omega)
    have e2 : q * p ^ (i :: l).length = q * p * p ^ l.length := by
      rw [List.length_cons, Rat.pow_succ]
      grind
    rw [e2]
    refine ⟨?_, h2.up (by omega)⟩
    unfold foldM
    rw [hf, law_times_x (rx_fr ha) hx (by omega), bdo, bdo]
    exact h1
theorem pow_int (i : Int) (k : Nat) : (i : Rat) ^ k = ((i ^ k : Int) : Rat) := by
  push_cast
  rfl
theorem PS_eq2 (w : Wt) (k : Nat) : PS w k = (w.1.map fun m => ((m.2 : Int) : Rat) * (m.1 : Rat) ^ k).sum + (w.2.map fun s => (((s.2.1 ^ (k + 1) - s.1 ^ (k + 1)) * s.2.2 : Int) : Rat) / (((k : Int) + 1 : Int) : Rat)).sum := by
  have a : (w.1.map fun m => ((m.2 : Int) : Rat) * (m.1 : Rat) ^ k) = w.1.map fun m => ((mI k m : Int) : Rat) := List.map_congr_left fun m _ => by
    unfold mI
    rw [pow_int]
    push_cast
    rfl
  have b : (w.2.map fun s => (((s.2.1 ^ (k + 1) - s.1 ^ (k + 1)) * s.2.2 : Int) : Rat) / (((k : Int) + 1 : Int) : Rat)) = w.2.map fun s => ((sI k s : Int) : Rat) / (((k : Int) + 1 : Int) : Rat) := List.map_congr_left fun s _ => by
    unfold sI
    rw [Int.mul_comm]
  rw [a, b, sum_cast, sum_castD]
  unfold PS
  have n := intc_ne (n := (k : Int) + 1) (by omega)
  push_cast
  push_cast at n
  grind
/-! ### own weights -/
theorem rp_scale (c p : Rat) : ∀ (l : List Rat) (z : Rat), rp p (c * z) (l.map (c * ·)) = (rp p z l).map (c * ·)
  | [], z => rfl
  | x :: l, z => by
    show (c * z - c * x * p) :: rp p (c * x) (l.map (c * ·)) = (c * (z - x * p)) :: (rp p x l).map (c * ·)
    rw [rp_scale c p l x]
    congr 1
    grind
theorem rp_scale0 (c p : Rat) (l : List Rat) : rp p 0 (l.map (c * ·)) = (rp p 0 l).map (c * ·) := by
  have := rp_scale c p l 0
  rw [show c * 0 = (0 : Rat) by grind] at this
  exact this
theorem setM_mid {α : Type} (l r : List α) (x v : α) : setM (l ++ x :: r) (l.length : Int) v = .ok (l ++ v :: r) := by
  unfold setM ixN
  rw [if_pos (by omega), if_pos (by simp; omega)]
  show Mm.ok ((l ++ x :: r).set ((l.length : Int).toNat) v) = _
  rw [Int.toNat_natCast]
  congr 1
  simp
theorem rx_neg {n : Nat} {x : Int × Int} {q : Rat} (h : Rx n x q) : Rx n ((0 : Int) - x.1, x.2) (-q) := ⟨h.nz, by have := h.t; show ((0 : Int) - x.1).natAbs < 2 ^ n; omega, h.b, by
  have k := intc_ne h.nz
  rw [← h.v]
  show (((0 : Int) - x.1 : Int) : Rat) / (x.2 : Rat) = _
  push_cast
  grind⟩
theorem rx_inv {n : Nat} {q : Rat} (h : Sq n q) (hq : q ≠ 0) : Rx n ((fr q).2, (fr q).1) (1 / q) := ⟨(rx_fr h).top hq, h.d, h.1, by
  have a := intc_ne ((rx_fr h).top hq)
  have b := intc_ne (rx_fr h).nz
  have v := (rx_fr h).v
  have e : (1 : Rat) / q = 1 / (((fr q).1 : Rat) / ((fr q).2 : Rat)) := by rw [v]
  rw [e]
  show ((fr q).2 : Rat) / ((fr q).1 : Rat) = _
  grind⟩
def tlp (p : Rat) (l : List Rat) : List Rat := l.map (fun y => y * -p) ++ [0]
theorem getM_midI {α : Type} {l r : List α} {x : α} {i : Int} (h : i = l.length) : getM (l ++ x :: r) i = .ok x := by
  rw [h]
  exact getM_mid l r x
theorem setM_midI {α : Type} {l r : List α} {x v : α} {i : Int} (h : i = l.length) : setM (l ++ x :: r) i v = .ok (l ++ v :: r) := by
  rw [h]
  exact setM_mid l r x v
theorem shift_add {f : List (Int × Int) → Int → Mm (List (Int × Int))} {p : Rat} {a b : Nat} (P : List Rat) (hP : Sqs a P) (hp : Sq b p) (h0 : 0 < a) (hN : 2 * a + b < 8990)
    (hf : ∀ s i, f s i = (getM s (i + (1 : Int))).bd fun i191 => (getM (P.map fr) i).bd fun i196 => (law_add (i191) (i196)).bd fun b201 => (setM s (i + (1 : Int)) b201).bd fun m208 => Mm.ok m208) :
    ∀ (l : List Rat) (x : Rat) (pre done : List Rat), done.length = pre.length + 1 → P = pre ++ x :: l → foldM f ((done ++ tlp p l).map fr) (rangeL (pre.length : Int) (l.length + 1)) = .ok ((done ++ rp p x l).map fr) := by
  intro l
  induction l with
  | nil =>
    intro x pre done hd hPe
    have hx : Sq a x := hP x (by rw [hPe]; simp)
    have e1 : (done ++ tlp p []).map fr = done.map fr ++ fr 0 :: [] := by simp [tlp]
    have g1 : getM (done.map fr ++ fr 0 :: []) ((pre.length : Int) + 1) = .ok (fr 0) := getM_midI (by rw [List.length_map]; omega)
    have g2 : getM (P.map fr) (pre.length : Int) = .ok (fr x) := getM_map (by rw [hPe]; simp)
    have g3 : setM (done.map fr ++ fr 0 :: []) ((pre.length : Int) + 1) (fr (0 + x)) = .ok (done.map fr ++ fr (0 + x) :: []) := setM_midI (by rw [List.length_map]; omega)
    have e2 : (0 : Rat) + x = x := by grind
    rw [rangeL_succ]
    unfold foldM
    rw [hf, e1, g1, bdo, g2, bdo, law_add_ok zero_sq hx (by omega), bdo, g3, bdo, bdo, e2]
    show Mm.ok _ = _
    simp [rp]
  | cons y l ih =>
    intro x pre done hd hPe
    have hx : Sq a x := hP x (by rw [hPe]; simp)
    have hy : Sq a y := hP y (by rw [hPe]; simp)
    have e1 : (done ++ tlp p (y :: l)).map fr = done.map fr ++ fr (y * -p) :: (tlp p l).map fr := by simp [tlp]
    have g1 : getM (done.map fr ++ fr (y * -p) :: (tlp p l).map fr) ((pre.length : Int) + 1) = .ok (fr (y * -p)) := getM_midI (by rw [List.length_map]; omega)
    have g2 : getM (P.map fr) (pre.length : Int) = .ok (fr x) := getM_map (by rw [hPe]; simp)
    have g3 : setM (done.map fr ++ fr (y * -p) :: (tlp p l).map fr) ((pre.length : Int) + 1) (fr (y * -p + x)) = .ok (done.map fr ++ fr (y * -p + x) :: (tlp p l).map fr) := setM_midI (by rw [List.length_map]; omega)
    have e2 : y * -p + x = x - y * p := by grind
    have e3 : done.map fr ++ fr (x - y * p) :: (tlp p l).map fr = ((done ++ [x - y * p]) ++ tlp p l).map fr := by simp
    have q := ih y (pre ++ [x]) (done ++ [x - y * p]) (by simp [hd]) (by rw [hPe]; simp)
    rw [List.length_append, List.length_singleton] at q
    have e4 : ((pre.length + 1 : Nat) : Int) = (pre.length : Int) + 1 := by omega
    rw [e4] at q
    rw [List.length_cons, rangeL_succ]
    unfold foldM
    rw [hf, e1, g1, bdo, g2, bdo, law_add_ok (sq_mul hy (sq_negB hp) (Nat.le_refl _)) hx (by omega), bdo, g3, bdo, bdo, e2, e3, q]
    simp [rp]
def LBD (x : Rat) (D : List Rat) : List Rat := (WR D).map fun c => c / prd x D
theorem WR_snoc (D : List Rat) (q : Rat) : WR (D ++ [q]) = rp q 0 (WR D) := by
  unfold WR WRf
  rw [List.foldl_append]
  rfl
theorem prd_snoc (x : Rat) (D : List Rat) (q : Rat) : prd x (D ++ [q]) = prd x D * (x - q) := by
  unfold prd
  rw [List.foldl_append]
  rfl
theorem map_div (c : Rat) (l : List Rat) : l.map (fun y => y / c) = l.map ((1 / c) * ·) := List.map_congr_left fun y _ => by grind
theorem LBD_snoc (x : Rat) (D : List Rat) (q : Rat) (h1 : prd x D ≠ 0) (h2 : x - q ≠ 0) : (rp q 0 (LBD x D)).map (fun y => y * (1 / (x - q))) = LBD x (D ++ [q]) := by
  unfold LBD
  rw [WR_snoc, prd_snoc, map_div, rp_scale0, List.map_map]
  refine List.map_congr_left fun y _ => ?_
  show 1 / prd x D * y * (1 / (x - q)) = y / (prd x D * (x - q))
  grind
theorem LBD_sq {B : Int} {e : Nat} {x : Rat} {D : List Rat} (hB : 0 < B) (hBe : B.natAbs < 2 ^ e) (hx : Dv B e x) (hD : ∀ p ∈ D, Dv B e p) (hn : x ∉ D) : Sqs (2 * (1 + (e + 1) * D.length)) (LBD x D) := fun q hq => by
  obtain ⟨c, hc, rfl⟩ := List.mem_map.mp hq
  exact sq_divB (WR_sq ⟨hB, hBe, hD⟩ c hc) (prd_sq hB hBe hx hD) (prd_ne hn) (by omega)
def bsF (pl : List (Int × Int)) (k : Int) : List (Int × Int) → Int → Mm (List (Int × Int)) := fun (b17 : (List (Int × Int))) (x18 : Int) => cond (!(decide (x18 = k))) ((getM pl k).bd fun i42 => (getM pl x18).bd fun i47 => (getM pl x18).bd fun i58 => (law_add (i42) ((((0 : Int) - i47.1), i58.2))).bd fun b74 => (guardM (b17.length ≤ 50000)).bd fun _ => (mapMm (fun (x87 : (Int × Int)) => (getM pl x18).bd fun i106 => (getM pl x18).bd fun i117 => (law_times (x87) ((((0 : Int) - i106.1), i117.2))).bd fun b133 => Mm.ok b133) b17).bd fun b86 => (guardM (b86.length + [((0 : Int), (1 : Int))].length ≤ 100000)).bd fun _ => (rangeM (b17.length : Int)).bd fun l167 => (foldM (fun (b168 : (List (Int × Int))) (x169 : Int) => (getM b168 (x169 + (1 : Int))).bd fun i191 => (getM b17 x169).bd fun i196 => (law_add (i191) (i196)).bd fun b201 => (setM b168 (x169 + (1 : Int)) b201).bd fun m208 => Mm.ok m208) (b86 ++ [((0 : Int), (1 : Int))]) (rangeL 0 (b17.length : Int).toNat)).bd fun b185 => (guardM (b185.length ≤ 50000)).bd fun _ => (mapMm (fun (x229 : (Int × Int)) => (law_times (x229) ((b74.2, b74.1))).bd fun b259 => Mm.ok b259) b185).bd fun b228 => Mm.ok b228) (Mm.ok b17)
theorem LBD_len (x : Rat) (D : List Rat) : (LBD x D).length = D.length + 1 := by
  unfold LBD
  rw [List.length_map, WR_len]
theorem bs_step {pl : List (Int × Int)} {B : Int} {e c : Nat} {x q : Rat} {k j : Nat} {D : List Rat} {xp xq : Int × Int} (hk : pl[k]? = some xp) (hj : pl[j]? = some xq) (hkj : j ≠ k) (rx : Rx c xp x) (rq : Rx c xq q) (hc : c ≤ 30) (hB : 0 < B) (hBe : B.natAbs < 2 ^ e) (he : e ≤ 30) (hx : Dv B e x) (hq : Dv B e q) (hD : ∀ p ∈ D, Dv B e p) (hn : x ∉ D ++ [q]) (hl : D.length ≤ 5) : bsF pl (k : Int) ((LBD x D).map fr) (j : Int) = .ok ((LBD x (D ++ [q])).map fr) := by
  have nq : x ≠ q := fun z => hn (by rw [z]; simp)
  have nD : x ∉ D := fun z => hn (List.mem_append_left _ z)
  have dq : x - q ≠ 0 := fun z => nq (by grind)
  have m : (e + 1) * D.length ≤ 31 * 5 := Nat.mul_le_mul (by omega) hl
  have sL := LBD_sq hB hBe hx hD nD
  have sL' : Sqs 320 (LBD x D) := sL.up (by omega)
  have sx := (hx.sq hB hBe).up he
  have sq := (hq.sq hB hBe).up he
  have a1 : law_add xp ((0 : Int) - xq.1, xq.2) = .ok (fr (x - q)) := by
    rw [law_add_x rx (rx_neg rq) (by omega)]
    congr 2
    grind
  have sd : Sq 61 (x - q) := sq_subB sx sq (by decide)
  have ri := rx_inv sd dq
  have ll := LBD_len x D
  have lm : ((LBD x D).map fr).length = D.length + 1 := by rw [List.length_map, ll]
  have m1 : mapMm (fun (x87 : (Int × Int)) => (Mm.ok xq).bd fun i106 => (Mm.ok xq).bd fun i117 => (law_times (x87) ((((0 : Int) - i106.1), i117.2))).bd fun b133 => Mm.ok b133) ((LBD x D).map fr) = .ok (((LBD x D).map fun y => y * -q).map fr) := by
    rw [mapMm_map, mapMm_eq (g := fun y => fr (y * -q)) _ fun y hy => ?_, List.map_map]
    · rfl
    · rw [bdo, bdo, law_times_x (rx_fr (sL' y hy)) (rx_neg rq) (by omega), bdo]
  have m2 : foldM (fun (b168 : (List (Int × Int))) (x169 : Int) => (getM b168 (x169 + (1 : Int))).bd fun i191 => (getM ((LBD x D).map fr) x169).bd fun i196 => (law_add (i191) (i196)).bd fun b201 => (setM b168 (x169 + (1 : Int)) b201).bd fun m208 => Mm.ok m208) (((LBD x D).map fun y => y * -q).map fr ++ [((0 : Int), (1 : Int))]) (rangeL 0 (D.length + 1)) = .ok ((rp q 0 (LBD x D)).map fr) := by
    cases hL : LBD x D with
    | nil => rw [hL] at ll; cases ll
    | cons y l =>
      rw [hL] at ll sL'
      have s := shift_add (f := fun (b168 : (List (Int × Int))) (x169 : Int) => (getM b168 (x169 + (1 : Int))).bd fun i191 => (getM ((y :: l).map fr) x169).bd fun i196 => (law_add (i191) (i196)).bd fun b201 => (setM b168 (x169 + (1 : Int)) b201).bd fun m208 => Mm.ok m208) (p := q) (y :: l) sL' sq (by decide) (by decide) (fun _ _ => rfl) l y [] [y * -q] rfl rfl
      have e1 : ((y :: l).map fun y => y * -q).map fr ++ [((0 : Int), (1 : Int))] = ([y * -q] ++ tlp q l).map fr := by
        rw [← fr_zero]
        simp [tlp]
      have e2 : D.length + 1 = l.length + 1 := by rw [List.length_cons] at ll; omega
      have e3 : y * -q = 0 - y * q := by grind
      rw [e1, e2]
      refine s.trans ?_
      rw [e3]
      rfl
  have rs : Sqs 671 (rp q 0 (LBD x D)) := by
    have k : ∀ (l : List Rat) (z : Rat), Sq 320 z → Sqs 320 l → Sqs 671 (rp q z l) := fun l => by
      induction l with
      | nil =>
        intro z hz _ w hw
        rw [List.mem_singleton.mp hw]
        exact hz.up (by decide)
      | cons y l ih =>
        intro z hz hl w hw
        have hy := hl y (List.mem_cons_self ..)
        rcases List.mem_cons.mp hw with rfl | hw
        · exact sq_subB hz (sq_mul hy sq (show _ ≤ 350 by decide)) (by decide)
        · exact ih y hy (fun u hu => hl u (List.mem_cons_of_mem _ hu)) w hw
    exact k _ 0 (zero_sqn (by decide)) sL'
  have m3 : mapMm (fun (x229 : (Int × Int)) => (law_times (x229) (((fr (x - q)).2, (fr (x - q)).1))).bd fun b259 => Mm.ok b259) ((rp q 0 (LBD x D)).map fr) = .ok ((LBD x (D ++ [q])).map fr) := by
    rw [← LBD_snoc x D q (prd_ne nD) dq, List.map_map, mapMm_map]
    refine mapMm_eq (g := fr ∘ fun y => y * (1 / (x - q))) _ fun y hy => ?_
    rw [law_times_x (rx_fr (rs y hy)) ri (by decide), bdo]
    rfl
  unfold bsF
  rw [cT (c := !decide ((j : Int) = (k : Int))) (by rw [decide_eq_false (by omega)]; rfl), getM_nat hk, bdo, getM_nat hj, bdo, bdo, a1, bdo, lm, guard_ok (by omega), bdo, m1, bdo, guard_ok (by simp only [List.length_map, List.length_cons, List.length_nil]; omega), bdo, rangeM_ok (by omega), bdo, Int.toNat_natCast, m2, bdo, guard_ok (by rw [List.length_map, rp_len, ll]; omega), bdo, m3, bdo]
theorem bs_fold {pl : List (Int × Int)} {ps : List Rat} {B : Int} {e c : Nat} {x : Rat} {k : Nat} {xp : Int × Int} (hr : All2 (fun p x => Rx c x p) ps pl) (hk : pl[k]? = some xp) (rx : Rx c xp x) (hc : c ≤ 30) (hp : PB B e ps) (he : e ≤ 30) (hx : Dv B e x) :
    ∀ (qs pre post D : List Rat), ps = pre ++ qs ++ post → (k < pre.length ∨ pre.length + qs.length ≤ k) → (∀ p ∈ D, Dv B e p) → x ∉ D ++ qs → (D ++ qs).length ≤ 6 → foldM (bsF pl (k : Int)) ((LBD x D).map fr) (rangeL (pre.length : Int) qs.length) = .ok ((LBD x (D ++ qs)).map fr) := by
  intro qs
  induction qs with
  | nil =>
    intro pre post D _ _ _ _ _
    rw [List.append_nil]
    rfl
  | cons q qs ih =>
    intro pre post D e1 hkk hD hn hl
    rw [List.length_cons] at hkk
    rw [List.length_append, List.length_cons] at hl
    have hq : Dv B e q := hp.each q (by rw [e1]; simp)
    obtain ⟨xq, hj, rq⟩ := hr.at (i := pre.length) (x := q) (by rw [e1]; simp)
    have n1 : x ∉ D ++ [q] := fun z => hn (by
      rcases List.mem_append.mp z with z | z
      · exact List.mem_append_left _ z
      · rw [List.mem_singleton.mp z]; simp)
    rw [List.length_cons, rangeL_succ]
    unfold foldM
    rw [bs_step hk hj (by omega) rx rq hc hp.b0 hp.be he hx hq hD n1 (by omega), bdo]
    have e2 : D ++ q :: qs = (D ++ [q]) ++ qs := by simp
    rw [e2] at hn ⊢
    have := ih (pre ++ [q]) post (D ++ [q]) (by rw [e1]; simp) (by rw [List.length_append, List.length_singleton]; omega) (fun p hp' => by
      rcases List.mem_append.mp hp' with z | z
      · exact hD p z
      · rw [List.mem_singleton.mp z]; exact hq) hn (by simp only [List.length_append, List.length_singleton]; omega)
    rw [List.length_append, List.length_singleton] at this
    have e4 : ((pre.length + 1 : Nat) : Int) = (pre.length : Int) + 1 := by omega
    rw [e4] at this
    exact this
theorem rangeL_app (k : Int) (a b : Nat) : rangeL k (a + b) = rangeL k a ++ rangeL (k + a) b := by
  unfold rangeL
  rw [List.range_add, List.map_append, List.map_map]
  congr 1
  refine List.map_congr_left fun i _ => ?_
  show k + ((a + i : Nat) : Int) = k + (a : Int) + (i : Int)
  omega
theorem sum_num {w : Wt} (l : List Rat) : WS w l = ((numL 0 l).map (tW w)).sum := rfl
/-! ### texts -/
theorem len_intL {i : Int} {k : Nat} (hk : 0 < k) (h : i.natAbs < 10 ^ k) : (intL i).length ≤ k + 1 := by
  unfold intL
  have z := TL.numL_len hk h
  split
  · rw [List.length_cons]
    omega
  · omega
theorem len_intL64 {i : Int} {n : Nat} (h : i.natAbs < 2 ^ n) (hn : n ≤ 63) : (intL i).length ≤ 20 := by
  refine len_intL (k := 19) (by decide) (Nat.lt_of_lt_of_le h ?_)
  exact Nat.le_trans (Nat.pow_le_pow_right (by decide) hn) (by decide)
theorem lt64 {i : Int} {n : Nat} (h : i.natAbs < 2 ^ n) (hn : n ≤ 63) : i.natAbs < 18446744073709551616 :=
  Nat.lt_of_lt_of_le h (Nat.le_trans (Nat.pow_le_pow_right (by decide) hn) (by decide))
def fT (x : Int × Int) : List Nat := if x.2 = 1 then intL x.1 else intL x.1 ++ [47] ++ intL x.2
theorem fT_len {x : Int × Int} {n : Nat} (h1 : x.1.natAbs < 2 ^ n) (h2 : x.2.natAbs < 2 ^ n) (hn : n ≤ 63) : (fT x).length ≤ 41 := by
  have a := len_intL64 h1 hn
  have b := len_intL64 h2 hn
  unfold fT
  split
  · omega
  · rw [List.length_append, List.length_append, List.length_singleton]
    omega
theorem checked_fraction_x {x : Int × Int} {q : Rat} {n : Nat} (h : Rx n x q) (hn : n < 9000) : checked_fraction x = .ok (fr q) := by
  unfold checked_fraction
  rw [cF (decide_eq_false h.nz), lowest_x h hn, bdo]
theorem fraction_text_ok {x : Int × Int} {q : Rat} {n : Nat} (h : Rx n x q) (hn : n ≤ 63) : fraction_text x = .ok (fT (fr q)) := by
  have r := rx_fr h.sq
  have a := len_intL64 r.t hn
  have b := len_intL64 r.b hn
  unfold fraction_text
  rw [checked_fraction_x h (by omega), bdo]
  unfold fT
  by_cases c : (fr q).2 = 1
  · rw [cT (decide_eq_true c), if_pos c, guard_ok (lt64 r.t hn), bdo]
  · rw [cF (decide_eq_false c), if_neg c, guard_ok (lt64 r.t hn), bdo, guard_ok (by simp only [List.length_nil]; omega), bdo, guard_ok (by simp only [List.nil_append, List.length_singleton]; omega), bdo, guard_ok (lt64 r.b hn), bdo,
      guard_ok (by simp only [List.nil_append, List.length_append, List.length_singleton]; omega), bdo]
    rw [List.nil_append]
theorem law_number_ok {x : Int × Int} {n : Nat} (h1 : x.1.natAbs < 2 ^ n) (h2 : x.2.natAbs < 2 ^ n) (hn : n ≤ 63) : law_number x = .ok (fT x) := by
  have a := len_intL64 h1 hn
  have b := len_intL64 h2 hn
  unfold law_number fT
  by_cases c : x.2 = 1
  · rw [cT (decide_eq_true c), if_pos c, guard_ok (lt64 h1 hn), bdo, bdo]
  · rw [cF (decide_eq_false c), if_neg c, guard_ok (lt64 h1 hn), bdo, guard_ok (by simp only [List.length_singleton]; omega), bdo, guard_ok (lt64 h2 hn), bdo, guard_ok (by simp only [List.length_append, List.length_singleton]; omega), bdo, bdo]
/-! the text of a number says which it is -/
theorem numL_one {n : Nat} (h : TL.numL n = [49]) : n = 1 := TL.numL_inj (h.trans (by decide +kernel))
theorem intL_one {i : Int} : intL i = [49] ↔ i = 1 := by
  constructor
  · intro h
    unfold intL at h
    split at h
    · cases h
    · have := numL_one h
      omega
  · rintro rfl
    decide +kernel
theorem fT_one {x : Int × Int} (h : 0 < x.2) : fT x = [49] ↔ x = (1, 1) := by
  unfold fT
  obtain ⟨a, b⟩ := x
  by_cases c : b = 1
  · subst c
    rw [if_pos rfl]
    constructor
    · intro z
      have e : a = 1 := intL_one.mp z
      rw [e]
    · intro z
      injection z with z1 z2
      rw [z1]
      exact intL_one.mpr rfl
  · rw [if_neg c]
    constructor
    · intro z
      have e : 47 ∈ ([49] : List Nat) := z ▸ (by simp)
      cases e with
      | tail _ e => cases e
    · intro z
      injection z with z1 z2
      exact absurd z2 c
def xT (p : Nat) : List Nat := if 1 < p then [120, 94] ++ intL p else [120]
def tT (y : Int × Int) (p : Nat) : List Nat := if p = 0 then fT y else if y = (1, 1) then xT p else fT y ++ [32] ++ xT p
theorem xT_len {p : Nat} (hp : p < 1000) : (xT p).length ≤ 10 := by
  have z := len_intL (i := (p : Int)) (k := 3) (by decide) (by show ((p : Int)).natAbs < 1000; omega)
  unfold xT
  split
  · rw [List.length_append]
    show 2 + _ ≤ 10
    omega
  · decide
theorem term_text_ok {x : Int × Int} {q : Rat} {n p : Nat} (h : Rx n x q) (hx : x = fr q) (hn : n ≤ 63) (hp : p < 1000) : term_text x (p : Int) = .ok (tT (fr q) p) := by
  have r := rx_fr h.sq
  have fl := fT_len r.t r.b hn
  have xl := xT_len hp
  have il := len_intL (i := (p : Int)) (k := 3) (by decide) (by show ((p : Int)).natAbs < 1000; omega)
  unfold term_text tT
  by_cases c : p = 0
  · subst c
    rw [cT (show decide (((0 : Nat) : Int) = 0) = true from rfl), fraction_text_ok h hn, bdo, if_pos rfl]
  · rw [cF (decide_eq_false (by omega)), if_neg c]
    have e1 : (cond (decide ((p : Int) > (1 : Int))) ((guardM (([] : List Nat).length + ([120, 94] : List Nat).length ≤ 100000)).bd fun _ => (guardM ((p : Int).natAbs < 18446744073709551616)).bd fun _ => (guardM ((([] : List Nat) ++ ([120, 94] : List Nat)).length + (intL (p : Int)).length ≤ 100000)).bd fun _ => Mm.ok ((([] : List Nat) ++ ([120, 94] : List Nat)) ++ (intL (p : Int)))) (Mm.ok ([120] : List Nat))) = .ok (xT p) := by
      unfold xT
      by_cases d : 1 < p
      · rw [cT (decide_eq_true (by omega)), if_pos d, guard_ok (by decide), bdo, guard_ok (by omega), bdo, guard_ok (by show 2 + _ ≤ 100000; omega), bdo]
        rfl
      · rw [cF (decide_eq_false (by omega)), if_neg d]
    rw [e1, bdo]
    by_cases d : fr q = (1, 1)
    · rw [cT (decide_eq_true (by rw [hx, d])), if_pos d]
    · rw [cF (decide_eq_false (by rw [hx]; exact d)), if_neg d, fraction_text_ok h hn, bdo, guard_ok (by simp only [List.length_nil]; omega), bdo, guard_ok (by simp only [List.nil_append, List.length_singleton]; omega), bdo, guard_ok (by simp only [List.nil_append, List.length_append, List.length_singleton]; omega), bdo]
      rfl
def sg (top : Int) (first : Bool) : List Nat := if first = true then (if top < 0 then [45] else []) else (if top < 0 then [32, 45, 32] else [32, 43, 32])
def pStep (acc : List Nat) (y : Int × Int) (p : Nat) : List Nat := if y.1 = 0 then acc else acc ++ sg y.1 (decide (acc = [])) ++ tT (absI y.1, y.2) p
theorem sign_text_ok (top : Int) (b : Bool) : sign_text top b = .ok (sg top b) := by
  unfold sign_text sg
  cases b with
  | true =>
    rw [cT rfl, if_pos rfl]
    by_cases c : top < 0
    · rw [cT (decide_eq_true c), if_pos c, bdo]
    · rw [cF (decide_eq_false c), if_neg c, bdo]
  | false =>
    rw [cF rfl, if_neg Bool.false_ne_true]
    by_cases c : top < 0
    · rw [cT (decide_eq_true c), if_pos c, bdo]
    · rw [cF (decide_eq_false c), if_neg c, bdo]
theorem sg_len (top : Int) (b : Bool) : (sg top b).length ≤ 3 := by
  unfold sg
  split <;> split <;> decide
theorem fr_abs (q : Rat) : (absI (fr q).1, (fr q).2) = fr (if (fr q).1 < 0 then -q else q) := by
  show (absI q.num, ((q.den : Nat) : Int)) = _
  unfold absI
  by_cases c : q.num < 0
  · rw [if_pos c, if_pos (show (fr q).1 < 0 from c)]
    show _ = ((-q).num, (((-q).den : Nat) : Int))
    rw [Rat.neg_num, Rat.neg_den]
  · rw [if_neg c, if_neg (show ¬ (fr q).1 < 0 from c)]
    rfl
theorem rx_abs {q : Rat} {n : Nat} (h : Sq n q) : Rx n (absI (fr q).1, (fr q).2) (if (fr q).1 < 0 then -q else q) := by
  rw [fr_abs]
  refine rx_fr ?_
  split
  · exact sq_negB h
  · exact h
theorem tT_len {y : Int × Int} {n p : Nat} (h1 : y.1.natAbs < 2 ^ n) (h2 : y.2.natAbs < 2 ^ n) (hn : n ≤ 63) (hp : p < 1000) : (tT y p).length ≤ 60 := by
  have a := fT_len h1 h2 hn
  have b := xT_len hp
  unfold tT
  split
  · omega
  · split
    · omega
    · rw [List.length_append, List.length_append, List.length_singleton]
      omega
theorem pStep_len {acc : List Nat} {q : Rat} {n p : Nat} (h : Sq n q) (hn : n ≤ 63) (hp : p < 1000) : (pStep acc (fr q) p).length ≤ acc.length + 63 := by
  have r := rx_abs h
  have a := tT_len (p := p) r.t r.b hn hp
  have b := sg_len (fr q).1 (decide (acc = []))
  unfold pStep
  split
  · omega
  · rw [List.length_append, List.length_append]
    omega
def pT : List Rat → List Nat → List Nat
  | [], acc => acc
  | q :: r, acc => pT r (pStep acc (fr q) r.length)
theorem poly_fold {f : List Nat → Int → Mm (List Nat)} {L : List Rat} {n : Nat} (hL : Sqs n L) (hn : n ≤ 63) (hl : L.length < 100)
    (hf : ∀ acc (p : Nat) q, L[p]? = some q → acc.length ≤ 6400 → f acc (p : Int) = .ok (pStep acc (fr q) p)) :
    ∀ (k : Nat) (acc : List Nat), k ≤ L.length → acc.length + 63 * k ≤ 6400 → foldM f acc (((List.range k).reverse).map fun (i : Nat) => (i : Int)) = .ok (pT (L.take k).reverse acc)
  | 0, acc, _, _ => by
    simp [foldM, pT]
  | k + 1, acc, hk, ha => by
    have hq : L[k]? = some L[k] := List.getElem?_eq_getElem (by omega)
    have e : ((List.range (k + 1)).reverse).map (fun (i : Nat) => (i : Int)) = (k : Int) :: ((List.range k).reverse).map fun (i : Nat) => (i : Int) := by
      rw [List.range_succ, List.reverse_append, List.reverse_singleton, List.singleton_append, List.map_cons]
    have sl := pStep_len (acc := acc) (p := k) (hL _ (List.getElem_mem (by omega : k < L.length))) hn (by omega)
    rw [e]
    show (f acc (k : Int)).bd _ = _
    rw [hf acc k L[k] hq (by omega), bdo, poly_fold hL hn hl hf k _ (by omega) (by omega)]
    have e2 : (L.take (k + 1)).reverse = L[k] :: (L.take k).reverse := by
      rw [List.take_succ_eq_append_getElem (by omega : k < L.length), List.reverse_append, List.reverse_singleton, List.singleton_append]
    rw [e2]
    show _ = Mm.ok (pT (L.take k).reverse (pStep acc (fr L[k]) (L.take k).reverse.length))
    rw [List.length_reverse, List.length_take, Nat.min_eq_left (by omega)]
def polT (L : List Rat) : List Nat := if pT L.reverse [] = [] then [48] else pT L.reverse []
theorem revL_eq (n : Nat) : revL (n : Int) = ((List.range n).reverse).map fun (i : Nat) => (i : Int) := by
  unfold revL rangeDn
  rw [show ((n : Int) - 0).toNat = n by omega]
  refine List.ext_getElem (by simp) fun i h1 h2 => ?_
  simp only [List.getElem_map, List.getElem_range, List.getElem_reverse, List.length_range]
  simp only [List.length_map, List.length_range] at h1
  omega
theorem poly_step {acc : List Nat} {q : Rat} {n p : Nat} (h : Sq n q) (hn : n ≤ 63) (hp : p < 1000) (ha : acc.length ≤ 6400) :
    (cond (!(decide ((fr q).1 = (0 : Int)))) ((sign_text ((fr q).1) ((decide (acc = ([] : List Nat))))).bd fun b72 => (guardM (acc.length + b72.length ≤ 100000)).bd fun _ => (term_text (((absI (fr q).1), (fr q).2)) ((p : Nat) : Int)).bd fun b85 => (guardM ((acc ++ b72).length + b85.length ≤ 100000)).bd fun _ => Mm.ok ((acc ++ b72) ++ b85)) (Mm.ok acc)) = .ok (pStep acc (fr q) p) := by
  unfold pStep
  by_cases c : (fr q).1 = 0
  · rw [if_pos c, decide_eq_true c]
    rfl
  · have r := rx_abs h
    have a := tT_len (p := p) r.t r.b hn hp
    have b := sg_len (fr q).1 (decide (acc = []))
    rw [if_neg c, decide_eq_false c]
    show (sign_text _ _).bd _ = _
    rw [sign_text_ok, bdo, guard_ok (by omega), bdo, term_text_ok r (fr_abs q) hn hp, bdo, ← fr_abs q, guard_ok (by rw [List.length_append]; omega), bdo]
theorem polynomial_text_ok {ps : List Rat} {pl : List (Int × Int)} {n : Nat} (h : All2 (fun q x => Rx n x q) ps pl) (hn : n ≤ 63) (hl : ps.length < 100) : polynomial_text pl = .ok (polT ps) := by
  have ll := h.len
  have e1 : mapMm (fun (x7 : (Int × Int)) => (checked_fraction (x7)).bd fun b26 => Mm.ok b26) pl = .ok (ps.map fr) := h.map_eq fun q x _ r => by rw [checked_fraction_x r (by omega), bdo]
  have sq : Sqs n ps := h.left fun q x r => r.sq
  unfold polynomial_text
  rw [guard_ok (by omega), bdo, e1, bdo, guard_ok (by rw [List.length_map]; omega), bdo]
  have e2 : (revL (((ps.map fr).length : Nat) : Int)) = ((List.range ps.length).reverse).map fun (i : Nat) => (i : Int) := by rw [revL_eq, List.length_map]
  rw [e2, poly_fold (L := ps) sq hn hl (fun acc p q hq ha => ?_) ps.length [] (Nat.le_refl _) (by show 0 + _ ≤ _; omega), bdo, List.take_length]
  · unfold polT
    by_cases c : pT ps.reverse [] = []
    · rw [cT (decide_eq_true c), if_pos c]
    · rw [cF (decide_eq_false c), if_neg c]
  · have hp := (List.getElem?_eq_some_iff.mp hq).1
    rw [getM_map hq, bdo]
    exact poly_step (sq q (List.mem_of_getElem? hq)) hn (by omega) ha
/-! ### k42: the law's own text of a polynomial -/
def lT (p : Nat) : List Nat := if p = 0 then [] else xT p
theorem letter_ok {p : Nat} (hp : p < 1000) : (cond (decide ((p : Int) < (2 : Int))) ((getM [([] : List Nat), ([120] : List Nat)] (p : Int)).bd fun i71 => Mm.ok i71) ((guardM ((p : Int).natAbs < 18446744073709551616)).bd fun _ => (guardM (([120, 94] : List Nat).length + (intL (p : Int)).length ≤ 100000)).bd fun _ => Mm.ok (([120, 94] : List Nat) ++ (intL (p : Int))))) = .ok (lT p) := by
  have il := len_intL (i := (p : Int)) (k := 3) (by decide) (by show ((p : Int)).natAbs < 1000; omega)
  match p with
  | 0 => rfl
  | 1 => rfl
  | p + 2 =>
    rw [cF (decide_eq_false (by omega)), guard_ok (by omega), bdo, guard_ok (by show 2 + _ ≤ 100000; omega), bdo]
    unfold lT xT
    rw [if_neg (by omega), if_pos (by omega)]
theorem word_ok {q : Rat} {n p : Nat} {y : Int × Int} (h : Rx n y q) (hy : y = fr q) (hn : n ≤ 63) (hp : p < 1000) :
    ((cond ((decide (fT y = ([49] : List Nat))) && (decide ((p : Int) > (0 : Int)))) (Mm.ok (lT p)) ((cond (decide ((p : Int) > (0 : Int))) ((guardM ((fT y).length + ([32] : List Nat).length ≤ 100000)).bd fun _ => (guardM (((fT y) ++ ([32] : List Nat)).length + (lT p).length ≤ 100000)).bd fun _ => Mm.ok (((fT y) ++ ([32] : List Nat)) ++ (lT p))) (Mm.ok (fT y))).bd fun b90 => Mm.ok b90))) = .ok (tT y p) := by
  have fl := fT_len h.t h.b hn
  have xl := xT_len hp
  have py : 0 < y.2 := by rw [hy]; exact den_posI q
  unfold tT lT
  by_cases c : p = 0
  · subst c
    rw [cF (by simp), cF (by simp), bdo, if_pos rfl]
  · have c2 : decide ((p : Int) > 0) = true := decide_eq_true (by omega)
    rw [c2, if_neg c, if_neg c, Bool.and_true]
    by_cases d : y = (1, 1)
    · rw [cT (decide_eq_true ((fT_one py).mpr d)), if_pos d]
    · rw [cF (decide_eq_false (fun z => d ((fT_one py).mp z))), if_neg d, cT rfl, guard_ok (by rw [List.length_singleton]; omega), bdo, guard_ok (by rw [List.length_append, List.length_singleton]; omega), bdo, bdo]
theorem law_step {acc : List Nat} {q : Rat} {n p : Nat} (h : Sq n q) (hn : n ≤ 63) (hp : p < 1000) (ha : acc.length ≤ 6400) :
    (cond (!(decide ((fr q).1 = (0 : Int)))) ((law_number (((absI (fr q).1), (fr q).2))).bd fun b48 => (cond (decide ((p : Int) < (2 : Int))) ((getM [([] : List Nat), ([120] : List Nat)] (p : Int)).bd fun i71 => Mm.ok i71) ((guardM ((p : Int).natAbs < 18446744073709551616)).bd fun _ => (guardM (([120, 94] : List Nat).length + (intL (p : Int)).length ≤ 100000)).bd fun _ => Mm.ok (([120, 94] : List Nat) ++ (intL (p : Int))))).bd fun b60 =>
      (cond ((decide (b48 = ([49] : List Nat))) && (decide ((p : Int) > (0 : Int)))) (Mm.ok b60) ((cond (decide ((p : Int) > (0 : Int))) ((guardM (b48.length + ([32] : List Nat).length ≤ 100000)).bd fun _ => (guardM ((b48 ++ ([32] : List Nat)).length + b60.length ≤ 100000)).bd fun _ => Mm.ok ((b48 ++ ([32] : List Nat)) ++ b60)) (Mm.ok b48)).bd fun b90 => Mm.ok b90)).bd fun b83 =>
      cond (decide (acc = ([] : List Nat))) ((cond (decide ((fr q).1 < (0 : Int))) (Mm.ok ([45] : List Nat)) (Mm.ok ([] : List Nat))).bd fun b99 => (guardM (b99.length + b83.length ≤ 100000)).bd fun _ => Mm.ok (b99 ++ b83))
        ((cond (decide ((fr q).1 < (0 : Int))) (Mm.ok ([32, 45, 32] : List Nat)) (Mm.ok ([32, 43, 32] : List Nat))).bd fun b107 => (guardM (acc.length + b107.length ≤ 100000)).bd fun _ => (guardM ((acc ++ b107).length + b83.length ≤ 100000)).bd fun _ => Mm.ok ((acc ++ b107) ++ b83))) (Mm.ok acc)) = .ok (pStep acc (fr q) p) := by
  unfold pStep
  by_cases c : (fr q).1 = 0
  · rw [if_pos c, decide_eq_true c]
    rfl
  · have r := rx_abs h
    have a := tT_len (p := p) r.t r.b hn hp
    have b := sg_len (fr q).1 (decide (acc = []))
    rw [if_neg c, decide_eq_false c]
    show (law_number _).bd _ = _
    rw [law_number_ok r.t r.b hn, bdo, letter_ok hp, bdo, word_ok r (fr_abs q) hn hp, bdo]
    generalize tT (absI (fr q).1, (fr q).2) p = T at *
    unfold sg at b ⊢
    by_cases e : acc = []
    · rw [cT (decide_eq_true e), decide_eq_true e, if_pos rfl]
      subst e
      by_cases s : (fr q).1 < 0
      · rw [cT (decide_eq_true s), if_pos s, bdo, guard_ok (by rw [List.length_singleton]; omega), bdo]
        rfl
      · rw [cF (decide_eq_false s), if_neg s, bdo, guard_ok (by rw [List.length_nil]; omega), bdo]
        rfl
    · rw [cF (decide_eq_false e), decide_eq_false e, if_neg Bool.false_ne_true]
      by_cases s : (fr q).1 < 0
      · rw [cT (decide_eq_true s), if_pos s, bdo, guard_ok (by show acc.length + 3 ≤ _; omega), bdo, guard_ok (by rw [List.length_append]; show acc.length + 3 + _ ≤ _; omega), bdo]
      · rw [cF (decide_eq_false s), if_neg s, bdo, guard_ok (by show acc.length + 3 ≤ _; omega), bdo, guard_ok (by rw [List.length_append]; show acc.length + 3 + _ ≤ _; omega), bdo]
theorem range_back (n : Nat) : (rangeL 0 n).map (fun x => ((n : Int) - (1 : Int)) - x) = ((List.range n).reverse).map fun (i : Nat) => (i : Int) := by
  unfold rangeL
  refine List.ext_getElem (by simp) fun i h1 h2 => ?_
  simp only [List.getElem_map, List.getElem_range, List.getElem_reverse, List.length_range]
  simp only [List.length_map, List.length_range] at h1
  omega
theorem law_terms_ok {L : List Rat} {n : Nat} (hL : Sqs n L) (hn : n ≤ 63) (hl : L.length < 100) : law_terms (L.map fr) = .ok (polT L) := by
  unfold law_terms
  rw [List.length_map, rangeM_ok (by omega), bdo, show ((L.length : Int)).toNat = L.length by omega]
  have e := poly_fold (f := fun (b7 : (List Nat)) (x8 : Int) => (getM (L.map fr) x8).bd fun i32 => cond (!(decide (i32.1 = (0 : Int)))) ((law_number (((absI i32.1), i32.2))).bd fun b48 => (cond (decide (x8 < (2 : Int))) ((getM [([] : List Nat), ([120] : List Nat)] x8).bd fun i71 => Mm.ok i71) ((guardM (x8.natAbs < 18446744073709551616)).bd fun _ => (guardM (([120, 94] : List Nat).length + (intL x8).length ≤ 100000)).bd fun _ => Mm.ok (([120, 94] : List Nat) ++ (intL x8)))).bd fun b60 =>
      (cond ((decide (b48 = ([49] : List Nat))) && (decide (x8 > (0 : Int)))) (Mm.ok b60) ((cond (decide (x8 > (0 : Int))) ((guardM (b48.length + ([32] : List Nat).length ≤ 100000)).bd fun _ => (guardM ((b48 ++ ([32] : List Nat)).length + b60.length ≤ 100000)).bd fun _ => Mm.ok ((b48 ++ ([32] : List Nat)) ++ b60)) (Mm.ok b48)).bd fun b90 => Mm.ok b90)).bd fun b83 =>
      cond (decide (b7 = ([] : List Nat))) ((cond (decide (i32.1 < (0 : Int))) (Mm.ok ([45] : List Nat)) (Mm.ok ([] : List Nat))).bd fun b99 => (guardM (b99.length + b83.length ≤ 100000)).bd fun _ => Mm.ok (b99 ++ b83))
        ((cond (decide (i32.1 < (0 : Int))) (Mm.ok ([32, 45, 32] : List Nat)) (Mm.ok ([32, 43, 32] : List Nat))).bd fun b107 => (guardM (b7.length + b107.length ≤ 100000)).bd fun _ => (guardM ((b7 ++ b107).length + b83.length ≤ 100000)).bd fun _ => Mm.ok ((b7 ++ b107) ++ b83))) (Mm.ok b7)) (L := L) hL hn hl
    (fun acc p q hq ha => by
      have hp := (List.getElem?_eq_some_iff.mp hq).1
      rw [getM_map hq, bdo]
      exact law_step (hL q (List.mem_of_getElem? hq)) hn (by omega) ha) L.length [] (Nat.le_refl _) (by show 0 + _ ≤ _; omega)
  rw [← range_back, foldM_map, List.take_length] at e
  have e2 : ∀ {β : Type} (g : List Nat → Mm β), ((foldM _ ([] : List Nat) (rangeL 0 L.length)).bd g) = g (pT L.reverse []) := fun g => by rw [e, bdo]
  refine (e2 _).trans ?_
  unfold polT
  by_cases c : pT L.reverse [] = []
  · rw [decide_eq_true c, if_pos c]
    rfl
  · rw [decide_eq_false c, if_neg c]
    rfl
/-! ### k42: a weighting's text -/
theorem numL_range {n x : Nat} (h : x ∈ TL.numL n) : 48 ≤ x ∧ x ≤ 57 := by
  rcases Nat.lt_or_ge x 48 with c | c
  · exact absurd h (TL.numL_free (.inl c))
  · rcases Nat.lt_or_ge 57 x with d | d
    · exact absurd h (TL.numL_free (.inr d))
    · exact ⟨c, d⟩
theorem intL_range {i : Int} {x : Nat} (h : x ∈ intL i) : 45 ≤ x ∧ x ≤ 57 := by
  unfold intL at h
  split at h
  · cases h with
    | head => exact ⟨by decide, by decide⟩
    | tail _ h => have := numL_range h; omega
  · have := numL_range h
    omega
theorem fT_range {y : Int × Int} {x : Nat} (h : x ∈ fT y) : 45 ≤ x ∧ x ≤ 57 := by
  unfold fT at h
  split at h
  · exact intL_range h
  · rcases List.mem_append.mp h with h | h
    · rcases List.mem_append.mp h with h | h
      · exact intL_range h
      · rw [List.mem_singleton.mp h]
        exact ⟨by decide, by decide⟩
    · exact intL_range h
theorem shaped_txts : ∀ {l : List (List Nat)}, (∀ x ∈ l, ∀ c ∈ x, c ≤ 57) → PyData.canLayAll0 (l.map eT) = true ∧ PyData.depthAll (l.map eT) ≤ 1
  | [], _ => ⟨rfl, by simp [PyData.depthAll]⟩
  | x :: l, h => by
    obtain ⟨a, b⟩ := shaped_txts (l := l) fun y hy => h y (List.mem_cons_of_mem _ hy)
    have c : PyData.canLay0 (eT x) = true := by
      show PyData.canLay0 (.str (sT x)) = true
      unfold PyData.canLay0
      show (x.toArray.all fun c => decide (c < 0x110000)) = true
      rw [Array.all_eq_true_iff_forall_mem]
      intro c hc
      rw [List.mem_toArray] at hc
      have := h x (List.mem_cons_self ..) c hc
      exact decide_eq_true (by omega)
    refine ⟨?_, ?_⟩
    · rw [List.map_cons]
      show (PyData.canLay0 (eT x) && PyData.canLayAll0 (l.map eT)) = true
      rw [a, c]
      rfl
    · rw [List.map_cons]
      show max (PyData.depth (eT x)) (PyData.depthAll (l.map eT)) ≤ 1
      have e : PyData.depth (eT x) ≤ 1 := by
        show PyData.depth (.str (sT x)) ≤ 1
        unfold PyData.depth
        decide
      omega
theorem shaped_eT {l : List (List Nat)} (h : ∀ x ∈ l, ∀ c ∈ x, c ≤ 57) : SeqAt.shaped (eL eT l) = true := by
  obtain ⟨a, b⟩ := shaped_txts h
  show (PyData.canLay0 (.list (l.map eT)) && decide (PyData.depth (.list (l.map eT)) ≤ 64)) = true
  rw [Bool.and_eq_true, decide_eq_true_eq]
  refine ⟨?_, ?_⟩
  · unfold PyData.canLay0
    exact a
  · unfold PyData.depth
    omega
theorem number_all : (List.range 199).map (fun (n : Nat) => number_of (intL ((n : Int) - 99))) = (List.range 199).map fun (n : Nat) => Mm.ok (some ((n : Int) - 99)) := by kernel_rfl
theorem number_of_ok {n : Int} (h : n.natAbs ≤ 99) : number_of (intL n) = .ok (some n) := by
  have z := congrArg (fun l => l[(n + 99).toNat]?) number_all
  simp only [List.getElem?_map, List.getElem?_range (show (n + 99).toNat < 199 by omega), Option.map_some] at z
  injection z with z
  rw [show (((n + 99).toNat : Nat) : Int) - 99 = n by omega] at z
  exact z
def rowT (W : List Nat) (ns : List Int) : List Nat := joinT [32] (W :: ns.map intL)
theorem ints_text : ∀ {ns : List Int}, (∀ n ∈ ns, n.natAbs ≤ 99) → mapMm (fun (x7 : Int) => (guardM (x7.natAbs < 18446744073709551616)).bd fun _ => Mm.ok (intL x7)) ns = .ok (ns.map intL)
  | [], _ => rfl
  | n :: ns, h => by
    unfold mapMm
    have := h n (List.mem_cons_self ..)
    rw [guard_ok (by omega), bdo, bdo, ints_text fun m hm => h m (List.mem_cons_of_mem _ hm), bdo]
    rfl
theorem sum_le {l : List Nat} {c : Nat} (h : ∀ x ∈ l, x ≤ c) : l.sum ≤ l.length * c := by
  induction l with
  | nil => simp
  | cons x l ih =>
    have a := h x (List.mem_cons_self ..)
    have b := ih fun y hy => h y (List.mem_cons_of_mem _ hy)
    rw [List.sum_cons, List.length_cons, Nat.succ_mul]
    omega
theorem joinC_ok {a : List Nat} {ls : List (List Nat)} (ha : a.length ≤ 10) (hl : ls.length ≤ 100) (h : ∀ x ∈ ls, x.length ≤ 1000) : joinC a ls := by
  have z := sum_le (l := ls.map List.length) (c := 1000) (fun x hx => by
    obtain ⟨y, hy, rfl⟩ := List.mem_map.mp hx
    exact h y hy)
  rw [List.length_map] at z
  unfold joinC
  have e1 : ls.length * 1000 ≤ 100 * 1000 := Nat.mul_le_mul_right _ hl
  have e2 : ls.length * a.length ≤ 100 * 10 := Nat.mul_le_mul hl ha
  omega
theorem len_small {n : Int} (h : n.natAbs ≤ 99) : (intL n).length ≤ 3 := len_intL (k := 2) (by decide) (by omega)
theorem rowC {W : List Nat} {ns : List Int} (hW : W.length ≤ 10) (hl : ns.length ≤ 10) (h : ∀ n ∈ ns, n.natAbs ≤ 99) : joinC [32] (W :: ns.map intL) := by
  refine joinC_ok (by decide) (by rw [List.length_cons, List.length_map]; omega) fun x hx => ?_
  cases hx with
  | head => omega
  | tail _ hx =>
    obtain ⟨n, hn, rfl⟩ := List.mem_map.mp hx
    have := len_small (h n hn)
    omega
theorem row_text_ok {W : List Nat} {ns : List Int} (hW : W.length ≤ 10) (hl : ns.length ≤ 10) (h : ∀ n ∈ ns, n.natAbs ≤ 99) : row_text W ns = .ok (rowT W ns) := by
  unfold row_text
  rw [guard_ok (by omega), bdo, ints_text h, bdo, guard_ok (by rw [List.length_singleton, List.length_map]; omega), bdo, List.singleton_append, guard_ok (rowC hW hl h), bdo]
  rfl
def wMass : List Nat := [109, 97, 115, 115]
def wStr : List Nat := [115, 116, 114, 101, 116, 99, 104]
def mR (m : Int × Int) : List Nat := rowT wMass [m.1, m.2]
def sR (s : Int × Int × Int) : List Nat := rowT wStr [s.1, s.2.1, s.2.2]
def rowsT (w : Wt) : List (List Nat) := w.1.map mR ++ w.2.map sR
def wT (w : Wt) : List Nat := joinT [10] (rowsT w)
theorem in2 {a b : Int} (ha : a.natAbs ≤ 99) (hb : b.natAbs ≤ 99) : ∀ n ∈ [a, b], n.natAbs ≤ 99 := by
  intro n hn
  simp only [List.mem_cons, List.not_mem_nil, or_false] at hn
  rcases hn with rfl | rfl <;> assumption
theorem in3 {a b c : Int} (ha : a.natAbs ≤ 99) (hb : b.natAbs ≤ 99) (hc : c.natAbs ≤ 99) : ∀ n ∈ [a, b, c], n.natAbs ≤ 99 := by
  intro n hn
  simp only [List.mem_cons, List.not_mem_nil, or_false] at hn
  rcases hn with rfl | rfl | rfl <;> assumption
theorem join_len {a : List Nat} : ∀ {ls : List (List Nat)}, (joinT a ls).length ≤ (ls.map List.length).sum + ls.length * a.length
  | [] => by simp [joinT, TL.joinL]
  | [x] => by simp [joinT, TL.joinL]
  | x :: y :: r => by
    have z := join_len (a := a) (ls := y :: r)
    show (x ++ (a ++ joinT a (y :: r))).length ≤ _
    rw [List.length_append, List.length_append, List.map_cons, List.sum_cons, List.length_cons, Nat.succ_mul]
    omega
theorem rowT_len {W : List Nat} {ns : List Int} (hW : W.length ≤ 10) (hl : ns.length ≤ 10) (h : ∀ n ∈ ns, n.natAbs ≤ 99) : (rowT W ns).length ≤ 121 := by
  have z := join_len (a := [32]) (ls := W :: ns.map intL)
  have y := sum_le (l := (W :: ns.map intL).map List.length) (c := 10) (fun x hx => by
    obtain ⟨y, hy, rfl⟩ := List.mem_map.mp hx
    cases hy with
    | head => omega
    | tail _ hy =>
      obtain ⟨n, hn, rfl⟩ := List.mem_map.mp hy
      have := len_small (h n hn)
      omega)
  rw [List.length_map, List.length_cons, List.length_map] at y
  rw [List.length_cons, List.length_map, List.length_singleton] at z
  show (joinT [32] (W :: ns.map intL)).length ≤ 121
  omega
structure Ns (w : Wt) : Prop where
  m : ∀ m ∈ w.1, m.1.natAbs ≤ 99 ∧ m.2.natAbs ≤ 99
  s : ∀ s ∈ w.2, s.1.natAbs ≤ 99 ∧ s.2.1.natAbs ≤ 99 ∧ s.2.2.natAbs ≤ 99
  lm : w.1.length ≤ 6
  ls : w.2.length ≤ 4
theorem WOk.ns {w : Wt} (h : WOk w) : Ns w := ⟨fun m hm => by have := h.ms.each m hm; omega, fun s hs => by have := h.ss.each (by decide) (by decide) s hs; omega, h.ms.len, h.ls⟩
theorem mR_ok {w : Wt} (h : Ns w) : mapMm (fun (x14 : (Int × Int)) => (row_text (([109, 97, 115, 115] : List Nat)) ([x14.1, x14.2])).bd fun b34 => Mm.ok b34) w.1 = .ok (w.1.map mR) := by
  refine mapMm_eq _ fun m hm => ?_
  rw [row_text_ok (by decide) (by show 2 ≤ 10; decide) (in2 (h.m m hm).1 (h.m m hm).2), bdo]
  rfl
theorem sR_ok {w : Wt} (h : Ns w) : mapMm (fun (x48 : (Int × Int × Int)) => (row_text (([115, 116, 114, 101, 116, 99, 104] : List Nat)) ([x48.1, x48.2.1, x48.2.2])).bd fun b68 => Mm.ok b68) w.2 = .ok (w.2.map sR) := by
  refine mapMm_eq _ fun m hm => ?_
  obtain ⟨a, b, c⟩ := h.s m hm
  rw [row_text_ok (by decide) (by show 3 ≤ 10; decide) (in3 a b c), bdo]
  rfl
theorem rows_len {w : Wt} (h : Ns w) : (rowsT w).length ≤ 10 := by
  have := h.lm
  have := h.ls
  unfold rowsT
  rw [List.length_append, List.length_map, List.length_map]
  omega
theorem rows_each {w : Wt} (h : Ns w) : ∀ x ∈ rowsT w, x.length ≤ 121 := by
  intro x hx
  rcases List.mem_append.mp hx with hx | hx
  · obtain ⟨m, hm, rfl⟩ := List.mem_map.mp hx
    exact rowT_len (by decide) (by show 2 ≤ 10; decide) (in2 (h.m m hm).1 (h.m m hm).2)
  · obtain ⟨m, hm, rfl⟩ := List.mem_map.mp hx
    obtain ⟨a, b, c⟩ := h.s m hm
    exact rowT_len (by decide) (by show 3 ≤ 10; decide) (in3 a b c)
theorem rowsC {w : Wt} (h : Ns w) : joinC [10] (rowsT w) := joinC_ok (by decide) (by have := rows_len h; omega) fun x hx => by have := rows_each h x hx; omega
theorem format_ok {w : Wt} (h : Ns w) : format_weighting w = .ok (wT w) := by
  have a := h.lm
  have b := h.ls
  unfold format_weighting
  rw [guard_ok (by omega), bdo, mR_ok h, bdo, guard_ok (by omega), bdo, sR_ok h, bdo, guard_ok (by rw [List.length_map, List.length_map]; omega), bdo]
  rw [show w.1.map mR ++ w.2.map sR = rowsT w from rfl, guard_ok (rowsC h), bdo]
  rfl
/-! ### k42: a weighting's text read again -/
theorem join_mem {a : List Nat} {x : Nat} : ∀ {ls : List (List Nat)}, x ∈ joinT a ls → x ∈ a ∨ ∃ l ∈ ls, x ∈ l
  | [], h => by cases h
  | [y], h => .inr ⟨y, List.mem_singleton.mpr rfl, h⟩
  | y :: z :: r, h => by
    have h : x ∈ y ++ (a ++ joinT a (z :: r)) := h
    rcases List.mem_append.mp h with h | h
    · exact .inr ⟨y, List.mem_cons_self .., h⟩
    · rcases List.mem_append.mp h with h | h
      · exact .inl h
      · rcases join_mem h with h | ⟨l, hl, h⟩
        · exact .inl h
        · exact .inr ⟨l, List.mem_cons_of_mem _ hl, h⟩
theorem word_mem {W : List Nat} {ns : List Int} {l : List Nat} {x : Nat} (hl : l ∈ W :: ns.map intL) (hx : x ∈ l) : x ∈ W ∨ 45 ≤ x := by
  cases hl with
  | head => exact .inl hx
  | tail _ hl =>
    obtain ⟨n, hn, rfl⟩ := List.mem_map.mp hl
    exact .inr (intL_range hx).1
theorem rowT_free {W : List Nat} {ns : List Int} (hW : ∀ x ∈ W, 45 ≤ x) : 10 ∉ rowT W ns := fun h => by
  rcases join_mem h with h | ⟨l, hl, h⟩
  · exact absurd (List.mem_singleton.mp h) (by decide)
  · rcases word_mem hl h with h | h
    · exact absurd (hW _ h) (by decide)
    · exact absurd h (by decide)
theorem rowT_split {W : List Nat} {ns : List Int} (hW : ∀ x ∈ W, 45 ≤ x) : splT [32] (rowT W ns) = W :: ns.map intL := TL.spl_join (by simp) fun p hp h => by
  rcases word_mem hp h with h | h
  · exact absurd (hW _ h) (by decide)
  · exact absurd h (by decide)
theorem mass_letters : ∀ x ∈ wMass, 45 ≤ x := by decide
theorem str_letters : ∀ x ∈ wStr, 45 ≤ x := by decide
theorem wT_split {w : Wt} (hne : w.1 ≠ [] ∨ w.2 ≠ []) : splT [10] (wT w) = rowsT w := TL.spl_join (fun z => by
    have := List.append_eq_nil_iff.mp z
    rcases hne with h | h
    · exact h (List.map_eq_nil_iff.mp this.1)
    · exact h (List.map_eq_nil_iff.mp this.2)) fun p hp => by
  rcases List.mem_append.mp hp with h | h
  · obtain ⟨m, _, rfl⟩ := List.mem_map.mp h
    exact rowT_free mass_letters
  · obtain ⟨m, _, rfl⟩ := List.mem_map.mp h
    exact rowT_free str_letters
theorem wT_len {w : Wt} (h : Ns w) : (wT w).length ≤ 2000 := by
  have z := join_len (a := [10]) (ls := rowsT w)
  have y := sum_le (l := (rowsT w).map List.length) (c := 121) (fun x hx => by
    obtain ⟨y, hy, rfl⟩ := List.mem_map.mp hx
    exact rows_each h y hy)
  have l := rows_len h
  rw [List.length_map] at y
  rw [List.length_singleton] at z
  show (joinT [10] (rowsT w)).length ≤ 2000
  omega
theorem wrong2 {W : List Nat} {a b : Int} (ha : a.natAbs ≤ 99) (hb : b.natAbs ≤ 99) : wrong_word (W :: [intL a, intL b]) 2 = .ok none := by
  have g1 : getM (W :: [intL a, intL b]) (1 : Int) = .ok (intL a) := rfl
  have g2 : getM (W :: [intL a, intL b]) (2 : Int) = .ok (intL b) := rfl
  unfold wrong_word
  rw [show rangeM2 (1 : Int) ((2 : Int) + 1) = .ok [1, 2] from rfl, bdo, show rangeL (1 : Int) (((2 : Int) + 1) - 1).toNat = [1, 2] from rfl]
  unfold foldL
  simp only [g1, number_of_ok ha, bdo, cond_false, show decide ((1 : Int) = (((W :: [intL a, intL b]).length : Nat) : Int)) = false from rfl, Option.isNone_some]
  unfold foldL
  simp only [g2, number_of_ok hb, bdo, cond_false, show decide ((2 : Int) = (((W :: [intL a, intL b]).length : Nat) : Int)) = false from rfl, Option.isNone_some]
  unfold foldL
  rfl
theorem wrong3 {W : List Nat} {a b c : Int} (ha : a.natAbs ≤ 99) (hb : b.natAbs ≤ 99) (hc : c.natAbs ≤ 99) : wrong_word (W :: [intL a, intL b, intL c]) 3 = .ok none := by
  have g1 : getM (W :: [intL a, intL b, intL c]) (1 : Int) = .ok (intL a) := rfl
  have g2 : getM (W :: [intL a, intL b, intL c]) (2 : Int) = .ok (intL b) := rfl
  have g3 : getM (W :: [intL a, intL b, intL c]) (3 : Int) = .ok (intL c) := rfl
  unfold wrong_word
  rw [show rangeM2 (1 : Int) ((3 : Int) + 1) = .ok [1, 2, 3] from rfl, bdo, show rangeL (1 : Int) (((3 : Int) + 1) - 1).toNat = [1, 2, 3] from rfl]
  unfold foldL
  simp only [g1, number_of_ok ha, bdo, cond_false, show decide ((1 : Int) = (((W :: [intL a, intL b, intL c]).length : Nat) : Int)) = false from rfl, Option.isNone_some]
  unfold foldL
  simp only [g2, number_of_ok hb, bdo, cond_false, show decide ((2 : Int) = (((W :: [intL a, intL b, intL c]).length : Nat) : Int)) = false from rfl, Option.isNone_some]
  unfold foldL
  simp only [g3, number_of_ok hc, bdo, cond_false, show decide ((3 : Int) = (((W :: [intL a, intL b, intL c]).length : Nat) : Int)) = false from rfl, Option.isNone_some]
  unfold foldL
  rfl
theorem nums_of : ∀ {ns : List Int}, (∀ n ∈ ns, n.natAbs ≤ 99) → mapMm (fun (x107 : List Nat) => (number_of (x107)).bd fun b126 => Mm.ok b126) (ns.map intL) = .ok (ns.map some)
  | [], _ => rfl
  | n :: ns, h => by
    rw [List.map_cons]
    unfold mapMm
    rw [number_of_ok (h n (List.mem_cons_self ..)), bdo, bdo, nums_of fun m hm => h m (List.mem_cons_of_mem _ hm), bdo]
    rfl
theorem fold_enum {α S : Type} {f : S → Int × α → Mm S} {g : S → α → Mm S} (h : ∀ s i x, f s (i, x) = g s x) : ∀ (l : List α) (js : List Int) (s : S), js.length = l.length → foldM f s (js.zip l) = foldM g s l
  | [], js, s, e => by
    have : js = [] := List.length_eq_zero_iff.mp e
    subst this
    rfl
  | x :: l, [], s, e => by cases e
  | x :: l, j :: js, s, e => by
    rw [List.zip_cons_cons]
    unfold foldM
    rw [h]
    congr 1
    funext s'
    exact fold_enum h l js s' (by simpa using e)
def rd (b25 : List (List (Option Int)) × List (List (Option Int))) (x : List Nat) : Mm (List (List (Option Int)) × List (List (Option Int))) :=
  (guardM (x.length + 2 ≤ 100000)).bd fun _ => (getM (splT ([32] : List Nat) x) (0 : Int)).bd fun i72 => (cond (!(List.lookup i72 tb_NUMBERS).isSome) (Mm.ok true) ((cond (decide (i72 = ([109, 97, 115, 115] : List Nat))) (Mm.ok (decide ((b25.2.length : Int) > (0 : Int)))) (Mm.ok false)).bd fun b81 => Mm.ok b81)).bd fun b77 => cond b77 (Mm.bad) ((getO (List.lookup i72 tb_NUMBERS)).bd fun b85 => (wrong_word ((splT ([32] : List Nat) x)) (b85)).bd fun b87 => cond (!b87.isNone) ((getO b87).bd fun a94 => Mm.bad) ((guardM ((cutL (splT ([32] : List Nat) x) (some (1 : Int)) none).length ≤ 50000)).bd fun _ => (mapMm (fun (x107 : (List Nat)) => (number_of (x107)).bd fun b126 => Mm.ok b126) (cutL (splT ([32] : List Nat) x) (some (1 : Int)) none)).bd fun b106 => cond (decide (i72 = ([109, 97, 115, 115] : List Nat))) ((guardM (b25.1.length < 100000)).bd fun _ => Mm.ok ((b25.1 ++ [b106]), b25.2)) ((guardM (b25.2.length < 100000)).bd fun _ => Mm.ok (b25.1, (b25.2 ++ [b106])))))
theorem cut1 {α : Type} {x : α} {l : List α} : cutL (x :: l) (some (1 : Int)) none = l := by
  unfold cutL
  have e : HT.sIx (x :: l).length 0 (some (1 : Int)) = 1 := by
    rw [show (1 : Int) = ((1 : Nat) : Int) from rfl, HT.sIx_nat, List.length_cons]
    omega
  rw [e, HT.sIx_none]
  simp
theorem rd_mass {A : List (List (Option Int))} {m : Int × Int} (hA : A.length ≤ 100) (h1 : m.1.natAbs ≤ 99) (h2 : m.2.natAbs ≤ 99) : rd (A, []) (mR m) = .ok (A ++ [[some m.1, some m.2]], []) := by
  have l := rowT_len (W := wMass) (by decide) (by show 2 ≤ 10; decide) (in2 h1 h2)
  unfold rd mR
  rw [guard_ok (by omega), bdo, rowT_split mass_letters]
  rw [show getM (wMass :: [m.1, m.2].map intL) (0 : Int) = .ok wMass from rfl, bdo, show List.lookup wMass tb_NUMBERS = some 2 from by decide]
  have e : (cond (!(some (2 : Int)).isSome) (Mm.ok true) ((cond (decide (wMass = ([109, 97, 115, 115] : List Nat))) (Mm.ok (decide ((((((A, []) : List (List (Option Int)) × List (List (Option Int))).2).length : Nat) : Int) > (0 : Int)))) (Mm.ok false)).bd fun b81 => Mm.ok b81)) = .ok false := by
    rw [show decide (wMass = ([109, 97, 115, 115] : List Nat)) = true from by decide]
    rfl
  rw [e, bdo, cF rfl]
  rw [show getO (some (2 : Int)) = .ok 2 from rfl, bdo]
  show (wrong_word (wMass :: [intL m.1, intL m.2]) 2).bd _ = _
  rw [wrong2 h1 h2, bdo]
  rw [cF (by rfl : (!(none : Option Int).isNone) = false), cut1, guard_ok (by show 2 ≤ 50000; decide), bdo, nums_of (in2 h1 h2), bdo, cT (by decide), guard_ok (by show A.length < _; omega), bdo]
  rfl
theorem rd_str {A B : List (List (Option Int))} {s : Int × Int × Int} (hB : B.length ≤ 100) (h1 : s.1.natAbs ≤ 99) (h2 : s.2.1.natAbs ≤ 99) (h3 : s.2.2.natAbs ≤ 99) : rd (A, B) (sR s) = .ok (A, B ++ [[some s.1, some s.2.1, some s.2.2]]) := by
  have l := rowT_len (W := wStr) (by decide) (by show 3 ≤ 10; decide) (in3 h1 h2 h3)
  unfold rd sR
  rw [guard_ok (by omega), bdo, rowT_split str_letters]
  rw [show getM (wStr :: [s.1, s.2.1, s.2.2].map intL) (0 : Int) = .ok wStr from rfl, bdo, show List.lookup wStr tb_NUMBERS = some 3 from by decide]
  have e : (cond (!(some (3 : Int)).isSome) (Mm.ok true) ((cond (decide (wStr = ([109, 97, 115, 115] : List Nat))) (Mm.ok (decide ((((((A, B) : List (List (Option Int)) × List (List (Option Int))).2).length : Nat) : Int) > (0 : Int)))) (Mm.ok false)).bd fun b81 => Mm.ok b81)) = .ok false := by
    rw [decide_eq_false (show ¬ wStr = ([109, 97, 115, 115] : List Nat) from by decide)]
    rfl
  rw [e, bdo, cF rfl]
  rw [show getO (some (3 : Int)) = .ok 3 from rfl, bdo]
  show (wrong_word (wStr :: [intL s.1, intL s.2.1, intL s.2.2]) 3).bd _ = _
  rw [wrong3 h1 h2 h3, bdo]
  rw [cF (by rfl : (!(none : Option Int).isNone) = false), cut1, guard_ok (by show 3 ≤ 50000; decide), bdo, nums_of (in3 h1 h2 h3), bdo, cF (by decide), guard_ok (by show B.length < _; omega), bdo]
  rfl
theorem rd_masses : ∀ {ms : Ms} {A : List (List (Option Int))}, A.length + ms.length ≤ 100 → (∀ m ∈ ms, m.1.natAbs ≤ 99 ∧ m.2.natAbs ≤ 99) → foldM rd (A, []) (ms.map mR) = .ok (A ++ ms.map (fun m => [some m.1, some m.2]), [])
  | [], A, _, _ => by
    rw [List.map_nil, List.map_nil, List.append_nil]
    rfl
  | m :: ms, A, hl, h => by
    rw [List.length_cons] at hl
    rw [List.map_cons]
    unfold foldM
    have := h m (List.mem_cons_self ..)
    rw [rd_mass (by omega) this.1 this.2, bdo, rd_masses (by rw [List.length_append, List.length_singleton]; omega) fun x hx => h x (List.mem_cons_of_mem _ hx), List.map_cons, List.append_assoc]
    rfl
theorem rd_strs : ∀ {ss : Ss} {A B : List (List (Option Int))}, B.length + ss.length ≤ 100 → (∀ s ∈ ss, s.1.natAbs ≤ 99 ∧ s.2.1.natAbs ≤ 99 ∧ s.2.2.natAbs ≤ 99) → foldM rd (A, B) (ss.map sR) = .ok (A, B ++ ss.map (fun m => [some m.1, some m.2.1, some m.2.2]))
  | [], A, B, _, _ => by
    rw [List.map_nil, List.map_nil, List.append_nil]
    rfl
  | m :: ms, A, B, hl, h => by
    rw [List.length_cons] at hl
    rw [List.map_cons]
    unfold foldM
    have := h m (List.mem_cons_self ..)
    rw [rd_str (by omega) this.1 this.2.1 this.2.2, bdo, rd_strs (by rw [List.length_append, List.length_singleton]; omega) fun x hx => h x (List.mem_cons_of_mem _ hx), List.map_cons, List.append_assoc]
    rfl
theorem cast2_ok : ∀ (ms : Ms), castF2 (ms.map (fun m => [some m.1, some m.2])) = .ok ms
  | [] => rfl
  | m :: ms => by
    rw [List.map_cons]
    unfold castF2
    show (castF2 (ms.map (fun m => [some m.1, some m.2]))).bd _ = _
    rw [cast2_ok ms, bdo]
theorem cast3_ok : ∀ (ms : Ss), castF3 (ms.map (fun m => [some m.1, some m.2.1, some m.2.2])) = .ok ms
  | [] => rfl
  | m :: ms => by
    rw [List.map_cons]
    unfold castF3
    show (castF3 (ms.map (fun m => [some m.1, some m.2.1, some m.2.2]))).bd _ = _
    rw [cast3_ok ms, bdo]
theorem parse_ok {w : Wt} (h : WOk w) : parse_weighting (wT w) = .ok w := by
  have n := h.ns
  have l := wT_len n
  have a := n.lm
  have b := n.ls
  unfold parse_weighting
  rw [guard_ok (by omega), bdo, wT_split h.ne]
  unfold enumL
  rw [fold_enum (g := rd) (fun s i x => rfl) _ _ _ (by rw [rangeL_len])]
  unfold rowsT
  rw [foldM_app, rd_masses (by show 0 + _ ≤ 100; omega) n.m, bdo, rd_strs (by show 0 + _ ≤ 100; omega) n.s, bdo, List.nil_append, List.nil_append, cast2_ok, bdo, cast3_ok, bdo, init_ok h, bdo]
/-! ### k42 -/
theorem mapMm_app {α γ : Type} {f : α → Mm γ} {a b : List γ} : ∀ {l r : List α}, mapMm f l = .ok a → mapMm f r = .ok b → mapMm f (l ++ r) = .ok (a ++ b)
  | [], r, h1, h2 => by
    injection h1 with h1
    subst h1
    exact h2
  | x :: l, r, h1, h2 => by
    unfold mapMm at h1
    rw [List.cons_append]
    unfold mapMm
    cases e : f x with
    | ok y =>
      rw [e, bdo] at h1
      cases e2 : mapMm f l with
      | ok c =>
        rw [e2, bdo] at h1
        injection h1 with h1
        subst h1
        rw [bdo, mapMm_app e2 h2, bdo]
        rfl
      | ex y => rw [e2] at h1; cases h1
      | bad => rw [e2] at h1; cases h1
    | ex y => rw [e] at h1; cases h1
    | bad => rw [e] at h1; cases h1
theorem strs_ok : ∀ {ns : List Int}, (∀ n ∈ ns, n.natAbs ≤ 99) → mapMm (fun (x451 : PyData) => (strD x451).bd fun l470 => Mm.ok l470) (ns.map PyData.int) = .ok (ns.map intL)
  | [], _ => rfl
  | n :: ns, h => by
    have := h n (List.mem_cons_self ..)
    rw [List.map_cons]
    unfold mapMm
    have e : strD (PyData.int n) = .ok (intL n) := by
      unfold strD
      exact if_pos (by omega)
    rw [e, bdo, bdo, strs_ok fun m hm => h m (List.mem_cons_of_mem _ hm), bdo]
    rfl
theorem words_ok {W : List Nat} {ns : List Int} (h : ∀ n ∈ ns, n.natAbs ≤ 99) : mapMm (fun (x451 : PyData) => (strD x451).bd fun l470 => Mm.ok l470) ((List.map eT [W]) ++ (List.map PyData.int ns)) = .ok (W :: ns.map intL) := mapMm_app (a := [W]) rfl (strs_ok h)
theorem lrow_ok {W : List Nat} {ns : List Int} (hW : W.length ≤ 10) (hl : ns.length ≤ 10) (h : ∀ n ∈ ns, n.natAbs ≤ 99) :
    ((guardM (((List.map eT [W]) ++ (List.map PyData.int ns)).length ≤ 50000)).bd fun _ => (mapMm (fun (x451 : PyData) => (strD x451).bd fun l470 => Mm.ok l470) ((List.map eT [W]) ++ (List.map PyData.int ns))).bd fun b450 => (guardM (joinC ([32] : List Nat) b450)).bd fun _ => Mm.ok (joinT ([32] : List Nat) b450)) = .ok (rowT W ns) := by
  rw [guard_ok (by simp only [List.length_append, List.length_map, List.length_singleton]; omega), bdo, words_ok h, bdo, guard_ok (rowC hW hl h), bdo]
  rfl
theorem lrows_ok {w : Wt} (h : Ns w) : mapMm (fun (x426 : List PyData) => (guardM (x426.length ≤ 50000)).bd fun _ => (mapMm (fun (x451 : PyData) => (strD x451).bd fun l470 => Mm.ok l470) x426).bd fun b450 => (guardM (joinC ([32] : List Nat) b450)).bd fun _ => Mm.ok (joinT ([32] : List Nat) b450))
    (w.1.map (fun x => List.map eT [([109, 97, 115, 115] : List Nat)] ++ List.map PyData.int [x.1, x.2]) ++ w.2.map (fun x => List.map eT [([115, 116, 114, 101, 116, 99, 104] : List Nat)] ++ List.map PyData.int [x.1, x.2.1, x.2.2])) = .ok (rowsT w) := by
  refine mapMm_app ?_ ?_
  · rw [mapMm_map]
    exact mapMm_eq _ fun m hm => lrow_ok (by decide) (by show 2 ≤ 10; decide) (in2 (h.m m hm).1 (h.m m hm).2)
  · rw [mapMm_map]
    exact mapMm_eq _ fun m hm => lrow_ok (by decide) (by show 3 ≤ 10; decide) (in3 (h.s m hm).1 (h.s m hm).2.1 (h.s m hm).2.2)
def P5 (x : Int × Int) : Prop := x.2 ≠ 0 ∧ x.1.natAbs < 2 ^ 5 ∧ x.2.natAbs < 2 ^ 5
theorem spots {st : Rw} {scr : List Int} {N : Nat} {xs : List (Int × Int)} (hx : ∀ x ∈ xs, P5 x) (hl : xs.length ≤ 10) (r : Rk N st) (hN : N < 9000) :
    Yes (foldM (fun (b58 : ((List (Int × Int)) × Rw)) (x59 : Int) => (takenB scr b58.2 ((5 : Int))).bd fun b88 => (cond (decide (b88.1 > (2 : Int))) ((getM b58.1 x59).bd fun i102 => Mm.ok i102) ((getM [((0 : Int), (3 : Int)), ((2 : Int), (2 : Int)), (((0 : Int) - (3 : Int)), (3 : Int))] b88.1).bd fun i131 => Mm.ok i131)).bd fun b100 => (setM b58.1 x59 b100).bd fun m136 => Mm.ok (m136, b88.2)) (xs, st) (rangeL 0 xs.length)) fun s => (∀ x ∈ s.1, P5 x) ∧ s.1.length = xs.length ∧ Rk (N + xs.length) s.2 := by
  refine (yes_fold (fun (s : (List (Int × Int)) × Rw) (l : List Int) => (∀ i ∈ l, 0 ≤ i ∧ i < xs.length) ∧ (∀ x ∈ s.1, P5 x) ∧ s.1.length = xs.length ∧ ∃ M, Rk M s.2 ∧ M + l.length ≤ N + xs.length) _ _ ⟨fun i hi => ?_, hx, rfl, N, r, by rw [rangeL_len]; omega⟩ fun s x l hs => ?_).mono fun s hs => ?_
  · unfold rangeL at hi
    obtain ⟨j, hj, rfl⟩ := List.mem_map.mp hi
    have := List.mem_range.mp hj
    omega
  · obtain ⟨h1, h2, h3, M, rk, hM⟩ := hs
    rw [List.length_cons] at hM
    have hi := h1 x (List.mem_cons_self ..)
    refine (takenB_ok rk (by omega) (by omega) (by omega)).bd fun d hd => ?_
    have d1 := hd.1
    have y : Yes (cond (decide (d.1 > (2 : Int))) ((getM s.1 x).bd fun i102 => Mm.ok i102) ((getM [((0 : Int), (3 : Int)), ((2 : Int), (2 : Int)), (((0 : Int) - (3 : Int)), (3 : Int))] d.1).bd fun i131 => Mm.ok i131)) P5 := by
      by_cases c : d.1 > 2
      · rw [cT (decide_eq_true c)]
        obtain ⟨i, hm, gi⟩ := getM_ok (l := s.1) hi.1 (by omega)
        exact .eq gi (.ok (h2 i hm))
      · rw [cF (decide_eq_false c)]
        obtain ⟨i, hm, gi⟩ := getM_ok (l := [((0 : Int), (3 : Int)), ((2 : Int), (2 : Int)), (((0 : Int) - (3 : Int)), (3 : Int))]) d1.1 (by show d.1 < 3; omega)
        refine .eq gi (.ok ?_)
        simp only [List.mem_cons, List.not_mem_nil, or_false] at hm
        rcases hm with rfl | rfl | rfl <;> exact ⟨by decide, by decide, by decide⟩
    refine y.bd fun v hv => ?_
    have e : setM s.1 x v = .ok (s.1.set x.toNat v) := by
      unfold setM ixN
      rw [if_pos hi.1, if_pos (by omega)]
    rw [e, bdo]
    refine .ok ⟨fun i hi => h1 i (List.mem_cons_of_mem _ hi), fun z hz => ?_, by show (s.1.set x.toNat v).length = _; rw [List.length_set, h3], M + 1, hd.2, by omega⟩
    rcases List.mem_or_eq_of_mem_set hz with hz | rfl
    · exact h2 z hz
    · exact hv
  · obtain ⟨-, h2, h3, M, rk, hM⟩ := hs
    exact ⟨h2, h3, rk.up (by simpa using hM)⟩
theorem el_go42 {S R β : Type} {s : S} {f : S → Mm β} {g : R → Mm β} : (Fl.go (R := R) s).el f g = f s := rfl
theorem all2_own : ∀ {l : List (Int × Int)}, (∀ y ∈ l, Rx 5 y ((y.1 : Rat) / (y.2 : Rat))) → All2 (fun q x => Rx 5 x q) (l.map fun x => (x.1 : Rat) / (x.2 : Rat)) l
  | [], _ => .nil
  | y :: l, h => .cons (h y (List.mem_cons_self ..)) (all2_own fun z hz => h z (List.mem_cons_of_mem _ hz))
theorem law_true (scr : List Int) (h : scr.length ≤ 63) : law scr = .ok true := by
  suffices h : Yes (law scr) fun b => b = true by
    obtain ⟨b, e, rfl⟩ := h
    exact e
  unfold law
  rw [range_ok (by decide) (by decide), bdo]
  refine (yes_foldL (fun (s : Rw) n => ∃ k, Rk k s ∧ k + 60 * n ≤ 400) _ _ ⟨0, ⟨by decide, by decide, by decide, by decide⟩, by rw [rangeL_len]; decide⟩ fun s x n hx hs => ?_).bd fun o ho => ?_
  · obtain ⟨k, rk, hk⟩ := hs
    refine (takenB_ok rk (by omega) (by omega) (by omega)).bd fun a ha => ?_
    have a1 := ha.1
    refine (law_fractions_ok ha.2 a1.1 (by omega) (by omega)).bd fun b hb => ?_
    obtain ⟨⟨qs0, aq, lq⟩, rb⟩ := hb
    have lb := aq.len
    rw [range_ok (by omega) (by omega), bdo, show ((b.1.length : Nat) : Int).toNat = b.1.length by omega]
    refine (spots (aq.right fun q x r => ⟨r.nz, r.t, r.b⟩) (by omega) rb (by omega)).bd fun c hc => ?_
    obtain ⟨c1, c2, c3⟩ := hc
    have A : All2 (fun q x => Rx 5 x q) (c.1.map fun x => (x.1 : Rat) / (x.2 : Rat)) c.1 := all2_own fun x hx => ⟨(c1 x hx).1, (c1 x hx).2.1, (c1 x hx).2.2, rfl⟩
    have lA := A.len
    generalize (c.1.map fun x => (x.1 : Rat) / (x.2 : Rat)) = qs at A lA
    have e1 : mapMm (fun (x164 : (Int × Int)) => (law_low (x164.1) (x164.2)).bd fun b189 => Mm.ok b189) c.1 = .ok (qs.map fr) := A.map_eq fun q x _ r => by rw [law_low_x r (by decide), bdo]
    have e2 : mapMm (fun (x199 : (Int × Int)) => (fraction_text (x199)).bd fun b218 => Mm.ok b218) c.1 = .ok (qs.map fun q => fT (fr q)) := A.map_eq fun q x _ r => by rw [fraction_text_ok r (by decide), bdo]
    have sq : Sqs 5 qs := A.left fun q x r => r.sq
    have e3 : mapMm (fun (x232 : (Int × Int)) => (law_number (x232)).bd fun b251 => Mm.ok b251) (qs.map fr) = .ok (qs.map fun q => fT (fr q)) := by
      rw [mapMm_map]
      refine mapMm_eq _ fun q hq => ?_
      have r := rx_fr (sq q hq)
      rw [law_number_ok r.t r.b (by decide), bdo]
    have sh : SeqAt.shaped (eL eT (qs.map fun q => fT (fr q))) = true := shaped_eT fun x hx c hc => by
      obtain ⟨q, _, rfl⟩ := List.mem_map.mp hx
      exact (fT_range hc).2
    rw [guard_ok (by omega), bdo, e1, bdo, bdo, e2, bdo, guard_ok (by rw [List.length_map]; omega), bdo, e3, bdo, guard_ok ⟨sh, sh⟩, bdo]
    rw [show PyData.eqv (eL eT (qs.map fun q => fT (fr q))) (eL eT (qs.map fun q => fT (fr q))) = true from SeqAt.eqv_refl _ (SeqAt.canLay_of_shaped sh), cF (by rfl), polynomial_text_ok A (by decide) (by omega), bdo, law_terms_ok sq (by decide) (by omega), bdo, decide_eq_true rfl, cF (by rfl)]
    refine (law_weighting_okB c3 (by omega)).bd fun d hd => ?_
    obtain ⟨sm, rd⟩ := hd
    have n := sm.ok.ns
    have g1 := n.lm
    have g2 := n.ls
    have r1 := mapMm_eq (f := fun (x299 : (Int × Int)) => (guardM ((List.map eT [([109, 97, 115, 115] : List Nat)]).length + (List.map PyData.int [x299.1, x299.2]).length ≤ 100000)).bd fun _ => Mm.ok ((List.map eT [([109, 97, 115, 115] : List Nat)]) ++ (List.map PyData.int [x299.1, x299.2]))) d.1.1 fun x _ => by rw [guard_ok (by show 1 + 2 ≤ 100000; decide), bdo]
    have r2 := mapMm_eq (f := fun (x355 : (Int × Int × Int)) => (guardM ((List.map eT [([115, 116, 114, 101, 116, 99, 104] : List Nat)]).length + (List.map PyData.int [x355.1, x355.2.1, x355.2.2]).length ≤ 100000)).bd fun _ => Mm.ok ((List.map eT [([115, 116, 114, 101, 116, 99, 104] : List Nat)]) ++ (List.map PyData.int [x355.1, x355.2.1, x355.2.2]))) d.1.2 fun x _ => by rw [guard_ok (by show 1 + 3 ≤ 100000; decide), bdo]
    rw [guard_ok (by omega), bdo, r1, bdo, guard_ok (by omega), bdo, r2, bdo, guard_ok (by rw [List.length_map, List.length_map]; omega), bdo, guard_ok (by rw [List.length_append, List.length_map, List.length_map]; omega), bdo, lrows_ok n, bdo, guard_ok (rowsC n), bdo, format_ok n, bdo]
    rw [show wT d.1 = joinT [10] (rowsT d.1) from rfl, decide_eq_true rfl, cF (by rfl)]
    rw [show joinT [10] (rowsT d.1) = wT d.1 from rfl, parse_ok sm.ok, bdo]
    have eq : Weighting___eq__ d.1 d.1 = .ok true := by
      unfold Weighting___eq__
      rw [decide_eq_true rfl, decide_eq_true rfl]
      rfl
    rw [eq, bdo, bdo]
    exact .ok ⟨_, rfl, _, rd, by omega⟩
  · obtain ⟨s', rfl, -⟩ := ho
    have p1 : polynomial_text [] = .ok [48] := by kernel_rfl
    have p2 : polynomial_text [((0 : Int), (1 : Int)), (((0 : Int) - (1 : Int)), (1 : Int)), ((1 : Int), (1 : Int)), ((0 : Int), (1 : Int))] = .ok [120, 94, 50, 32, 45, 32, 120] := by kernel_rfl
    rw [el_go42, p1, bdo, cT (by decide), p2, bdo]
    exact .ok (by decide)
end L

set_option Elab.async false
set_option linter.all false
set_option maxRecDepth 100000
set_option maxHeartbeats 0
namespace L
open PySem L2 Evl Wk
abbrev sp_p_masses : Stmt := inClass (top 16) 1
abbrev sp_p_stretches : Stmt := inClass (top 16) 2
/-! ### the head -/
def fileN : Str := "/claim/cut.py"
def es : List He5.DefA := []
def dd_whole_within : He5.DefA := ⟨gAt "whole_within", "whole_within", "whole_within", defArgs s_whole_within, defBody s_whole_within, defScope s_whole_within, [], []⟩
def dd_lowest : He5.DefA := ⟨gAt "lowest", "lowest", "lowest", defArgs s_lowest, defBody s_lowest, defScope s_lowest, [], []⟩
def dd_checked_fraction : He5.DefA := ⟨gAt "checked_fraction", "checked_fraction", "checked_fraction", defArgs s_checked_fraction, defBody s_checked_fraction, defScope s_checked_fraction, [], []⟩
def dd_Weighting___eq__ : He5.DefA := ⟨initAt "Weighting" "__eq__", "__eq__", "Weighting.__eq__", defArgs s_Weighting___eq__, defBody s_Weighting___eq__, defScope s_Weighting___eq__, [], []⟩
def dd_is_place : He5.DefA := ⟨gAt "is_place", "is_place", "is_place", defArgs s_is_place, defBody s_is_place, defScope s_is_place, [], []⟩
def dd_is_mass : He5.DefA := ⟨gAt "is_mass", "is_mass", "is_mass", defArgs s_is_mass, defBody s_is_mass, defScope s_is_mass, [], []⟩
def dd_check_masses : He5.DefA := ⟨gAt "check_masses", "check_masses", "check_masses", defArgs s_check_masses, defBody s_check_masses, defScope s_check_masses, [], []⟩
def dd_check_stretches : He5.DefA := ⟨gAt "check_stretches", "check_stretches", "check_stretches", defArgs s_check_stretches, defBody s_check_stretches, defScope s_check_stretches, [], []⟩
def dd_Weighting_init : He5.DefA := ⟨initAt "Weighting" "__init__", "__init__", "Weighting.__init__", defArgs s_Weighting_init, defBody s_Weighting_init, defScope s_Weighting_init, [], []⟩
def dd_fraction_text : He5.DefA := ⟨gAt "fraction_text", "fraction_text", "fraction_text", defArgs s_fraction_text, defBody s_fraction_text, defScope s_fraction_text, [], []⟩
def dd_term_text : He5.DefA := ⟨gAt "term_text", "term_text", "term_text", defArgs s_term_text, defBody s_term_text, defScope s_term_text, [], []⟩
def dd_sign_text : He5.DefA := ⟨gAt "sign_text", "sign_text", "sign_text", defArgs s_sign_text, defBody s_sign_text, defScope s_sign_text, [], []⟩
def dd_polynomial_text : He5.DefA := ⟨gAt "polynomial_text", "polynomial_text", "polynomial_text", defArgs s_polynomial_text, defBody s_polynomial_text, defScope s_polynomial_text, [], []⟩
def dd_number_of : He5.DefA := ⟨gAt "number_of", "number_of", "number_of", defArgs s_number_of, defBody s_number_of, defScope s_number_of, [], []⟩
def dd_wrong_word : He5.DefA := ⟨gAt "wrong_word", "wrong_word", "wrong_word", defArgs s_wrong_word, defBody s_wrong_word, defScope s_wrong_word, [], []⟩
def dd_row_text : He5.DefA := ⟨gAt "row_text", "row_text", "row_text", defArgs s_row_text, defBody s_row_text, defScope s_row_text, [], []⟩
def dd_format_weighting : He5.DefA := ⟨gAt "format_weighting", "format_weighting", "format_weighting", defArgs s_format_weighting, defBody s_format_weighting, defScope s_format_weighting, [], []⟩
def dd_parse_weighting : He5.DefA := ⟨gAt "parse_weighting", "parse_weighting", "parse_weighting", defArgs s_parse_weighting, defBody s_parse_weighting, defScope s_parse_weighting, [], []⟩
def dd_law_taken : He5.DefA := ⟨gAt "_law_taken", "_law_taken", "_law_taken", defArgs s_law_taken, defBody s_law_taken, defScope s_law_taken, [], []⟩
def dd_law_low : He5.DefA := ⟨gAt "_law_low", "_law_low", "_law_low", defArgs s_law_low, defBody s_law_low, defScope s_law_low, [], []⟩
def dd_law_add : He5.DefA := ⟨gAt "_law_add", "_law_add", "_law_add", defArgs s_law_add, defBody s_law_add, defScope s_law_add, [], []⟩
def dd_law_times : He5.DefA := ⟨gAt "_law_times", "_law_times", "_law_times", defArgs s_law_times, defBody s_law_times, defScope s_law_times, [], []⟩
def dd_law_weighting : He5.DefA := ⟨gAt "_law_weighting", "_law_weighting", "_law_weighting", defArgs s_law_weighting, defBody s_law_weighting, defScope s_law_weighting, [], []⟩
def dd_law_fractions : He5.DefA := ⟨gAt "_law_fractions", "_law_fractions", "_law_fractions", defArgs s_law_fractions, defBody s_law_fractions, defScope s_law_fractions, [], []⟩
def dd_law_number : He5.DefA := ⟨gAt "_law_number", "_law_number", "_law_number", defArgs s_law_number, defBody s_law_number, defScope s_law_number, [], []⟩
def dd_law_terms : He5.DefA := ⟨gAt "_law_terms", "_law_terms", "_law_terms", defArgs s_law_terms, defBody s_law_terms, defScope s_law_terms, [], []⟩
def dd_law : He5.DefA := ⟨gAt "law", "law", "law", defArgs s_law, defBody s_law, defScope s_law, [], []⟩
def dd_p_masses : He5.DefA := ⟨propG "Weighting" "masses", "masses", "Weighting.masses", defArgs sp_p_masses, defBody sp_p_masses, defScope sp_p_masses, [], []⟩
def dd_p_stretches : He5.DefA := ⟨propG "Weighting" "stretches", "stretches", "Weighting.stretches", defArgs sp_p_stretches, defBody sp_p_stretches, defScope sp_p_stretches, [], []⟩
def fn : List He5.DefA := [dd_whole_within, dd_lowest, dd_checked_fraction, dd_Weighting___eq__, dd_is_place, dd_is_mass, dd_check_masses, dd_check_stretches, dd_Weighting_init, dd_fraction_text, dd_term_text, dd_sign_text, dd_polynomial_text, dd_number_of, dd_wrong_word, dd_row_text, dd_format_weighting, dd_parse_weighting, dd_law_taken, dd_law_low, dd_law_add, dd_law_times, dd_law_weighting, dd_law_fractions, dd_law_number, dd_law_terms, dd_law, dd_p_masses, dd_p_stretches]
def fa : List He.Fa := [.free "len", .free "int", .free "bool", .free "str", .free "abs", .free "sum", .free "min", .free "max", .free "list", .free "tuple", .free "set", .free "dict", .free "sorted", .free "range", .free "enumerate", .free "zip", .free "reversed", .free "isinstance", .glo "whole_within", .glo "lowest", .glo "checked_fraction", .glo "is_place", .glo "is_mass", .glo "check_masses", .glo "check_stretches", .glo "fraction_text", .glo "term_text", .glo "sign_text", .glo "polynomial_text", .glo "number_of", .glo "wrong_word", .glo "row_text", .glo "format_weighting", .glo "parse_weighting", .glo "_law_taken", .glo "_law_low", .glo "_law_add", .glo "_law_times", .glo "_law_weighting", .glo "_law_fractions", .glo "_law_number", .glo "_law_terms", .glo "law", .glo "Weighting", .cls "Weighting", .mkr "Weighting", .noat "Weighting" "_masses", .noat "Weighting" "_stretches", .glo "NUMBERS", .int "FARTHEST" (20), .int "HEAVIEST" (20), .int "MOST_MASSES" (6), .int "MOST_STRETCHES" (4), .glo "ONE", .int "MOST_DIGITS" (2), .free "all", .meth "Weighting" "__eq__"]
def ex (K : PySem.W.Frag) : Bool := propB "Weighting" "masses" K && (propB "Weighting" "stretches" K && (insB "Weighting" K && (neB "Weighting" K && (He.valsB K (He.ga K "NUMBERS") (tabI tb_NUMBERS) && (bltB "gcd" "math.gcd" K && (He.tupB K "ONE" [.int (1), .int (1)]))))))
abbrev R : PySem.W.OpenRow := PySem.W.OpenLaw.row PySem.Challenge.rw_fewreadings_k42_texts_of_fractions_and_w
def asL : List Addr := [3, 6, 4, 52, 74, 86, 107, 110, 117, 124, 131, 169, 180, 187, 194, 201, 202, 209, 216, 223, 228, 233, 240, 245, 250, 255, 262, 269, 276, 283, 290, 295, 302, 309, 314, 0, 51, 73, 85, 106, 116, 123, 130, 168, 179, 186, 193, 200, 208, 215, 222, 227, 232, 239, 244, 249, 254, 261, 268, 275, 282, 289, 294, 301, 308, 313, 50, 53, 71, 72, 84, 104, 105, 111, 112, 113, 114, 115, 118, 119, 120, 121, 122, 125, 126, 127, 128, 129, 143, 151, 159, 166, 167, 170, 171, 174, 175, 176, 177, 178, 181, 182, 183, 184, 185, 188, 189, 190, 191, 192, 195, 196, 197, 198, 199, 203, 204, 205, 206, 207, 210, 211, 212, 213, 214, 217, 218, 219, 220, 221, 224, 225, 226, 229, 230, 231, 234, 235, 236, 237, 238, 241, 242, 243, 246, 247, 248, 251, 252, 253, 256, 257, 258, 259, 260, 263, 264, 265, 266, 267, 270, 271, 272, 273, 274, 277, 278, 279, 280, 281, 284, 285, 286, 287, 288, 291, 292, 293, 296, 297, 298, 299, 300, 303, 304, 305, 306, 307, 310, 311, 312, 70, 59, 103, 92, 142, 150, 158, 165, 65, 66, 67, 68, 69, 98, 99, 100, 101, 102, 139, 140, 141, 149, 157, 160, 161, 162, 163, 164, 144, 145, 146, 147, 148, 152, 153, 154, 155, 156, 2]
def ts : List He.Defn := []
def ds : List DTab := [("NUMBERS", (tabI tb_NUMBERS).map (·.1))]
abbrev hk : PySem.W.Hook := hookXW asL fa fn es ts ds ex
abbrev looseN : List Str := (["ReadingError", "InvalidWeighting", "InvalidFraction", "InvalidText", "ONE", "whole_within", "lowest", "checked_fraction", "FARTHEST", "HEAVIEST", "MOST_MASSES", "MOST_STRETCHES", "Weighting", "is_place", "is_mass", "check_masses", "check_stretches", "MOST_DIGITS", "NUMBERS", "fraction_text"] : List Str) ++ (["term_text", "sign_text", "polynomial_text", "number_of", "wrong_word", "row_text", "format_weighting", "parse_weighting", "_law_taken", "_law_low", "_law_add", "_law_times", "_law_weighting", "_law_fractions", "_law_number", "_law_terms"] : List Str)
abbrev vw : Program := PySem.W.view R.prog [0, 42]
theorem facts {P : Program} {w : World} {K : PySem.W.Frag} {h : Heap} {mg : Str → Option Value} {f : Addr} (X : K.In h) (G : h.Ns mainGlobals mg) (hfa : mg ("law" : Str) = some (.ref f)) (c0 : SaysXS fa fn es ex K) (hPf : ((P.main.file : Str) == fileN) = true) (hPt : (P.main.scope.names.lookup ("super" : Str)).isSome = false) (tt : tabO ds K = tabV ds w) :
    ∃ fd : FuncData, (∀ (s : Shared) (v : Value), BindsTo s fd ⟨[v], []⟩ [("_law_script", v)]) ∧ ∀ base : Heap, K.In base → base.Ns mainGlobals mg → FnOk P w K mg base CX0 7 f fd ["_law_script"] (sp_law K) := by
  have c := c0.old
  have B : Bi mg := ⟨He.free_ok X G (c.fact 0 (f := .free "len") rfl), He.free_ok X G (c.fact 1 (f := .free "int") rfl), He.free_ok X G (c.fact 2 (f := .free "bool") rfl), He.free_ok X G (c.fact 3 (f := .free "str") rfl), He.free_ok X G (c.fact 4 (f := .free "abs") rfl), He.free_ok X G (c.fact 5 (f := .free "sum") rfl), He.free_ok X G (c.fact 6 (f := .free "min") rfl), He.free_ok X G (c.fact 7 (f := .free "max") rfl), He.free_ok X G (c.fact 8 (f := .free "list") rfl), He.free_ok X G (c.fact 9 (f := .free "tuple") rfl), He.free_ok X G (c.fact 10 (f := .free "set") rfl), He.free_ok X G (c.fact 11 (f := .free "dict") rfl), He.free_ok X G (c.fact 12 (f := .free "sorted") rfl), He.free_ok X G (c.fact 13 (f := .free "range") rfl), He.free_ok X G (c.fact 14 (f := .free "enumerate") rfl), He.free_ok X G (c.fact 15 (f := .free "zip") rfl), He.free_ok X G (c.fact 16 (f := .free "reversed") rfl), He.free_ok X G (c.fact 17 (f := .free "isinstance") rfl)⟩
  obtain ⟨fd_whole_within, F_whole_within⟩ := c.def_ 0 (d := dd_whole_within) rfl
  obtain ⟨fd_lowest, F_lowest⟩ := c.def_ 1 (d := dd_lowest) rfl
  obtain ⟨fd_checked_fraction, F_checked_fraction⟩ := c.def_ 2 (d := dd_checked_fraction) rfl
  obtain ⟨fd_Weighting___eq__, F_Weighting___eq__⟩ := c.def_ 3 (d := dd_Weighting___eq__) rfl
  obtain ⟨fd_is_place, F_is_place⟩ := c.def_ 4 (d := dd_is_place) rfl
  obtain ⟨fd_is_mass, F_is_mass⟩ := c.def_ 5 (d := dd_is_mass) rfl
  obtain ⟨fd_check_masses, F_check_masses⟩ := c.def_ 6 (d := dd_check_masses) rfl
  obtain ⟨fd_check_stretches, F_check_stretches⟩ := c.def_ 7 (d := dd_check_stretches) rfl
  obtain ⟨fd_Weighting_init, F_Weighting_init⟩ := c.def_ 8 (d := dd_Weighting_init) rfl
  obtain ⟨fd_fraction_text, F_fraction_text⟩ := c.def_ 9 (d := dd_fraction_text) rfl
  obtain ⟨fd_term_text, F_term_text⟩ := c.def_ 10 (d := dd_term_text) rfl
  obtain ⟨fd_sign_text, F_sign_text⟩ := c.def_ 11 (d := dd_sign_text) rfl
  obtain ⟨fd_polynomial_text, F_polynomial_text⟩ := c.def_ 12 (d := dd_polynomial_text) rfl
  obtain ⟨fd_number_of, F_number_of⟩ := c.def_ 13 (d := dd_number_of) rfl
  obtain ⟨fd_wrong_word, F_wrong_word⟩ := c.def_ 14 (d := dd_wrong_word) rfl
  obtain ⟨fd_row_text, F_row_text⟩ := c.def_ 15 (d := dd_row_text) rfl
  obtain ⟨fd_format_weighting, F_format_weighting⟩ := c.def_ 16 (d := dd_format_weighting) rfl
  obtain ⟨fd_parse_weighting, F_parse_weighting⟩ := c.def_ 17 (d := dd_parse_weighting) rfl
  obtain ⟨fd_law_taken, F_law_taken⟩ := c.def_ 18 (d := dd_law_taken) rfl
  obtain ⟨fd_law_low, F_law_low⟩ := c.def_ 19 (d := dd_law_low) rfl
  obtain ⟨fd_law_add, F_law_add⟩ := c.def_ 20 (d := dd_law_add) rfl
  obtain ⟨fd_law_times, F_law_times⟩ := c.def_ 21 (d := dd_law_times) rfl
  obtain ⟨fd_law_weighting, F_law_weighting⟩ := c.def_ 22 (d := dd_law_weighting) rfl
  obtain ⟨fd_law_fractions, F_law_fractions⟩ := c.def_ 23 (d := dd_law_fractions) rfl
  obtain ⟨fd_law_number, F_law_number⟩ := c.def_ 24 (d := dd_law_number) rfl
  obtain ⟨fd_law_terms, F_law_terms⟩ := c.def_ 25 (d := dd_law_terms) rfl
  obtain ⟨fd_law, F_law⟩ := c.def_ 26 (d := dd_law) rfl
  obtain ⟨fd_p_masses, F_p_masses⟩ := c.def_ 27 (d := dd_p_masses) rfl
  obtain ⟨fd_p_stretches, F_p_stretches⟩ := c.def_ 28 (d := dd_p_stretches) rfl
  have e0 := c.ext
  obtain ⟨x0, e1⟩ := He.ba e0
  obtain ⟨x1, e2⟩ := He.ba e1
  obtain ⟨x2, e3⟩ := He.ba e2
  obtain ⟨x3, e4⟩ := He.ba e3
  obtain ⟨x4, e5⟩ := He.ba e4
  obtain ⟨x5, e6⟩ := He.ba e5
  have x6 := e6
  have c_NUMBERS := He.glo_ok X G (c.fact 48 (f := .glo "NUMBERS") rfl)
  have TD_NUMBERS : TabD K w (He.ga K "NUMBERS") (tabI tb_NUMBERS) := tab_at tt 0 rfl x4
  have c_gcd := bltB_ok X G x5
  have c_FARTHEST := He.int_ok X G (c.fact 49 (f := .int "FARTHEST" (20)) rfl)
  have c_HEAVIEST := He.int_ok X G (c.fact 50 (f := .int "HEAVIEST" (20)) rfl)
  have c_MOST_MASSES := He.int_ok X G (c.fact 51 (f := .int "MOST_MASSES" (6)) rfl)
  have c_MOST_STRETCHES := He.int_ok X G (c.fact 52 (f := .int "MOST_STRETCHES" (4)) rfl)
  have c_ONE := He.glo_ok X G (c.fact 53 (f := .glo "ONE") rfl)
  have d_ONE : ∀ F, Dq K F (.ref (He.ga K "ONE")) (.tuple [.int (1), .int (1)]) := fun F => .tup (He.tupB_ok x6 F) (.cons (Dq.int _) (.cons (Dq.int _) (.nil)))
  have c_MOST_DIGITS := He.int_ok X G (c.fact 54 (f := .int "MOST_DIGITS" (2)) rfl)
  have b_all := He.free_ok X G (c.fact 55 (f := .free "all") rfl)
  have cl := He.cls_ok (c.fact 44 (f := .cls "Weighting") rfl)
  have n_masses := He.noat_ok (c.fact 46 (f := .noat "Weighting" "_masses") rfl)
  have n_stretches := He.noat_ok (c.fact 47 (f := .noat "Weighting" "_stretches") rfl)
  have e := hfa.symm.trans (He.glo_ok X G (c.fact 42 (f := .glo "law") rfl))
  cases e
  have bl := FunD.bindsA (ps := ["_law_script"]) F_law fun _ _ _ _ _ _ us hl => match us, hl with | [_], _ => rfl
  refine ⟨fd_law, fun s v => bl s [v] rfl, fun base _ _ => ?_⟩
  have cl_W := cl
  have na_masses := n_masses
  have na_stretches := n_stretches
  have c_W := He.glo_ok X G (c.fact 43 (f := .glo "Weighting") rfl)
  have IC_W := insB_ok cl x2
  have ME_W := He.meth_ok (c.fact 56 (f := .meth "Weighting" "__eq__") rfl)
  have GP_masses : KnP P w K mg base (He.ga K "Weighting") "masses" "_masses" := knP_of x0 cl n_masses F_p_masses ⟨rfl, rfl, rfl, by decide +kernel, rfl, by decide +kernel, by decide +kernel⟩ rfl fun _ _ _ _ _ _ us hl => match us, hl with | [_], _ => rfl
  have GP_stretches : KnP P w K mg base (He.ga K "Weighting") "stretches" "_stretches" := knP_of x1 cl n_stretches F_p_stretches ⟨rfl, rfl, rfl, by decide +kernel, rfl, by decide +kernel, by decide +kernel⟩ rfl fun _ _ _ _ _ _ us hl => match us, hl with | [_], _ => rfl
  have G_whole_within : Kn P w K mg base "whole_within" 1 ["number", "low", "high"] (sp_whole_within K) := ⟨_, _, ok_whole_within (C := He.ga K "Weighting") B F_whole_within, He.glo_ok X G (c.fact 18 (f := .glo "whole_within") rfl), F_whole_within.kp, F_whole_within.bindsN fun _ _ _ _ _ _ us hl => match us, hl with | [_, _, _], _ => rfl⟩
  have G_lowest : Kn P w K mg base "lowest" 1 ["top", "bottom"] (sp_lowest K) := ⟨_, _, ok_lowest (C := He.ga K "Weighting") B F_lowest c_gcd, He.glo_ok X G (c.fact 19 (f := .glo "lowest") rfl), F_lowest.kp, F_lowest.bindsN fun _ _ _ _ _ _ us hl => match us, hl with | [_, _], _ => rfl⟩
  have G_checked_fraction : Kn P w K mg base "checked_fraction" 2 ["fraction"] (sp_checked_fraction K) := ⟨_, _, ok_checked_fraction (C := He.ga K "Weighting") B F_checked_fraction G_lowest, He.glo_ok X G (c.fact 20 (f := .glo "checked_fraction") rfl), F_checked_fraction.kp, F_checked_fraction.bindsN fun _ _ _ _ _ _ us hl => match us, hl with | [_], _ => rfl⟩
  have GE_W : KnE P w K mg base (He.ga K "Weighting") 1 ["self", "other"] (sp_Weighting___eq__ K (He.ga K "Weighting")) := knE_of ME_W x3 (ok_Weighting___eq__ (C := He.ga K "Weighting") B F_Weighting___eq__ IC_W c_W cl_W na_masses na_stretches) (F_Weighting___eq__.bindsN fun _ _ _ _ _ _ us hl => match us, hl with | [_, _], _ => rfl)
  have G_is_place : Kn P w K mg base "is_place" 2 ["number"] (sp_is_place K) := ⟨_, _, ok_is_place (C := He.ga K "Weighting") B F_is_place G_whole_within c_FARTHEST, He.glo_ok X G (c.fact 21 (f := .glo "is_place") rfl), F_is_place.kp, F_is_place.bindsN fun _ _ _ _ _ _ us hl => match us, hl with | [_], _ => rfl⟩
  have G_is_mass : Kn P w K mg base "is_mass" 2 ["number"] (sp_is_mass K) := ⟨_, _, ok_is_mass (C := He.ga K "Weighting") B F_is_mass G_whole_within c_HEAVIEST, He.glo_ok X G (c.fact 22 (f := .glo "is_mass") rfl), F_is_mass.kp, F_is_mass.bindsN fun _ _ _ _ _ _ us hl => match us, hl with | [_], _ => rfl⟩
  have G_check_masses : Kn P w K mg base "check_masses" 3 ["masses"] (sp_check_masses K) := ⟨_, _, ok_check_masses (C := He.ga K "Weighting") B F_check_masses G_is_place G_is_mass c_FARTHEST c_MOST_MASSES, He.glo_ok X G (c.fact 23 (f := .glo "check_masses") rfl), F_check_masses.kp, F_check_masses.bindsN fun _ _ _ _ _ _ us hl => match us, hl with | [_], _ => rfl⟩
  have G_check_stretches : Kn P w K mg base "check_stretches" 3 ["stretches"] (sp_check_stretches K) := ⟨_, _, ok_check_stretches (C := He.ga K "Weighting") B F_check_stretches G_is_place G_is_mass c_FARTHEST c_MOST_STRETCHES, He.glo_ok X G (c.fact 24 (f := .glo "check_stretches") rfl), F_check_stretches.kp, F_check_stretches.bindsN fun _ _ _ _ _ _ us hl => match us, hl with | [_], _ => rfl⟩
  have GC_Weighting : KnC P w K mg base CX0 "Weighting" (He.ga K "Weighting") 4 ["self", "masses", "stretches"] (spW0 Weighting_init K (He.ga K "Weighting")) := ⟨⟨_, _, He.mkr_ok (c.fact 45 (f := .mkr "Weighting") rfl), ok_Weighting_init (C := He.ga K "Weighting") B cl n_masses n_stretches F_Weighting_init G_check_masses G_check_stretches, F_Weighting_init.bindsN fun _ _ _ _ _ _ us hl => match us, hl with | [_, _, _], _ => rfl⟩, He.glo_ok X G (c.fact 43 (f := .glo "Weighting") rfl)⟩
  have G_fraction_text : Kn P w K mg base "fraction_text" 3 ["fraction"] (sp_fraction_text K) := ⟨_, _, ok_fraction_text (C := He.ga K "Weighting") B F_fraction_text G_checked_fraction, He.glo_ok X G (c.fact 25 (f := .glo "fraction_text") rfl), F_fraction_text.kp, F_fraction_text.bindsN fun _ _ _ _ _ _ us hl => match us, hl with | [_], _ => rfl⟩
  have G_term_text : Kn P w K mg base "term_text" 4 ["size", "power"] (sp_term_text K) := ⟨_, _, ok_term_text (C := He.ga K "Weighting") B F_term_text G_fraction_text c_ONE d_ONE, He.glo_ok X G (c.fact 26 (f := .glo "term_text") rfl), F_term_text.kp, F_term_text.bindsN fun _ _ _ _ _ _ us hl => match us, hl with | [_, _], _ => rfl⟩
  have G_sign_text : Kn P w K mg base "sign_text" 1 ["top", "is_first"] (sp_sign_text K) := ⟨_, _, ok_sign_text (C := He.ga K "Weighting") B F_sign_text, He.glo_ok X G (c.fact 27 (f := .glo "sign_text") rfl), F_sign_text.kp, F_sign_text.bindsN fun _ _ _ _ _ _ us hl => match us, hl with | [_, _], _ => rfl⟩
  have G_polynomial_text : Kn P w K mg base "polynomial_text" 5 ["polynomial"] (sp_polynomial_text K) := ⟨_, _, ok_polynomial_text (C := He.ga K "Weighting") B F_polynomial_text G_checked_fraction G_sign_text G_term_text, He.glo_ok X G (c.fact 28 (f := .glo "polynomial_text") rfl), F_polynomial_text.kp, F_polynomial_text.bindsN fun _ _ _ _ _ _ us hl => match us, hl with | [_], _ => rfl⟩
  have G_number_of : Kn P w K mg base "number_of" 1 ["word"] (sp_number_of K) := ⟨_, _, ok_number_of (C := He.ga K "Weighting") B F_number_of c_MOST_DIGITS b_all, He.glo_ok X G (c.fact 29 (f := .glo "number_of") rfl), F_number_of.kp, F_number_of.bindsN fun _ _ _ _ _ _ us hl => match us, hl with | [_], _ => rfl⟩
  have G_wrong_word : Kn P w K mg base "wrong_word" 2 ["words", "count"] (sp_wrong_word K) := ⟨_, _, ok_wrong_word (C := He.ga K "Weighting") B F_wrong_word G_number_of, He.glo_ok X G (c.fact 30 (f := .glo "wrong_word") rfl), F_wrong_word.kp, F_wrong_word.bindsN fun _ _ _ _ _ _ us hl => match us, hl with | [_, _], _ => rfl⟩
  have G_row_text : Kn P w K mg base "row_text" 1 ["word", "numbers"] (sp_row_text K) := ⟨_, _, ok_row_text (C := He.ga K "Weighting") B F_row_text, He.glo_ok X G (c.fact 31 (f := .glo "row_text") rfl), F_row_text.kp, F_row_text.bindsN fun _ _ _ _ _ _ us hl => match us, hl with | [_, _], _ => rfl⟩
  have G_format_weighting : Kn P w K mg base "format_weighting" 3 ["weighting"] (sp_format_weighting K (He.ga K "Weighting")) := ⟨_, _, ok_format_weighting (C := He.ga K "Weighting") B F_format_weighting G_row_text GP_masses GP_stretches, He.glo_ok X G (c.fact 32 (f := .glo "format_weighting") rfl), F_format_weighting.kp, F_format_weighting.bindsN fun _ _ _ _ _ _ us hl => match us, hl with | [_], _ => rfl⟩
  have G_parse_weighting : Kn P w K mg base "parse_weighting" 6 ["text"] (sp_parse_weighting K (He.ga K "Weighting")) := ⟨_, _, ok_parse_weighting (C := He.ga K "Weighting") B F_parse_weighting G_wrong_word G_number_of GC_Weighting TD_NUMBERS c_NUMBERS, He.glo_ok X G (c.fact 33 (f := .glo "parse_weighting") rfl), F_parse_weighting.kp, F_parse_weighting.bindsN fun _ _ _ _ _ _ us hl => match us, hl with | [_], _ => rfl⟩
  have G_law_taken : Kn P w K mg base "_law_taken" 1 ["_law_row", "_law_many"] (spTaken takenB K) := ⟨_, _, ok_law_taken B F_law_taken, He.glo_ok X G (c.fact 34 (f := .glo "_law_taken") rfl), F_law_taken.kp, F_law_taken.bindsN fun _ _ _ _ _ _ us hl => match us, hl with | [_, _], _ => rfl⟩
  have G_law_low : Kn P w K mg base "_law_low" 1 ["_law_top", "_law_bottom"] (sp_law_low K) := ⟨_, _, ok_law_low (C := He.ga K "Weighting") B F_law_low, He.glo_ok X G (c.fact 35 (f := .glo "_law_low") rfl), F_law_low.kp, F_law_low.bindsN fun _ _ _ _ _ _ us hl => match us, hl with | [_, _], _ => rfl⟩
  have G_law_add : Kn P w K mg base "_law_add" 2 ["_law_one", "_law_other"] (sp_law_add K) := ⟨_, _, ok_law_add (C := He.ga K "Weighting") B F_law_add G_law_low, He.glo_ok X G (c.fact 36 (f := .glo "_law_add") rfl), F_law_add.kp, F_law_add.bindsN fun _ _ _ _ _ _ us hl => match us, hl with | [_, _], _ => rfl⟩
  have G_law_times : Kn P w K mg base "_law_times" 2 ["_law_one", "_law_other"] (sp_law_times K) := ⟨_, _, ok_law_times (C := He.ga K "Weighting") B F_law_times G_law_low, He.glo_ok X G (c.fact 37 (f := .glo "_law_times") rfl), F_law_times.kp, F_law_times.bindsN fun _ _ _ _ _ _ us hl => match us, hl with | [_, _], _ => rfl⟩
  have G_law_weighting : Kn P w K mg base "_law_weighting" 6 ["_law_row"] (sp_law_weighting K (He.ga K "Weighting")) := ⟨_, _, ok_law_weighting (C := He.ga K "Weighting") B F_law_weighting G_law_taken GC_Weighting, He.glo_ok X G (c.fact 38 (f := .glo "_law_weighting") rfl), F_law_weighting.kp, F_law_weighting.bindsN fun _ _ _ _ _ _ us hl => match us, hl with | [_], _ => rfl⟩
  have G_law_fractions : Kn P w K mg base "_law_fractions" 2 ["_law_row", "_law_count"] (sp_law_fractions K) := ⟨_, _, ok_law_fractions (C := He.ga K "Weighting") B F_law_fractions G_law_taken, He.glo_ok X G (c.fact 39 (f := .glo "_law_fractions") rfl), F_law_fractions.kp, F_law_fractions.bindsN fun _ _ _ _ _ _ us hl => match us, hl with | [_, _], _ => rfl⟩
  have G_law_number : Kn P w K mg base "_law_number" 1 ["_law_one"] (sp_law_number K) := ⟨_, _, ok_law_number (C := He.ga K "Weighting") B F_law_number, He.glo_ok X G (c.fact 40 (f := .glo "_law_number") rfl), F_law_number.kp, F_law_number.bindsN fun _ _ _ _ _ _ us hl => match us, hl with | [_], _ => rfl⟩
  have G_law_terms : Kn P w K mg base "_law_terms" 2 ["_law_low_here"] (sp_law_terms K) := ⟨_, _, ok_law_terms (C := He.ga K "Weighting") B F_law_terms G_law_number, He.glo_ok X G (c.fact 41 (f := .glo "_law_terms") rfl), F_law_terms.kp, F_law_terms.bindsN fun _ _ _ _ _ _ us hl => match us, hl with | [_], _ => rfl⟩
  exact ok_law (C := He.ga K "Weighting") B F_law G_law_fractions G_law_taken G_law_low G_fraction_text G_law_number G_polynomial_text G_law_terms G_law_weighting G_format_weighting G_parse_weighting GE_W GP_masses GP_stretches
open PySem PySem.W PySem.Calls PyProof.Rows
theorem of_law : PySem.Challenge.rw_fewreadings_k42_texts_of_fractions_and_w.Holds := by
  w_on; o_law
  o_head hk
  case hw => w_witness2
  case hc =>
    refine L2.walk_ofE (l := PySem.Challenge.rw_fewreadings_k42_texts_of_fractions_and_w) (n := 63) (k := 7) (x := "_law_script") (CX := L2.CX0) rfl (by decide) (by kernel_rfl) ⟨rfl, by decide, by decide⟩ ?F (fun _ _ _ _ z => z)
    intro w mg fa h Y G hmg0
    obtain ⟨K, KX, ⟨c, tt⟩, tk⟩ := Y
    have hmg : mg ("law" : PySem.Str) = some (.ref fa) := by
      have e : (HandSHeadRun.topDef R.prog 42).name = ("law" : PySem.Str) := by kernel_rfl
      rw [← e]
      exact hmg0
    obtain ⟨fd, hb, hF⟩ := facts (P := PySem.Challenge.rw_fewreadings_k42_texts_of_fractions_and_w.prog) (w := w) KX G hmg c (by kernel_rfl) (by kernel_rfl) tt
    refine ⟨K, fd, sp_law K, KX, hb, fun H a ns hl _ hS => ⟨a, ns, rfl, hS, ?_⟩, hF⟩
    rw [law_true ns hl]
    exact ⟨fun H => rfl⟩
end L

theorem PySem.Challenge.cw_fewreadings_k42_texts_of_fractions_and_w_holds : PySem.Challenge.rw_fewreadings_k42_texts_of_fractions_and_w.Holds := by
  exact L.of_law
