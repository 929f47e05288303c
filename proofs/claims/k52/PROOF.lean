import PyProof.Rows.All
import Wide.All
import OpenK.AllK
import Wide.FinOn
import HandS.ForMost
import HandS.ForExc
import HandS.Walk
import HandS.Wide
import HandS.Evl
import HandS.Deep
import HandS.Gcd
import HandS.TupAny
import HandS.Strs
import HandS.Defaults
import KE.GoesMore
import HandS.IsInst
import HandS.Property
import HandS.SetFor
import HandS.Head0
import HandS.Head1
import HandS.Head2
import HandS.HeadEnd
import HandS.HeadHook1
import HandS.HeadHook2
import HandS.HeadNt
import HandS.Ends
import HandS.Head3
import HandS.Star
import HandS.Style
import HandS.Iter
import HandS.List
import KE.GoesZip
import KE.GoesEnum
import HandS.Zip
import HandS.Conv
import PySem.Challenge.RW_fewreadings_k52_whole_false_readings_men
set_option Elab.async false
set_option linter.all false
set_option maxRecDepth 100000
set_option maxHeartbeats 4000000
namespace Wk
open PySem L2 Evl

/-! ### outcomes -/
structure Er where
  c : Nat
  fs : List Int
inductive Mm (α : Type) where
  | ok (a : α)
  | ex (e : Er)
  | bad
def Mm.bd {α β : Type} (m : Mm α) (f : α → Mm β) : Mm β := match m with
  | .ok a => f a
  | .ex e => .ex e
  | .bad => .bad
def Out {α : Type} (m : Mm α) (p : α → Prop) (q : Er → Prop) : Prop := match m with
  | .ok a => p a
  | .ex e => q e
  | .bad => False
/-- what holds of an outcome -/
structure Post {α : Type} (m : Mm α) (p : α → Prop) (q : Er → Prop) : Prop where
  h : Out m p q
section
variable {α β : Type} {m : Mm α} {f : α → Mm β} {p : α → Prop} {r : β → Prop} {q : Er → Prop}
theorem post_bd (h : Post (m.bd f) r q) : Post m (fun a => Post (f a) r q) q := by
  cases m with
  | ok a => exact ⟨⟨h.h⟩⟩
  | ex e => exact ⟨h.h⟩
  | bad => exact ⟨h.h⟩
theorem Post.mono {p' : α → Prop} {q' : Er → Prop} (h : Post m p q) (hp : ∀ a, p a → p' a) (hq : ∀ e, q e → q' e) : Post m p' q' := by
  cases m with
  | ok a => exact ⟨hp a h.h⟩
  | ex e => exact ⟨hq e h.h⟩
  | bad => exact ⟨h.h⟩
theorem Post.of_ok {a : α} (e : m = .ok a) (h : p a) : Post m p q := by
  rw [e]; exact ⟨h⟩
theorem Post.elim {C : Prop} (h : Post (Mm.bad : Mm α) p q) : C := h.h.elim
theorem post_ok {a : α} (h : Post (.ok a) p q) : p a := h.h
end
@[simp] theorem bd_ok {α β : Type} (a : α) (f : α → Mm β) : (Mm.ok a).bd f = f a := rfl
@[simp] theorem bd_ex {α β : Type} (e : Er) (f : α → Mm β) : (Mm.ex e : Mm α).bd f = .ex e := rfl
@[simp] theorem bd_bad {α β : Type} (f : α → Mm β) : (Mm.bad : Mm α).bd f = .bad := rfl
def guardM (c : Prop) [Decidable c] : Mm Unit := if c then .ok () else .bad
instance {i j : Int} : Decidable (CMulW i j) := by unfold CMulW; exact inferInstance
instance {i j : Int} : Decidable (CDivW i j) := by unfold CDivW; exact inferInstance
def CDv (_ j : Int) : Prop := j ≠ 0 ∧ j.natAbs.log2 < 9000
instance {i j : Int} : Decidable (CDv i j) := by unfold CDv; exact inferInstance
def mulM (i j : Int) : Mm Int := if CMulW i j then .ok (i * j) else .bad
def divM (i j : Int) : Mm Int := if CDv i j then .ok (i.fdiv j) else .bad
def modM (i j : Int) : Mm Int := if j ≠ 0 then .ok (i.fmod j) else .bad
def getM {α : Type} (xs : List α) (i : Int) : Mm α := match atI xs i with
  | some a => .ok a
  | none => .bad
section
variable {β : Type} {f : Int → Mm β} {r : β → Prop} {q : Er → Prop} {i j : Int}
theorem post_mul (h : Post ((mulM i j).bd f) r q) : ∃ m, CMulW i j ∧ i * j = m ∧ Post (f m) r q := by
  unfold mulM at h
  split at h
  · exact ⟨_, ‹_›, rfl, ⟨h.h⟩⟩
  · exact h.h.elim
theorem post_div (h : Post ((divM i j).bd f) r q) : ∃ m, CDv i j ∧ i.fdiv j = m ∧ Post (f m) r q := by
  unfold divM at h
  split at h
  · exact ⟨_, ‹_›, rfl, ⟨h.h⟩⟩
  · exact h.h.elim
theorem post_mod (h : Post ((modM i j).bd f) r q) : ∃ m, j ≠ 0 ∧ i.fmod j = m ∧ Post (f m) r q := by
  unfold modM at h
  split at h
  · exact ⟨_, ‹_›, rfl, ⟨h.h⟩⟩
  · exact h.h.elim
theorem post_get {α : Type} {xs : List α} {f : α → Mm β} (h : Post ((getM xs i).bd f) r q) : ∃ a, atI xs i = some a ∧ Post (f a) r q := by
  unfold getM at h
  split at h
  · exact ⟨_, ‹_›, ⟨h.h⟩⟩
  · exact h.h.elim
theorem post_guard {c : Prop} [Decidable c] {f : Unit → Mm β} (h : Post ((guardM c).bd f) r q) : c ∧ Post (f ()) r q := by
  unfold guardM at h
  split at h
  · exact ⟨‹_›, ⟨h.h⟩⟩
  · exact h.h.elim
end
section
variable {X : Cx}
theorem op_divM : OpR X (binaryOp .FloorDiv) (fun x y H Q => ∃ i j m, x = .int i ∧ y = .int j ∧ CDv i j ∧ i.fdiv j = m ∧ Q (.int m) H) := by
  intro pins s σ H x y v u Q I rx ry h
  obtain ⟨i, j, m, rfl, rfl, c, rfl, q⟩ := h
  exact (opI (C := CDv) (g := fun i j => i.fdiv j) fun i j _ _ _ _ _ hc q => PyProof.Rows.floordiv_int hc.1 q (.inl (PyProof.noPylong_of_log2 hc.2))) pins s σ H _ _ v u Q I rx ry ⟨i, j, rfl, rfl, c, q⟩
theorem op_mulM : OpR X (binaryOp .Mult) (fun x y H Q => ∃ i j m, x = .int i ∧ y = .int j ∧ CMulW i j ∧ i * j = m ∧ Q (.int m) H) := by
  intro pins s σ H x y v u Q I rx ry h
  obtain ⟨i, j, m, rfl, rfl, c, rfl, q⟩ := h
  exact op_mulW pins s σ H _ _ v u Q I rx ry ⟨i, j, rfl, rfl, c, q⟩
theorem op_modM : OpR X (binaryOp .Mod) (fun x y H Q => ∃ i j m, x = .int i ∧ y = .int j ∧ j ≠ 0 ∧ i.fmod j = m ∧ Q (.int m) H) := by
  intro pins s σ H x y v u Q I rx ry h
  obtain ⟨i, j, m, rfl, rfl, c, rfl, q⟩ := h
  exact op_modN pins s σ H _ _ v u Q I rx ry ⟨i, j, rfl, rfl, c, q⟩
theorem pe_gint {x : Str} {i : Int} {pos : Pos} (h : ∃ t, X.mg x = some (.int i t)) (hg : Gl X x := by rfl) (hd : (x == ("__debug__" : Str)) = false := by decide) : PE X (.Name x pos) (tC (.int i)) := by
  obtain ⟨t, h⟩ := h
  exact pe_glob hg h ⟨t, rfl⟩ hd
theorem pe_gref {x : Str} {a : Addr} {pos : Pos} (h : X.mg x = some (.ref a)) (hg : Gl X x := by rfl) (hd : (x == ("__debug__" : Str)) = false := by decide) : PE X (.Name x pos) (tC (.ref a)) := pe_glob hg h rfl hd
end

/-! ### heaps: F what is fixed, H all -/
structure Gm (M : List Addr) (F H F' H' : Hp) : Prop where
  f : Ex F F'
  s : Ex F' H'
  h : ∀ a o, a ∉ M → H a = some o → H' a = some o
  n : ∀ a o, H a = some o → F a = none → F' a = none
  m : ∀ a o, H a = some o → ∃ o', H' a = some o'
section
variable {M : List Addr} {F H F1 H1 F2 H2 : Hp}
theorem Gm.refl (e : Ex F H) : Gm M F H F H := ⟨Ex.refl _, e, fun _ _ _ h => h, fun _ _ _ h => h, fun _ o h => ⟨o, h⟩⟩
theorem Gm.trans (a : Gm M F H F1 H1) (b : Gm M F1 H1 F2 H2) : Gm M F H F2 H2 :=
  ⟨a.f.trans b.f, b.s, fun x o hx h => b.h x o hx (a.h x o hx h), fun x o h hf => by
    obtain ⟨o', h'⟩ := a.m x o h
    exact b.n x o' h' (a.n x o h hf), fun x o h => by
    obtain ⟨o', h'⟩ := a.m x o h
    exact b.m x o' h'⟩
theorem Gm.up (a : Gm [] F H F1 H1) : Gm M F H F1 H1 := ⟨a.f, a.s, fun x o _ h => a.h x o (by simp) h, a.n, a.m⟩
/-- an owned object of the caller's that the callee leaves -/
theorem Gm.own (a : Gm M F H F1 H1) {p : Addr} {o : HO} (hp : p ∉ M) (h : H p = some o) (f : F p = none) : H1 p = some o ∧ F1 p = none := ⟨a.h p o hp h, a.n p o h f⟩
theorem Gm.fresh (a : Gm M F H F1 H1) {p : Addr} (h : H1 p = none) : H p = none := by
  cases e : H p with
  | none => rfl
  | some o =>
    obtain ⟨o', h'⟩ := a.m p o e
    rw [h] at h'
    cases h'
/-- a new fixed object -/
theorem Gm.new (e : Ex F H) {p : Addr} {o : HO} (h : H p = none) : Gm M F H (upd F p o) (upd H p o) := by
  have hf : F p = none := by
    cases q : F p with
    | none => rfl
    | some u => rw [e p u q] at h; cases h
  refine ⟨Ex.new hf, fun a u ha => ?_, fun a u _ ha => ?_, fun a u ha hn => ?_, fun a u ha => ?_⟩
  · by_cases q : a = p
    · subst q; rw [upd_same] at ha ⊢; exact ha
    · rw [upd_ne q] at ha ⊢; exact e a u ha
  · rw [upd_ne (ne_of_none ha h)]; exact ha
  · rw [upd_ne (ne_of_none ha h)]; exact hn
  · exact ⟨u, by rw [upd_ne (ne_of_none ha h)]; exact ha⟩
/-- a new object that may change -/
theorem Gm.newM (e : Ex F H) {p : Addr} {o : HO} (h : H p = none) : Gm M F H F (upd H p o) := by
  refine ⟨Ex.refl _, fun a u ha => ?_, fun a u _ ha => ?_, fun a u ha hn => hn, fun a u ha => ?_⟩
  · rw [upd_ne (ne_of_none (e a u ha) h)]; exact e a u ha
  · rw [upd_ne (ne_of_none ha h)]; exact ha
  · exact ⟨u, by rw [upd_ne (ne_of_none ha h)]; exact ha⟩
/-- an own object changes -/
theorem Gm.put (e : Ex F H) {p : Addr} {o u : HO} (h : H p = some u) (hf : F p = none) : Gm (p :: M) F H F (upd H p o) := by
  refine ⟨Ex.refl _, fun a u ha => ?_, fun a u hM ha => ?_, fun a u ha hn => hn, fun a u ha => ?_⟩
  · have q : a ≠ p := fun q => by rw [q, hf] at ha; cases ha
    rw [upd_ne q]; exact e a u ha
  · have q : a ≠ p := fun q => hM (by rw [q]; simp)
    rw [upd_ne q]; exact ha
  · by_cases q : a = p
    · subst q; exact ⟨o, upd_same⟩
    · exact ⟨u, by rw [upd_ne q]; exact ha⟩
/-- a change of an object that is younger than F0 H0 -/
theorem Gm.putYoung {F0 H0 : Hp} (g : Gm M F0 H0 F H) {p : Addr} {o u : HO} (h : H p = some u) (hf : F p = none) (h0 : H0 p = none) : Gm M F0 H0 F (upd H p o) := by
  refine ⟨g.f, fun a u ha => ?_, fun a u hM ha => ?_, g.n, fun a u ha => ?_⟩
  · have q : a ≠ p := fun q => by rw [q, hf] at ha; cases ha
    rw [upd_ne q]; exact g.s a u ha
  · have q : a ≠ p := fun q => by rw [q, h0] at ha; cases ha
    rw [upd_ne q]; exact g.h a u hM ha
  · by_cases q : a = p
    · subst q; exact ⟨o, upd_same⟩
    · obtain ⟨o', h'⟩ := g.m a u ha
      exact ⟨o', by rw [upd_ne q]; exact h'⟩
/-- an own young object is fixed -/
theorem Gm.fix {F0 H0 : Hp} (g : Gm M F0 H0 F H) {p : Addr} {o : HO} (h : H p = some o) (hf : F p = none) (h0 : H0 p = none) : Gm M F0 H0 (upd F p o) H := by
  refine ⟨fun a u ha => ?_, fun a u ha => ?_, g.h, fun a u ha hn => ?_, g.m⟩
  · have q : a ≠ p := fun q => by
      have z := g.f a u ha
      rw [q, hf] at z; cases z
    rw [upd_ne q]; exact g.f a u ha
  · by_cases q : a = p
    · subst q; rw [upd_same] at ha; rw [h]; exact ha
    · rw [upd_ne q] at ha; exact g.s a u ha
  · have q : a ≠ p := fun q => by rw [q, h0] at ha; cases ha
    rw [upd_ne q]; exact g.n a u ha hn
end

/-- what follows an answer -/
def Ret (M : List Addr) (F H : Hp) (S : Hp → Hp → V → Prop) (Q : VK) : Prop := ∀ v F' H', Gm M F H F' H' → S F' H' v → Q v H'
theorem Ret.then_ {M : List Addr} {F H F1 H1 : Hp} {S : Hp → Hp → V → Prop} {Q : VK} (k : Ret M F H S Q) (g : Gm M F H F1 H1) : Ret M F1 H1 S Q := fun v F' H' g' s => k v F' H' (g.trans g') s

/-! ### data -/
mutual
inductive Dq (K : PySem.W.Frag) (H : Hp) : V → PyData → Prop
  | non : Dq K H .non .none
  | bl (b : Bool) : Dq K H (.bl b) (.bool b)
  | int (i : Int) : Dq K H (.int i) (.int i)
  | str (x : Str) : Dq K H (.str x) (.str x)
  | lst {a : Addr} {xs : List V} {ds : List PyData} : H a = some (.lst xs) → DqAll K H xs ds → Dq K H (.ref a) (.list ds)
  | tup {a : Addr} {xs : List V} {ds : List PyData} : SqT K H a xs → DqAll K H xs ds → Dq K H (.ref a) (.tuple ds)
inductive DqAll (K : PySem.W.Frag) (H : Hp) : List V → List PyData → Prop
  | nil : DqAll K H [] []
  | cons {v : V} {vs : List V} {d : PyData} {ds : List PyData} : Dq K H v d → DqAll K H vs ds → DqAll K H (v :: vs) (d :: ds)
end
section
variable {K : PySem.W.Frag} {F F' H H' : Hp}
mutual
theorem dp_mono (e : Ex F F') : ∀ (d : PyData) (v : V), Dq K F v d → Dq K F' v d
  | .none, _, .non => .non
  | .bool _, _, .bl b => .bl b
  | .int _, _, .int i => .int i
  | .str _, _, .str x => .str x
  | .list ds, _, .lst h a => .lst (e _ _ h) (dpAll_mono e ds _ a)
  | .tuple ds, _, .tup h a => .tup (ex_t e h) (dpAll_mono e ds _ a)
  | .dict _, _, h => by cases h
theorem dpAll_mono (e : Ex F F') : ∀ (ds : List PyData) (vs : List V), DqAll K F vs ds → DqAll K F' vs ds
  | [], _, .nil => .nil
  | d :: ds, _, .cons h a => .cons (dp_mono e d _ h) (dpAll_mono e ds _ a)
end
mutual
theorem dq_dp : ∀ (d : PyData) (v : V), Dq K F v d → Dp K F v d
  | .none, _, .non => .non
  | .bool _, _, .bl b => .bl b
  | .int _, _, .int i => .int i
  | .str _, _, .str x => .str x
  | .list ds, _, .lst h a => .lst (sq_of h) (dqAll_dp ds _ a)
  | .tuple ds, _, .tup h a => .tup h (dqAll_dp ds _ a)
  | .dict _, _, h => by cases h
theorem dqAll_dp : ∀ (ds : List PyData) (vs : List V), DqAll K F vs ds → DpAll K F vs ds
  | [], _, .nil => .nil
  | d :: ds, _, .cons h a => .cons (dq_dp d _ h) (dqAll_dp ds _ a)
end
theorem _root_.Wk.Dq.dp {v : V} {d : PyData} (h : Dq K F v d) (e : Ex F F') : Dp K F' v d := dq_dp d v (dp_mono e d v h)
theorem _root_.Wk.Dq.up {v : V} {d : PyData} (h : Dq K F v d) (e : Ex F F') : Dq K F' v d := dp_mono e d v h
theorem _root_.Wk.DqAll.up {v : List V} {d : List PyData} (h : DqAll K F v d) (e : Ex F F') : DqAll K F' v d := dpAll_mono e d v h
theorem _root_.Wk.DqAll.len {vs : List V} {ds : List PyData} (h : DqAll K F vs ds) : vs.length = ds.length := by
  induction ds generalizing vs with
  | nil => cases h; rfl
  | cons d ds ih => cases h with | cons h a => simp [ih a]
theorem _root_.Wk.DqAll.get {vs : List V} {ds : List PyData} (h : DqAll K F vs ds) : ∀ {i : Nat} {d : PyData}, ds[i]? = some d → ∃ v, vs[i]? = some v ∧ Dq K F v d := by
  induction ds generalizing vs with
  | nil => intro i d e; simp at e
  | cons d ds ih =>
    cases h with
    | cons h a =>
      intro i x e
      cases i with
      | zero => simp at e; subst e; exact ⟨_, rfl, h⟩
      | succ i => simpa using ih a (by simpa using e)
theorem _root_.Wk.DqAll.getV {vs : List V} {ds : List PyData} (h : DqAll K F vs ds) : ∀ {i : Nat} {v : V}, vs[i]? = some v → ∃ d, ds[i]? = some d ∧ Dq K F v d := by
  induction ds generalizing vs with
  | nil => cases h; intro i d e; simp at e
  | cons d ds ih =>
    cases h with
    | cons h a =>
      intro i x e
      cases i with
      | zero => simp at e; subst e; exact ⟨_, rfl, h⟩
      | succ i => simpa using ih a (by simpa using e)
theorem _root_.Wk.DqAll.app {vs ws : List V} {ds es : List PyData} (h : DqAll K F vs ds) (h2 : DqAll K F ws es) : DqAll K F (vs ++ ws) (ds ++ es) := by
  induction ds generalizing vs with
  | nil => cases h; exact h2
  | cons d ds ih => cases h with | cons h a => exact .cons h (ih a)
theorem _root_.Wk.DqAll.take {vs : List V} {ds : List PyData} (h : DqAll K F vs ds) : ∀ n, DqAll K F (vs.take n) (ds.take n) := by
  induction ds generalizing vs with
  | nil => cases h; intro n; simp; exact .nil
  | cons d ds ih =>
    cases h with
    | cons h a =>
      intro n
      cases n with
      | zero => exact .nil
      | succ n => exact .cons h (ih a n)
theorem _root_.Wk.DqAll.drop {vs : List V} {ds : List PyData} (h : DqAll K F vs ds) : ∀ n, DqAll K F (vs.drop n) (ds.drop n) := by
  induction ds generalizing vs with
  | nil => cases h; intro n; simp; exact .nil
  | cons d ds ih =>
    cases h with
    | cons h a =>
      intro n
      cases n with
      | zero => exact .cons h a
      | succ n => exact ih a n
theorem dp_int {v : V} {i : Int} (h : Dq K F v (.int i)) : v = .int i := by cases h; rfl
theorem dp_bl {v : V} {b : Bool} (h : Dq K F v (.bool b)) : v = .bl b := by cases h; rfl
theorem dp_non {v : V} (h : Dq K F v .none) : v = .non := by cases h; rfl
theorem dp_str {v : V} {x : Str} (h : Dq K F v (.str x)) : v = .str x := by cases h; rfl
theorem dp_lst {v : V} {ds : List PyData} (h : Dq K F v (.list ds)) : ∃ p xs, v = .ref p ∧ F p = some (.lst xs) ∧ DqAll K F xs ds := by
  cases h with | lst h a => exact ⟨_, _, rfl, h, a⟩
theorem dp_tup {v : V} {ds : List PyData} (h : Dq K F v (.tuple ds)) : ∃ p xs, v = .ref p ∧ SqT K F p xs ∧ DqAll K F xs ds := by
  cases h with | tup h a => exact ⟨_, _, rfl, h, a⟩
theorem dp_tup2 {v : V} {d e : PyData} (h : Dq K F v (.tuple [d, e])) : ∃ p x y, v = .ref p ∧ SqT K F p [x, y] ∧ Dq K F x d ∧ Dq K F y e := by
  obtain ⟨p, xs, rfl, hs, a⟩ := dp_tup h
  cases a with | cons h1 a => cases a with | cons h2 a => cases a; exact ⟨p, _, _, rfl, hs, h1, h2⟩
theorem dp_tup3 {v : V} {d e f : PyData} (h : Dq K F v (.tuple [d, e, f])) : ∃ p x y z, v = .ref p ∧ SqT K F p [x, y, z] ∧ Dq K F x d ∧ Dq K F y e ∧ Dq K F z f := by
  obtain ⟨p, xs, rfl, hs, a⟩ := dp_tup h
  cases a with | cons h1 a => cases a with | cons h2 a => cases a with | cons h3 a => cases a; exact ⟨p, _, _, _, rfl, hs, h1, h2, h3⟩
end

/-! ### new tuples, new lists -/
section
variable {K : PySem.W.Frag} {M : List Addr} {F H : Hp} {Q : VK} {xs : List V} {ds : List PyData}
theorem new_tup (e : Ex F H) (a : DqAll K F xs ds) (hl : xs.length ≤ 100000) (k : Ret M F H (fun F' _ v => Dq K F' v (.tuple ds)) Q) : xs.length ≤ sizeLine ∧ ∀ p, H p = none → Q (.ref p) (upd H p (.tup xs)) :=
  ⟨sz_of hl, fun p hp => by
    have g : Gm M F H (upd F p (.tup xs)) (upd H p (.tup xs)) := Gm.new e hp
    exact k _ _ _ g (.tup (st_of upd_same) (a.up g.f))⟩
theorem new_lst (e : Ex F H) (a : DqAll K F xs ds) (hl : xs.length ≤ 100000) (k : Ret M F H (fun F' _ v => Dq K F' v (.list ds)) Q) : xs.length ≤ sizeLine ∧ ∀ p, H p = none → Q (.ref p) (upd H p (.lst xs)) :=
  ⟨sz_of hl, fun p hp => by
    have g : Gm M F H (upd F p (.lst xs)) (upd H p (.lst xs)) := Gm.new e hp
    exact k _ _ _ g (.lst upd_same (a.up g.f))⟩
end

/-! ### encoders -/
def eN (_ : Unit) : PyData := .none
def e2 {α β : Type} (f : α → PyData) (g : β → PyData) (p : α × β) : PyData := .tuple [f p.1, g p.2]
def e1 {α : Type} (f : α → PyData) (p : α) : PyData := .tuple [f p]
def e3 {α β γ : Type} (f : α → PyData) (g : β → PyData) (h : γ → PyData) (p : α × β × γ) : PyData := .tuple [f p.1, g p.2.1, h p.2.2]
def eL {α : Type} (f : α → PyData) (l : List α) : PyData := .list (l.map f)
def eV {α : Type} (f : α → PyData) (l : List α) : PyData := .tuple (l.map f)
def eO {α : Type} (f : α → PyData) (o : Option α) : PyData := match o with
  | none => .none
  | some a => f a
/-- data of a depth at most n whose equality is that of the values -/
structure Sh {α : Type} [DecidableEq α] (f : α → PyData) (n : Nat) : Prop where
  lay : ∀ a, (f a).canLay0 = true
  dep : ∀ a, (f a).depth ≤ n
  eq : ∀ a b, PyData.eqv (f a) (f b) = decide (a = b)
section
variable {α β γ : Type} [DecidableEq α] [DecidableEq β] [DecidableEq γ] {f : α → PyData} {g : β → PyData} {h : γ → PyData} {n m k : Nat}
theorem Sh.shaped (s : Sh f n) (hn : n ≤ 64 := by decide) (a : α) : SeqAt.shaped (f a) = true := by
  unfold SeqAt.shaped
  rw [s.lay a, Bool.true_and]
  exact decide_eq_true (Nat.le_trans (s.dep a) hn)
theorem sh_int : Sh PyData.int 0 := ⟨fun _ => by simp [PyData.canLay0], fun _ => by simp [PyData.depth], fun a b => by simp only [PyData.eqv]; exact Bool.eq_iff_iff.mpr (by simp)⟩
theorem sh_bool : Sh PyData.bool 0 := ⟨fun _ => by simp [PyData.canLay0], fun _ => by simp [PyData.depth], fun a b => by simp only [PyData.eqv]; exact Bool.eq_iff_iff.mpr (by simp)⟩
theorem sh_n : Sh eN 0 := ⟨fun _ => by simp [eN, PyData.canLay0], fun _ => by simp [eN, PyData.depth], fun a b => by simp [eN, PyData.eqv]⟩
theorem sh_e2 (a : Sh f n) (b : Sh g m) : Sh (e2 f g) (max n m + 1) := ⟨fun x => by simp [e2, PyData.canLay0, PyData.canLayAll0, a.lay, b.lay], fun x => by
    have := a.dep x.1
    have := b.dep x.2
    simp [e2, PyData.depth, PyData.depthAll]
    omega, fun x y => by
    obtain ⟨x1, x2⟩ := x
    obtain ⟨y1, y2⟩ := y
    simp only [e2, PyData.eqv, PyData.eqvAll, a.eq, b.eq]
    exact Bool.eq_iff_iff.mpr (by simp)⟩
theorem sh_e3 (a : Sh f n) (b : Sh g m) (c : Sh h k) : Sh (e3 f g h) (max (max n m) k + 1) := ⟨fun x => by simp [e3, PyData.canLay0, PyData.canLayAll0, a.lay, b.lay, c.lay], fun x => by
    have := a.dep x.1
    have := b.dep x.2.1
    have := c.dep x.2.2
    simp [e3, PyData.depth, PyData.depthAll]
    omega, fun x y => by
    obtain ⟨x1, x2, x3⟩ := x
    obtain ⟨y1, y2, y3⟩ := y
    simp only [e3, PyData.eqv, PyData.eqvAll, a.eq, b.eq, c.eq]
    exact Bool.eq_iff_iff.mpr (by simp)⟩
theorem lay_map (a : Sh f n) : ∀ l : List α, PyData.canLayAll0 (l.map f) = true
  | [] => by simp [PyData.canLayAll0]
  | x :: l => by simp [PyData.canLayAll0, a.lay, lay_map a l]
theorem dep_map (a : Sh f n) : ∀ l : List α, PyData.depthAll (l.map f) ≤ n
  | [] => by simp [PyData.depthAll]
  | x :: l => by
    have := a.dep x
    have := dep_map a l
    simp [PyData.depthAll]
    omega
theorem eqv_map (a : Sh f n) : ∀ l r : List α, PyData.eqvAll (l.map f) (r.map f) = decide (l = r)
  | [], [] => by simp [PyData.eqvAll]
  | [], _ :: _ => by simp [PyData.eqvAll]
  | _ :: _, [] => by simp [PyData.eqvAll]
  | x :: l, y :: r => by
    simp only [List.map_cons, PyData.eqvAll, a.eq, eqv_map a l r]
    exact Bool.eq_iff_iff.mpr (by simp)
theorem sh_eL (a : Sh f n) : Sh (eL f) (n + 1) := ⟨fun l => by simp [eL, PyData.canLay0, lay_map a l], fun l => by
    have := dep_map a l
    simp [eL, PyData.depth]
    omega, fun l r => by simp only [eL, PyData.eqv]; exact eqv_map a l r⟩
theorem sh_eV (a : Sh f n) : Sh (eV f) (n + 1) := ⟨fun l => by simp [eV, PyData.canLay0, lay_map a l], fun l => by
    have := dep_map a l
    simp [eV, PyData.depth]
    omega, fun l r => by simp only [eV, PyData.eqv]; exact eqv_map a l r⟩
end
/-! == and != of such data -/
section
variable {X : Cx} {α : Type} [DecidableEq α] {f : α → PyData} {n : Nat}
def rEqM (K : PySem.W.Frag) (f : α → PyData) : R2 := fun x y H Q => ∃ a b : α, Dp K H x (f a) ∧ Dp K H y (f b) ∧ Q (.bl (decide (a = b))) H
def rNeM (K : PySem.W.Frag) (f : α → PyData) : R2 := fun x y H Q => ∃ a b : α, Dp K H x (f a) ∧ Dp K H y (f b) ∧ Q (.bl (!decide (a = b))) H
theorem op_eqM (s : Sh f n) (hu : X.A.units + 64 < cLine) (hn : n ≤ 64 := by decide) : OpR X (compareOp .Eq) (rEqM X.K f) := by
  intro pins st σ H x y v u Q I rx ry h
  obtain ⟨a, b, ha, hb, q⟩ := h
  exact op_eqD hu pins st σ H x y v u Q I rx ry ⟨f a, f b, ha, hb, s.shaped hn a, s.shaped hn b, by rw [s.eq]; exact q⟩
theorem op_neM (s : Sh f n) (hu : X.A.units + 64 < cLine) (hn : n ≤ 64 := by decide) : OpR X (compareOp .NotEq) (rNeM X.K f) := by
  intro pins st σ H x y v u Q I rx ry h
  obtain ⟨a, b, ha, hb, q⟩ := h
  exact op_neD hu pins st σ H x y v u Q I rx ry ⟨f a, f b, ha, hb, s.shaped hn a, s.shaped hn b, by rw [s.eq]; exact q⟩
end
end Wk

set_option Elab.async false
set_option linter.all false
set_option maxRecDepth 100000
set_option maxHeartbeats 4000000
namespace Wk
open PySem L2 Evl

/-! ### defs that are known -/
structure Kn (P : Program) (w : World) (K : PySem.W.Frag) (mg : Str → Option Value) (base : Heap) (x : Str) (k : Nat) (ps : List Str) (sp : Sp) : Prop where
  ex : ∃ f fd, FnOk P w K mg base CX0 k f fd ps sp ∧ mg x = some (.ref f) ∧ PySem.W.keepIn K (.ref f) = true ∧ Binds K fd ps []
section
variable {X : Cx} {x : Str} {k : Nat} {ps : List Str} {sp : Sp} {p pos : Pos} {e : Expr} {es : List Expr} {t : TA}
theorem pe_kn (G : Kn X.prog X.w X.K X.mg X.base x k ps sp) (hr : Room k X.A) (ha : PA X (e :: es) t) (hg : Gl X x := by rfl) (hdb : (x == ("__debug__" : Str)) = false := by decide)
    (he : starEach (e :: es) X.env = (false, eval e X.env) :: starEach es X.env := by rfl) (hpl : (backTo pos (starEach es X.env)).any (·.1) = false := by rfl) : PE X (.Call (.Name x p) (e :: es) [] pos) (tCall sp [] E0 t) := by
  obtain ⟨f, fd, F, hm, hk, hb⟩ := G.ex
  exact pe_call F hr hg hm hk hb .nil pass0 ha hdb he hpl
theorem pe_kn0 (G : Kn X.prog X.w X.K X.mg X.base x k ps sp) (hr : Room k X.A) (hg : Gl X x := by rfl) (hdb : (x == ("__debug__" : Str)) = false := by decide) : PE X (.Call (.Name x p) [] [] pos) (tCall sp [] E0 tNil) := by
  obtain ⟨f, fd, F, hm, hk, hb⟩ := G.ex
  exact pe_call0 F hr hg hm hk hb .nil pass0 hdb
end

/-! ### the row of draws -/
structure Rw where
  pos : Int
  seed : Int
  left : Int
/-- the row at ra: the script at sc, ints n -/
def RowAt (K : PySem.W.Frag) (sc ra : Addr) (scr : List Int) (F H : Hp) (st : Rw) : Prop :=
  H ra = some (.lst [.ref sc, .int st.pos, .int st.seed, .int st.left]) ∧ F ra = none ∧ SqL K F sc (scr.map V.int)
theorem RowAt.keep {K : PySem.W.Frag} {sc ra : Addr} {scr : List Int} {F H F' H' : Hp} {st : Rw} (w : RowAt K sc ra scr F H st) (g : Gm [] F H F' H') : RowAt K sc ra scr F' H' st :=
  ⟨(g.own (by simp) w.1 w.2.1).1, (g.own (by simp) w.1 w.2.1).2, ex_l g.f w.2.2⟩

/-! ### loops -/
inductive Fl (R S : Type) where
  | go (s : S)
  | brk (s : S)
  | ret (r : R)
def foldM {α S : Type} (f : S → α → Mm S) : S → List α → Mm S
  | s, [] => .ok s
  | s, x :: xs => (f s x).bd fun s' => foldM f s' xs
/-- a loop that may be left -/
def foldL {α R S : Type} (f : S → α → Mm (Fl R S)) : S → List α → Mm (Fl R S)
  | s, [] => .ok (.go s)
  | s, x :: xs => (f s x).bd fun o => match o with
    | .go s' => foldL f s' xs
    | .brk s' => .ok (.go s')
    | .ret r => .ok (.ret r)
def Fl.el {R S β : Type} (o : Fl R S) (go : S → Mm β) (ret : R → Mm β) : Mm β := match o with
  | .go s => go s
  | .brk s => go s
  | .ret r => ret r
def foldW {S : Type} (c : S → Mm Bool) (f : S → Mm S) : Nat → S → Mm S
  | 0, _ => .bad
  | n + 1, s => (c s).bd fun b => match b with
    | true => (f s).bd fun s' => foldW c f n s'
    | false => .ok s
theorem post_assoc {α β γ : Type} {m : Mm α} {f : α → Mm β} {g : β → Mm γ} {p : γ → Prop} {q : Er → Prop} (h : Post ((m.bd f).bd g) p q) : Post (m.bd fun a => (f a).bd g) p q := by
  cases m <;> exact ⟨h.h⟩
section
variable {K : PySem.W.Frag} {M : List Addr} {F H : Hp} {σ : L2.St} {D : Ends} {g : TG} {tb : TS} {α β S : Type} {xs : List V} {l : List α} {step : S → α → Mm S} {rest : S → Mm β} {ok : β → Prop} {ex : Er → Prop} {s0 : S} {J : It} {n : Nat} {G : Hp → Prop} {Y : Nat → Hp → V → Hp → Prop}
/-- a for over anything that walks, no way out but by its end; Z: what a turn finds of the i-th item -/
theorem for_mir (w : Walk J n G Y) (I : S → Hp → Hp → L2.St → Prop) (k : Post ((foldM step s0 l).bd rest) ok ex) (e : Ex F H) (h0 : I s0 F H σ) (hn : l.length = n) (hG : ∀ F' H', Gm M F H F' H' → G H')
    (hb : ∀ i s x v σ' F' H' H'' , Gm M F H F' H' → I s F' H' σ' → l[i]? = some x → Y i H' v H'' → ∀ nx : L2.St → Hp → Prop,
      Post (step s x) (fun s' => ∀ σ2 F2 H2, Gm M F H F2 H2 → I s' F2 H2 σ2 → nx σ2 H2) ex → g v σ' H'' fun σ2 H2 => tb { D with nx := nx, ct := nx, bk := D.nx } σ2 H2)
    (kk : ∀ s σ' F' H', Gm M F H F' H' → I s F' H' σ' → Post (rest s) ok ex → D.nx σ' H') :
    ∃ W : Nat → Nat → L2.St → Hp → Prop, (∃ m, W 0 m σ H) ∧ ∀ i m σ H, W i m σ H →
      (J.stop i H ∧ D.nx σ H) ∨ (J.go i H ∧ ∃ N : L2.St → Hp → Prop, (∀ σ' H', N σ' H' → ∃ m', m' < m ∧ W (i + 1) m' σ' H') ∧ ∀ x H', J.yld i H x H' → g x σ H' fun σ2 H2 => tb { D with nx := N, ct := N, bk := D.nx } σ2 H2) := by
  refine for_it w (fun i σ' H' => ∃ s F', Gm M F H F' H' ∧ I s F' H' σ' ∧ Post ((foldM step s (l.drop i)).bd rest) ok ex) ⟨s0, F, Gm.refl e, h0, k⟩ (fun i σ' H' _ ⟨s, F', g', _, _⟩ => hG F' H' g') ?_ ?_
  · rintro i v σ' H' H'' hi ⟨s, F', g', i', k'⟩ y
    have hl : i < l.length := by omega
    have e1 : l.drop i = l[i] :: l.drop (i + 1) := List.drop_eq_getElem_cons hl
    rw [e1] at k'
    have k2 := post_bd (post_assoc k')
    exact hb i s l[i] v σ' F' H' H'' g' i' (List.getElem?_eq_getElem hl) y _ (k2.mono (fun s' q σ2 F2 H2 g2 i2 => ⟨s', F2, g2, i2, q⟩) fun _ z => z)
  · rintro σ' H' ⟨s, F', g', i', k'⟩
    rw [← hn, List.drop_length] at k'
    exact kk s σ' F' H' g' i' ⟨k'.h⟩
/-- the same with ways out: brk, ret -/
theorem for_mirL {R : Type} {stepL : S → α → Mm (Fl R S)} {rest : S → Mm β} {ret : R → Mm β} (w : Walk J n G Y) (I : S → Hp → Hp → L2.St → Prop) (k : Post ((foldL stepL s0 l).bd fun o => o.el rest ret) ok ex) (e : Ex F H) (h0 : I s0 F H σ) (hn : l.length = n) (hG : ∀ F' H', Gm M F H F' H' → G H')
    (hb : ∀ i s x v σ' F' H' H'' , Gm M F H F' H' → I s F' H' σ' → l[i]? = some x → Y i H' v H'' → ∀ nx : L2.St → Hp → Prop,
      Post (stepL s x) (fun o => match o with
        | .go s' => ∀ σ2 F2 H2, Gm M F H F2 H2 → I s' F2 H2 σ2 → nx σ2 H2
        | .brk s' => ∀ σ2 F2 H2, Gm M F H F2 H2 → I s' F2 H2 σ2 → D.nx σ2 H2
        | .ret r => Post (ret r) ok ex) ex → g v σ' H'' fun σ2 H2 => tb { D with nx := nx, ct := nx, bk := D.nx } σ2 H2)
    (kk : ∀ s σ' F' H', Gm M F H F' H' → I s F' H' σ' → Post (rest s) ok ex → D.nx σ' H') :
    ∃ W : Nat → Nat → L2.St → Hp → Prop, (∃ m, W 0 m σ H) ∧ ∀ i m σ H, W i m σ H →
      (J.stop i H ∧ D.nx σ H) ∨ (J.go i H ∧ ∃ N : L2.St → Hp → Prop, (∀ σ' H', N σ' H' → ∃ m', m' < m ∧ W (i + 1) m' σ' H') ∧ ∀ x H', J.yld i H x H' → g x σ H' fun σ2 H2 => tb { D with nx := N, ct := N, bk := D.nx } σ2 H2) := by
  refine for_it w (fun i σ' H' => ∃ s F', Gm M F H F' H' ∧ I s F' H' σ' ∧ Post ((foldL stepL s (l.drop i)).bd fun o => o.el rest ret) ok ex) ⟨s0, F, Gm.refl e, h0, k⟩ (fun i σ' H' _ ⟨s, F', g', _, _⟩ => hG F' H' g') ?_ ?_
  · rintro i v σ' H' H'' hi ⟨s, F', g', i', k'⟩ y
    have hl : i < l.length := by omega
    have e1 : l.drop i = l[i] :: l.drop (i + 1) := List.drop_eq_getElem_cons hl
    rw [e1] at k'
    have k2 := post_bd (post_assoc k')
    refine hb i s l[i] v σ' F' H' H'' g' i' (List.getElem?_eq_getElem hl) y _ (k2.mono (fun o q => ?_) fun _ z => z)
    cases o with
    | go s' => exact fun σ2 F2 H2 g2 i2 => ⟨s', F2, g2, i2, ⟨q.h⟩⟩
    | brk s' => exact fun σ2 F2 H2 g2 i2 => kk s' σ2 F2 H2 g2 i2 ⟨q.h⟩
    | ret r => exact ⟨q.h⟩
  · rintro σ' H' ⟨s, F', g', i', k'⟩
    rw [← hn, List.drop_length] at k'
    exact kk s σ' F' H' g' i' ⟨k'.h⟩
/-- a while -/
theorem while_mir {c : TT} {cM : S → Mm Bool} {bM : S → Mm S} {N : Nat} (I : S → Hp → Hp → L2.St → Prop) (k : Post ((foldW cM bM N s0).bd rest) ok ex) (e : Ex F H) (h0 : I s0 F H σ)
    (hc : ∀ s σ' F' H', Gm M F H F' H' → I s F' H' σ' → ∀ Q : Bool → Hp → Prop, Post (cM s) (fun b => ∀ F2 H2, Gm M F H F2 H2 → I s F2 H2 σ' → Q b H2) ex → c σ' H' Q)
    (hb : ∀ s σ' F' H', Gm M F H F' H' → I s F' H' σ' → ∀ nx : L2.St → Hp → Prop, Post (bM s) (fun s' => ∀ σ2 F2 H2, Gm M F H F2 H2 → I s' F2 H2 σ2 → nx σ2 H2) ex → tb { D with nx := nx, ct := nx, bk := D.nx } σ' H')
    (kk : ∀ s σ' F' H', Gm M F H F' H' → I s F' H' σ' → Post (rest s) ok ex → D.nx σ' H') : tWhile c tb D σ H := by
  refine ⟨fun m σ' H' => ∃ s F', Gm M F H F' H' ∧ I s F' H' σ' ∧ Post ((foldW cM bM m s).bd rest) ok ex, ⟨N, s0, F, Gm.refl e, h0, k⟩, ?_⟩
  rintro m σ' H' ⟨s, F', g', i', k'⟩
  cases m with
  | zero => exact k'.h.elim
  | succ m =>
    refine hc s σ' F' H' g' i' _ ((post_bd (post_assoc k')).mono (fun b q F2 H2 g2 i2 => ?_) fun _ z => z)
    cases b with
    | false => exact kk s σ' F2 H2 g2 i2 ⟨q.h⟩
    | true =>
      refine ⟨fun σ2 H2 => ∃ s F', Gm M F H F' H2 ∧ I s F' H2 σ2 ∧ Post ((foldW cM bM m s).bd rest) ok ex, fun σ2 H2 ⟨s', F3, z⟩ => ⟨m, Nat.lt_succ_self _, s', F3, z⟩, ?_⟩
      exact hb s σ' F2 H2 g2 i2 _ ((post_bd (post_assoc (Post.mk q.h))).mono (fun s' q' σ2 F3 H3 g3 i3 => ⟨s', F3, g3, i3, q'⟩) fun _ z => z)
end

/-! ### comprehensions -/
def noEx {α : Type} (m : Mm α) : Mm α := match m with
  | .ex _ => .bad
  | .ok a => .ok a
  | .bad => .bad
theorem post_noEx {α : Type} {m : Mm α} {p : α → Prop} {q q' : Er → Prop} (h : Post (noEx m) p q) : Post m p q' := by
  cases m with
  | ok a => exact ⟨h.h⟩
  | ex e => exact h.h.elim
  | bad => exact h.h.elim
/-- the elements in turn; a state goes through; none: left out -/
def compM {α γ S : Type} (f : S → α → Mm (Option γ × S)) : S → List α → Mm (List γ × S)
  | s, [] => .ok ([], s)
  | s, x :: xs => (f s x).bd fun o => (compM f o.2 xs).bd fun r => .ok (o.1.toList ++ r.1, r.2)
section
variable {K : PySem.W.Frag} {M : List Addr} {F H : Hp} {σ : L2.St} {g : TG} {tt : TT} {te : TE} {vs : List Nat} {α β γ S : Type} {l : List α} {f : S → α → Mm (Option γ × S)} {rest : List γ × S → Mm β} {ok : β → Prop} {ex : Er → Prop} {s0 : S} {J : It} {n : Nat} {G : Hp → Prop} {Y : Nat → Hp → V → Hp → Prop} {Q : VK}
theorem comp_post {acc : List γ} {s : S} {l : List α} {rest : List γ × S → Mm β} : ∀ {ok : β → Prop} {ex : Er → Prop} {f : S → α → Mm (Option γ × S)} {x : α},
    Post (((compM f s (x :: l)).bd fun r => rest (acc ++ r.1, r.2))) ok ex → Post (f s x) (fun o => Post ((compM f o.2 l).bd fun r => rest ((acc ++ o.1.toList) ++ r.1, r.2)) ok ex) ex := by
  intro ok ex f x h
  have h1 := post_bd (post_assoc h)
  refine h1.mono (fun o q => ?_) fun _ z => z
  have h2 := post_assoc q
  simpa only [bd_ok, List.append_assoc] using h2
/-- what a comprehension's state asks of its word: a younger object may change, may be fixed -/
structure Stab (I : S → Hp → Hp → Prop) (H : Hp) : Prop where
  put : ∀ s F' H' D xs, I s F' H' → H D = none → I s F' (upd H' D (.lst xs))
  fix : ∀ s F' H' D xs, I s F' H' → H D = none → F' D = none → I s (upd F' D (.lst xs)) H'
/-- a comprehension: enc: how an element is told -/
theorem lc_mir (w : Walk J n G Y) (en : γ → PyData) (I : S → Hp → Hp → Prop) (k : Post ((compM f s0 l).bd rest) ok ex) (e : Ex F H) (h0 : I s0 F H) (st : Stab I H) (hn : l.length = n) (hz : l.length ≤ 50000) (hG : ∀ F' H', Gm M F H F' H' → G H')
    (hM : ∀ D, H D = none → D ∉ M)
    (hb : ∀ i s x v F' H' H'', Gm M F H F' H' → I s F' H' → l[i]? = some x → Y i H' v H'' → ∀ Q : Option V → Hp → Prop,
      Post (f s x) (fun o => ∀ F2 H2 v, Gm M F' H' F2 H2 → I o.2 F2 H2 → (match o.1 with
        | some y => ∃ u, v = some u ∧ Dq K F2 u (en y)
        | none => v = none) → Q v H2) (fun _ => False) →
      g v (wipe σ vs) H'' fun σ2 H2 => wipe σ2 vs = wipe σ vs ∧ tt σ2 H2 fun b H3 => if b = true then te σ2 H3 fun y H4 => Q (some y) H4 else Q none H3)
    (hx : ∀ e, ¬ ex e)
    (kk : ∀ (r : List γ × S) v F' H', Gm M F H F' H' → I r.2 F' H' → Dq K F' v (.list (r.1.map en)) → Post (rest r) ok ex → Q v H') :
    ∀ D, H D = none → ∃ W : Nat → Nat → Hp → Prop, (∃ m, W 0 m (upd H D (.lst []))) ∧ ∀ i m H, W i m H →
      (J.stop i H ∧ Q (.ref D) H) ∨ (J.go i H ∧ ∃ Nx : Hp → Prop, (∀ H', Nx H' → ∃ m', m' < m ∧ W (i + 1) m' H') ∧ ∀ x H', J.yld i H x H' → g x (wipe σ vs) H' fun σ2 H2 => wipe σ2 vs = wipe σ vs ∧ tt σ2 H2 fun b H3 =>
        if b = true then te σ2 H3 fun y H4 => ∃ acc, H4 D = some (.lst acc) ∧ acc.length < sizeLine ∧ Nx (upd H4 D (.lst (acc ++ [y]))) else Nx H3) := by
  intro D hD
  have k0 : Post ((compM f s0 (l.drop 0)).bd fun r => rest ([] ++ r.1, r.2)) ok ex := by simpa using k
  refine lc_it w (fun i H' => ∃ (s : S) (acc : List γ) (xs : List V) (F' : Hp), Gm M F H F' H' ∧ I s F' H' ∧ H' D = some (.lst xs) ∧ F' D = none ∧ DqAll K F' xs (acc.map en) ∧ xs.length ≤ i ∧ Post ((compM f s (l.drop i)).bd fun r => rest (acc ++ r.1, r.2)) ok ex)
    ⟨s0, [], [], F, Gm.newM e hD, st.put s0 F H D _ h0 hD, upd_same, ?_, .nil, Nat.le_refl _, k0⟩ (fun i H' _ ⟨s, acc, xs, F', g', _⟩ => hG F' H' g') ?_ ?_
  · cases q : F D with
    | none => rfl
    | some u => rw [e D u q] at hD; cases hD
  · rintro i v H' H'' hi ⟨s, acc, xs, F', g', i', hL, fL, ha, hlen, k'⟩ y
    have hl : i < l.length := by omega
    have e1 : l.drop i = l[i] :: l.drop (i + 1) := List.drop_eq_getElem_cons hl
    rw [e1] at k'
    have k2 := comp_post k'
    have hDM : D ∉ M := hM D hD
    have z := hb i s l[i] v F' H' H'' g' i' (List.getElem?_eq_getElem hl) y (fun o H4 => match o with
      | some y => ∃ acc', H4 D = some (.lst acc') ∧ acc'.length < sizeLine ∧ ∃ (s : S) (acc : List γ) (xs : List V) (F' : Hp), Gm M F H F' (upd H4 D (.lst (acc' ++ [y]))) ∧ I s F' (upd H4 D (.lst (acc' ++ [y]))) ∧ (upd H4 D (.lst (acc' ++ [y]))) D = some (.lst xs) ∧ F' D = none ∧ DqAll K F' xs (acc.map en) ∧ xs.length ≤ i + 1 ∧ Post ((compM f s (l.drop (i + 1))).bd fun r => rest (acc ++ r.1, r.2)) ok ex
      | none => ∃ (s : S) (acc : List γ) (xs : List V) (F' : Hp), Gm M F H F' H4 ∧ I s F' H4 ∧ H4 D = some (.lst xs) ∧ F' D = none ∧ DqAll K F' xs (acc.map en) ∧ xs.length ≤ i + 1 ∧ Post ((compM f s (l.drop (i + 1))).bd fun r => rest (acc ++ r.1, r.2)) ok ex)
      (k2.mono (fun o q F2 H2 v2 g2 i2 hv => ?_) fun e z => (hx e z).elim)
    · exact z
    · obtain ⟨h2L, f2L⟩ := g2.own hDM hL fL
      obtain ⟨o1, o2⟩ := o
      cases o1 with
      | some y =>
        obtain ⟨u, rfl, hu⟩ := hv
        refine ⟨xs, h2L, sz_lt (by omega), o2, acc ++ [y], xs ++ [u], F2, ?_, st.put _ _ _ _ _ i2 hD, upd_same, f2L, ?_, ?_, ?_⟩
        · exact (g'.trans g2).putYoung h2L f2L hD
        · rw [List.map_append]; exact (ha.up g2.f).app (.cons hu .nil)
        · rw [List.length_append, List.length_singleton]; omega
        · simpa using q
      | none =>
        subst hv
        refine ⟨o2, acc, xs, F2, g'.trans g2, i2, h2L, f2L, ha.up g2.f, by omega, ?_⟩
        simpa using q
  · rintro H' ⟨s, acc, xs, F', g', i', hL, fL, ha, hlen, k'⟩
    rw [← hn, List.drop_length] at k'
    have up : Ex F' (upd F' D (.lst xs)) := Ex.new fL
    exact kk (acc, s) _ (upd F' D (.lst xs)) H' (g'.fix hL fL hD) (st.fix _ _ _ _ _ i' hD fL) (.lst upd_same (ha.up up)) (by simpa [compM] using k')
theorem stab_row {K : PySem.W.Frag} {sc ra : Addr} {scr : List Int} {F H : Hp} {st : Rw} (w : RowAt K sc ra scr F H st) : Stab (fun s F H => RowAt K sc ra scr F H s) H := by
  have ne : ∀ D, H D = none → ra ≠ D := fun D hD q => by
    have z := w.1
    rw [q, hD] at z
    cases z
  refine ⟨fun s F' H' D xs i hD => ⟨?_, i.2.1, i.2.2⟩, fun s F' H' D xs i hD hf => ⟨i.1, ?_, ex_l (Ex.new hf) i.2.2⟩⟩
  · rw [upd_ne (ne D hD)]; exact i.1
  · rw [upd_ne (ne D hD)]; exact i.2.1
theorem stab_t {H : Hp} : Stab (fun (_ : Unit) _ _ => True) H := ⟨fun _ _ _ _ _ _ _ => trivial, fun _ _ _ _ _ _ _ _ => trivial⟩
theorem row_notM {K : PySem.W.Frag} {sc ra : Addr} {scr : List Int} {F H : Hp} {st : Rw} (w : RowAt K sc ra scr F H st) : ∀ D, H D = none → D ∉ [ra] := fun D hD q => by
  have z := w.1
  have e : D = ra := by simpa using q
  rw [← e, hD] at z
  cases z
end
end Wk

set_option Elab.async false
set_option linter.all false
set_option maxRecDepth 100000
set_option maxHeartbeats 4000000
namespace Wk
open PySem L2 Evl
/-! ### what follows, under a name -/
def QK (Q : VK) : VK := fun v H => Q v H
def tQ (te : TE) : TE := fun σ H Q => te σ H (QK Q)
section
variable {X : Cx} {x : Expr} {te : TE} {st : Stmt} {g : TG}
theorem pe_q (h : PE X x te) : PE X x (tQ te) := ⟨fun pins s σ H Q I q => h.run pins s σ H (QK Q) I q⟩
theorem ps_q (h : PS X st (tAsg te g)) : PS X st (tAsg (tQ te) g) := ⟨fun pins s σ H D I q => h.run pins s σ H D I q⟩
end
/-! ### joins -/
section
variable {M : List Addr} {F H : Hp} {σ : L2.St} {D : Ends} {α β : Type} {c a b : Bool} {A B : Prop} {X Y : Mm β} {rest : β → Mm α} {ok : α → Prop} {ex : Er → Prop} {Q : VK} {ta tb : TE} {tu tw : TS}
theorem cs {X Y : Mm α} (k : Post (cond c X Y) ok ex) (h1 : c = true → Post X ok ex → A) (h2 : c = false → Post Y ok ex → B) : if c = true then A else B := by
  cases c with
  | true => rw [if_pos rfl]; exact h1 rfl ⟨k.h⟩
  | false => rw [if_neg Bool.false_ne_true]; exact h2 rfl ⟨k.h⟩
theorem or_j {Q : Bool → Hp → Prop} {u : TT} (hu : a = false → ∀ Q' : Bool → Hp → Prop, Q' b H → u σ H Q') (k : Q (a || b) H) : if a = true then Q true H else u σ H Q := by
  cases a with
  | true => rw [if_pos rfl]; exact k
  | false => rw [if_neg Bool.false_ne_true]; exact hu rfl Q k
theorem and_j {Q : Bool → Hp → Prop} {u : TT} (hu : a = true → ∀ Q' : Bool → Hp → Prop, Q' b H → u σ H Q') (k : Q (a && b) H) : if a = true then u σ H Q else Q false H := by
  cases a with
  | true => rw [if_pos rfl]; exact hu rfl Q k
  | false => rw [if_neg Bool.false_ne_true]; exact k
theorem orV_j {u : TE} (hu : a = false → ∀ Q' : VK, Q' (.bl b) H → u σ H Q') (k : Q (.bl (a || b)) H) : if a = true then Q (.bl true) H else u σ H Q := by
  cases a with
  | true => rw [if_pos rfl]; exact k
  | false => rw [if_neg Bool.false_ne_true]; exact hu rfl Q k
theorem andV_j {u : TE} (hu : a = true → ∀ Q' : VK, Q' (.bl b) H → u σ H Q') (k : Q (.bl (a && b)) H) : if a = true then u σ H Q else Q (.bl false) H := by
  cases a with
  | true => rw [if_pos rfl]; exact hu rfl Q k
  | false => rw [if_neg Bool.false_ne_true]; exact k
/-- the second operand wants outcomes of its own -/
theorem or_jM {Q : Bool → Hp → Prop} {u : TT} {Y : Mm Bool} {rest : Bool → Mm α} (e : Ex F H) (k : Post ((cond a (.ok true) Y).bd rest) ok ex) (hu : a = false → ∀ Q' : Bool → Hp → Prop, Post Y (fun b => ∀ F' H', Gm M F H F' H' → Q' b H') ex → u σ H Q')
    (kk : ∀ b F' H', Gm M F H F' H' → Post (rest b) ok ex → Q b H') : if a = true then Q true H else u σ H Q := by
  cases a with
  | true => rw [if_pos rfl]; exact kk true F H (Gm.refl e) ⟨k.h⟩
  | false => rw [if_neg Bool.false_ne_true]; exact hu rfl Q ((post_bd k).mono (fun b q F' H' g => kk b F' H' g q) fun _ z => z)
theorem and_jM {Q : Bool → Hp → Prop} {u : TT} {Y : Mm Bool} {rest : Bool → Mm α} (e : Ex F H) (k : Post ((cond a Y (.ok false)).bd rest) ok ex) (hu : a = true → ∀ Q' : Bool → Hp → Prop, Post Y (fun b => ∀ F' H', Gm M F H F' H' → Q' b H') ex → u σ H Q')
    (kk : ∀ b F' H', Gm M F H F' H' → Post (rest b) ok ex → Q b H') : if a = true then u σ H Q else Q false H := by
  cases a with
  | false => rw [if_neg Bool.false_ne_true]; exact kk false F H (Gm.refl e) ⟨k.h⟩
  | true => rw [if_pos rfl]; exact hu rfl Q ((post_bd k).mono (fun b q F' H' g => kk b F' H' g q) fun _ z => z)
/-- a value by a condition -/
theorem if_jM (S : β → Hp → Hp → V → Prop) (k : Post ((cond c X Y).bd rest) ok ex)
    (ha : c = true → ∀ Q' : VK, Post X (fun b => Ret M F H (S b) Q') ex → ta σ H Q') (hb : c = false → ∀ Q' : VK, Post Y (fun b => Ret M F H (S b) Q') ex → tb σ H Q')
    (kk : ∀ b v F' H', Gm M F H F' H' → S b F' H' v → Post (rest b) ok ex → Q v H') : if c = true then ta σ H Q else tb σ H Q := by
  cases c with
  | true => rw [if_pos rfl]; exact ha rfl Q ((post_bd k).mono (fun b q v F' H' g s => kk b v F' H' g s q) fun _ z => z)
  | false => rw [if_neg Bool.false_ne_true]; exact hb rfl Q ((post_bd k).mono (fun b q v F' H' g s => kk b v F' H' g s q) fun _ z => z)
/-- an if whose ways go on -/
theorem ifs_jM (I : β → Hp → Hp → L2.St → Prop) (k : Post ((cond c X Y).bd rest) ok ex)
    (ha : c = true → ∀ nx : L2.St → Hp → Prop, Post X (fun b => ∀ σ' F' H', Gm M F H F' H' → I b F' H' σ' → nx σ' H') ex → tu { D with nx := nx } σ H)
    (hb : c = false → ∀ nx : L2.St → Hp → Prop, Post Y (fun b => ∀ σ' F' H', Gm M F H F' H' → I b F' H' σ' → nx σ' H') ex → tw { D with nx := nx } σ H)
    (kk : ∀ b σ' F' H', Gm M F H F' H' → I b F' H' σ' → Post (rest b) ok ex → D.nx σ' H') : if c = true then tu D σ H else tw D σ H := by
  cases c with
  | true => rw [if_pos rfl]; exact ha rfl D.nx ((post_bd k).mono (fun b q σ' F' H' g s => kk b σ' F' H' g s q) fun _ z => z)
  | false => rw [if_neg Bool.false_ne_true]; exact hb rfl D.nx ((post_bd k).mono (fun b q σ' F' H' g s => kk b σ' F' H' g s q) fun _ z => z)
end
/-! ### items of data -/
section
variable {K : PySem.W.Frag} {F : Hp} {α : Type} {f : α → PyData} {l : List α} {vs : List V} {a : α} {i : Int}
theorem atI_at {α : Type} {xs : List α} {i : Int} {a : α} (h : atI xs i = some a) : ∃ j, ixN xs.length i = some j ∧ xs[j]? = some a := by
  unfold atI at h
  cases e : ixN xs.length i with
  | none => rw [e] at h; cases h
  | some j => rw [e] at h; exact ⟨j, rfl, h⟩
theorem dq_at (ha : DqAll K F vs (l.map f)) (h : atI l i = some a) : ∃ v, atI vs i = some v ∧ Dq K F v (f a) := by
  obtain ⟨j, hj, hg⟩ := atI_at h
  have hl : vs.length = l.length := by rw [ha.len, List.length_map]
  obtain ⟨v, hv, hd⟩ := ha.get (i := j) (d := f a) (by rw [List.getElem?_map, hg]; rfl)
  refine ⟨v, ?_, hd⟩
  unfold atI
  rw [hl, hj]
  exact hv
theorem atI_ints {l : List Int} (h : atI l i = some a') : atI (l.map V.int) i = some (V.int a') := by
  obtain ⟨j, hj, hg⟩ := atI_at h
  unfold atI
  rw [List.length_map, hj]
  show (l.map V.int)[j]? = _
  rw [List.getElem?_map, hg]
  rfl
end
/-! ### heaps, more -/
section
variable {M : List Addr} {F H F1 H1 F0 H0 : Hp}
/-- behind a loop that may change the younger object at p -/
theorem Gm.young {p : Addr} (g : Gm M F0 H0 F H) (h0 : H0 p = none) (g2 : Gm (p :: M) F H F1 H1) : Gm M F0 H0 F1 H1 :=
  ⟨g.f.trans g2.f, g2.s, fun a o hM h => g2.h a o (fun q => by
      rcases List.mem_cons.mp q with q | q
      · rw [q, h0] at h; cases h
      · exact hM q) (g.h a o hM h), fun a o h hn => by
    obtain ⟨o', h'⟩ := g.m a o h
    exact g2.n a o' h' (g.n a o h hn), fun a o h => by
    obtain ⟨o', h'⟩ := g.m a o h
    exact g2.m a o' h'⟩
theorem Gm.putIn (g : Gm M F0 H0 F H) {p : Addr} {o u : HO} (hp : p ∈ M) (h : H p = some u) (hf : F p = none) : Gm M F0 H0 F (upd H p o) := by
  refine ⟨g.f, fun a u ha => ?_, fun a u hM ha => ?_, g.n, fun a u ha => ?_⟩
  · have q : a ≠ p := fun q => by rw [q, hf] at ha; cases ha
    rw [upd_ne q]; exact g.s a u ha
  · have q : a ≠ p := fun q => hM (by rw [q]; exact hp)
    rw [upd_ne q]; exact g.h a u hM ha
  · by_cases q : a = p
    · subst q; exact ⟨o, upd_same⟩
    · obtain ⟨o', h'⟩ := g.m a u ha
      exact ⟨o', by rw [upd_ne q]; exact h'⟩
end
/-! ### built-ins by name -/
structure Bi (mg : Str → Option Value) : Prop where
  len : mg "len" = none
  int : mg "int" = none
  bool : mg "bool" = none
  str : mg "str" = none
  abs : mg "abs" = none
  sum : mg "sum" = none
  min : mg "min" = none
  max : mg "max" = none
  list : mg "list" = none
  tuple : mg "tuple" = none
  set : mg "set" = none
  dict : mg "dict" = none
  sorted : mg "sorted" = none
  range : mg "range" = none
  enumerate : mg "enumerate" = none
  zip : mg "zip" = none
  reversed : mg "reversed" = none
  isinstance : mg "isinstance" = none
end Wk

set_option Elab.async false
set_option linter.all false
set_option maxRecDepth 100000
set_option maxHeartbeats 4000000
namespace Wk
open PySem L2 Evl
theorem Gm.weak {M M' : List Addr} {F H F' H' : Hp} (g : Gm M F H F' H') (h : ∀ a, a ∈ M → a ∈ M') : Gm M' F H F' H' := ⟨g.f, g.s, fun a o hM e => g.h a o (fun q => hM (h a q)) e, g.n, g.m⟩
/-! ### ranges -/
def rangeL (lo : Int) (n : Nat) : List Int := (List.range n).map fun (i : Nat) => lo + (i : Int)
def rangeM (j : Int) : Mm (List Int) := if -(2 ^ 62) ≤ j ∧ j < 2 ^ 62 then .ok (rangeL 0 j.toNat) else .bad
def rangeM2 (i j : Int) : Mm (List Int) := if -(2 ^ 62) ≤ i ∧ i < 2 ^ 62 ∧ -(2 ^ 62) ≤ j ∧ j < 2 ^ 62 then .ok (rangeL i (j - i).toNat) else .bad
section
variable {β : Type} {r : β → Prop} {q : Er → Prop} {i j : Int} {f : List Int → Mm β}
theorem post_range (h : Post ((rangeM j).bd f) r q) : (-(2 ^ 62) ≤ j ∧ j < 2 ^ 62) ∧ Post (f (rangeL 0 j.toNat)) r q := by
  unfold rangeM at h
  split at h
  · exact ⟨‹_›, ⟨h.h⟩⟩
  · exact h.h.elim
theorem post_range2 (h : Post ((rangeM2 i j).bd f) r q) : (-(2 ^ 62) ≤ i ∧ i < 2 ^ 62 ∧ -(2 ^ 62) ≤ j ∧ j < 2 ^ 62) ∧ Post (f (rangeL i (j - i).toNat)) r q := by
  unfold rangeM2 at h
  split at h
  · exact ⟨‹_›, ⟨h.h⟩⟩
  · exact h.h.elim
end
/-! ### fors over data, one form -/
/-- what a for or a comprehension walks over, as a list of data; R: what stands of an item -/
structure Wlk (M : List Addr) (F H : Hp) (J : It) {α : Type} (l : List α) (R : Hp → V → α → Prop) : Prop where
  ex : ∃ (n : Nat) (G : Hp → Prop) (Y : Nat → Hp → V → Hp → Prop), Walk J n G Y ∧ l.length = n ∧ (∀ F' H', Gm M F H F' H' → G H') ∧
    ∀ i x v F' H' H'', Gm M F H F' H' → l[i]? = some x → Y i H' v H'' → ∃ F'', Gm [] F' H' F'' H'' ∧ R F'' v x
section
variable {K : PySem.W.Frag} {M : List Addr} {F H : Hp} {σ : L2.St} {D : Ends} {g : TG} {tb : TS} {α β S : Type} {xs ys : List V} {l : List α} {step : S → α → Mm S} {rest : S → Mm β} {ok : β → Prop} {ex : Er → Prop} {s0 : S} {J : It} {R : Hp → V → α → Prop} {en : α → PyData} {a b : Addr}
theorem wlk_list (e : Ex F H) (h : F a = some (.lst xs)) (da : DqAll K F xs (l.map en)) : Wlk M F H (Itl K a) l (fun F v x => Dq K F v (en x)) := by
  refine ⟨_, _, _, walk_list (K := K) (a := a) (xs := xs), by rw [da.len, List.length_map], fun F' H' g' => sq_of (g'.s _ _ (g'.f _ _ h)), fun i x v F' H' H'' g' hx y => ?_⟩
  obtain ⟨rfl, hv⟩ := y
  obtain ⟨d, hd, hq⟩ := (da.up g'.f).getV hv
  rw [List.getElem?_map, hx] at hd
  cases hd
  exact ⟨F', Gm.refl g'.s, hq⟩
theorem wlk_tup (e : Ex F H) (h : SqT K F a xs) (da : DqAll K F xs (l.map en)) : Wlk M F H (Itt K a) l (fun F v x => Dq K F v (en x)) := by
  refine ⟨_, _, _, walk_tup (K := K) (a := a) (xs := xs), by rw [da.len, List.length_map], fun F' H' g' => ex_t g'.s (ex_t g'.f h), fun i x v F' H' H'' g' hx y => ?_⟩
  obtain ⟨rfl, hv⟩ := y
  obtain ⟨d, hd, hq⟩ := (da.up g'.f).getV hv
  rw [List.getElem?_map, hx] at hd
  cases hd
  exact ⟨F', Gm.refl g'.s, hq⟩
theorem rangeL_at {lo : Int} {n i : Nat} {x : Int} (h : (rangeL lo n)[i]? = some x) : x = lo + i := by
  unfold rangeL at h
  rw [List.getElem?_map] at h
  cases e : (List.range n)[i]? with
  | none => rw [e] at h; cases h
  | some j =>
    rw [e] at h
    obtain ⟨h1, h2⟩ := List.getElem?_eq_some_iff.mp e
    rw [List.getElem_range] at h2
    subst h2
    exact (Option.some.inj h).symm
theorem wlk_range {lo : Int} {n : Nat} : Wlk M F H (Itr lo n) (rangeL lo n) (fun _ v x => v = V.int x) := by
  refine ⟨_, _, _, walk_range (lo := lo) (n := n), by simp [rangeL], fun _ _ _ => trivial, fun i x v F' H' H'' g' hx y => ?_⟩
  obtain ⟨rfl, hv⟩ := y
  rw [rangeL_at hx]
  exact ⟨F', Gm.refl g'.s, hv⟩
theorem wlk_rev (e : Ex F H) (h : F a = some (.lst xs)) (da : DqAll K F xs (l.map en)) : Wlk M F H (Itv K a xs.length) l.reverse (fun F v x => Dq K F v (en x)) := by
  have hl : xs.length = l.length := by rw [da.len, List.length_map]
  refine ⟨_, _, _, walk_rev (K := K) (a := a) (xs := xs), by rw [List.length_reverse, hl], fun F' H' g' => sq_of (g'.s _ _ (g'.f _ _ h)), fun i x v F' H' H'' g' hx y => ?_⟩
  obtain ⟨rfl, hv⟩ := y
  obtain ⟨d, hd, hq⟩ := (da.up g'.f).getV hv
  have hi : i < l.reverse.length := (List.getElem?_eq_some_iff.mp hx).1
  rw [List.length_reverse] at hi
  rw [List.getElem?_reverse hi] at hx
  rw [List.getElem?_map, hl, hx] at hd
  cases hd
  exact ⟨F', Gm.refl g'.s, hq⟩
/-- enumerate: the items (i, x) -/
def enumL {α : Type} (l : List α) : List (Int × α) := (rangeL 0 l.length).zip l
theorem wlk_enum (e : Ex F H) (h : F a = some (.lst xs)) (da : DqAll K F xs (l.map en)) : Wlk M F H (Ite K a) (enumL l) (fun F v x => Dq K F v (e2 PyData.int en x)) := by
  have hl : xs.length = l.length := by rw [da.len, List.length_map]
  refine ⟨_, _, _, walk_enum (K := K) (a := a) (xs := xs), by simp [enumL, rangeL, hl], fun F' H' g' => sq_of (g'.s _ _ (g'.f _ _ h)), fun i x v F' H' H'' g' hx y => ?_⟩
  obtain ⟨T, u, w, rfl, hT, rfl, h1, h2⟩ := y
  obtain ⟨d, hd, hq⟩ := (da.up g'.f).getV h2
  obtain ⟨x1, x2⟩ := x
  unfold enumL at hx
  rw [List.getElem?_zip_eq_some] at hx
  obtain ⟨hx1, hx2⟩ := hx
  have e1 := rangeL_at hx1
  simp only at e1 hx2
  rw [List.getElem?_map, hx2] at hd
  cases hd
  cases h1
  have g2 : Gm [] F' H' (upd F' T (.tup [V.int (i : Nat), w])) (upd H' T (.tup [V.int (i : Nat), w])) := Gm.new g'.s hT
  refine ⟨_, g2, .tup (st_of upd_same) (.cons ?_ (.cons (hq.up g2.f) .nil))⟩
  rw [e1, Int.zero_add]
  exact .int _
theorem wlk_zip {α' : Type} {l' : List α'} {en' : α' → PyData} (e : Ex F H) (h : F a = some (.lst xs)) (da : DqAll K F xs (l.map en)) (h' : F b = some (.lst ys)) (da' : DqAll K F ys (l'.map en')) : Wlk M F H (Itz K a b) (l.zip l') (fun F v x => Dq K F v (e2 en en' x)) := by
  have hl : xs.length = l.length := by rw [da.len, List.length_map]
  have hl' : ys.length = l'.length := by rw [da'.len, List.length_map]
  refine ⟨_, _, _, walk_zip (K := K) (a := a) (b := b) (xs := xs) (ys := ys) rfl, by simp [hl, hl'], fun F' H' g' => ⟨sq_of (g'.s _ _ (g'.f _ _ h)), sq_of (g'.s _ _ (g'.f _ _ h'))⟩, fun i x v F' H' H'' g' hx y => ?_⟩
  obtain ⟨T, u, w, rfl, hT, rfl, h1, h2⟩ := y
  obtain ⟨d, hd, hq⟩ := (da.up g'.f).getV h1
  obtain ⟨d', hd', hq'⟩ := (da'.up g'.f).getV h2
  obtain ⟨x1, x2⟩ := x
  rw [List.getElem?_zip_eq_some] at hx
  obtain ⟨hx1, hx2⟩ := hx
  simp only at hx1 hx2
  rw [List.getElem?_map, hx1] at hd
  rw [List.getElem?_map, hx2] at hd'
  cases hd
  cases hd'
  have g2 : Gm [] F' H' (upd F' T (.tup [u, w])) (upd H' T (.tup [u, w])) := Gm.new g'.s hT
  exact ⟨_, g2, .tup (st_of upd_same) (.cons (hq.up g2.f) (.cons (hq'.up g2.f) .nil))⟩
/-- a for with no way out but its end -/
theorem for_m (w : Wlk M F H J l R) (I : S → Hp → Hp → L2.St → Prop) (k : Post ((foldM step s0 l).bd rest) ok ex) (e : Ex F H) (h0 : I s0 F H σ)
    (hb : ∀ s x v σ' F1 H1 F2 H2, Gm M F H F1 H1 → I s F1 H1 σ' → Gm [] F1 H1 F2 H2 → R F2 v x → ∀ nx : L2.St → Hp → Prop,
      Post (step s x) (fun s' => ∀ σ2 F3 H3, Gm M F H F3 H3 → I s' F3 H3 σ2 → nx σ2 H3) ex → g v σ' H2 fun σ2 H3 => tb { D with nx := nx, ct := nx, bk := D.nx } σ2 H3)
    (kk : ∀ s σ' F' H', Gm M F H F' H' → I s F' H' σ' → Post (rest s) ok ex → D.nx σ' H') :
    ∃ W : Nat → Nat → L2.St → Hp → Prop, (∃ m, W 0 m σ H) ∧ ∀ i m σ H, W i m σ H →
      (J.stop i H ∧ D.nx σ H) ∨ (J.go i H ∧ ∃ N : L2.St → Hp → Prop, (∀ σ' H', N σ' H' → ∃ m', m' < m ∧ W (i + 1) m' σ' H') ∧ ∀ x H', J.yld i H x H' → g x σ H' fun σ2 H2 => tb { D with nx := N, ct := N, bk := D.nx } σ2 H2) := by
  obtain ⟨n, G, Y, w, hn, hG, hY⟩ := w.ex
  refine for_mir w I k e h0 hn hG (fun i s x v σ' F' H' H'' g' i' hx y nx k' => ?_) kk
  obtain ⟨F'', g2, r⟩ := hY i x v F' H' H'' g' hx y
  exact hb s x v σ' F' H' F'' H'' g' i' g2 r nx k'
theorem for_mL {R' : Type} {stepL : S → α → Mm (Fl R' S)} {ret : R' → Mm β} (w : Wlk M F H J l R) (I : S → Hp → Hp → L2.St → Prop) (k : Post ((foldL stepL s0 l).bd fun o => o.el rest ret) ok ex) (e : Ex F H) (h0 : I s0 F H σ)
    (hb : ∀ s x v σ' F1 H1 F2 H2, Gm M F H F1 H1 → I s F1 H1 σ' → Gm [] F1 H1 F2 H2 → R F2 v x → ∀ nx : L2.St → Hp → Prop,
      Post (stepL s x) (fun o => match o with
        | .go s' => ∀ σ2 F3 H3, Gm M F H F3 H3 → I s' F3 H3 σ2 → nx σ2 H3
        | .brk s' => ∀ σ2 F3 H3, Gm M F H F3 H3 → I s' F3 H3 σ2 → D.nx σ2 H3
        | .ret r => Post (ret r) ok ex) ex → g v σ' H2 fun σ2 H3 => tb { D with nx := nx, ct := nx, bk := D.nx } σ2 H3)
    (kk : ∀ s σ' F' H', Gm M F H F' H' → I s F' H' σ' → Post (rest s) ok ex → D.nx σ' H') :
    ∃ W : Nat → Nat → L2.St → Hp → Prop, (∃ m, W 0 m σ H) ∧ ∀ i m σ H, W i m σ H →
      (J.stop i H ∧ D.nx σ H) ∨ (J.go i H ∧ ∃ N : L2.St → Hp → Prop, (∀ σ' H', N σ' H' → ∃ m', m' < m ∧ W (i + 1) m' σ' H') ∧ ∀ x H', J.yld i H x H' → g x σ H' fun σ2 H2 => tb { D with nx := N, ct := N, bk := D.nx } σ2 H2) := by
  obtain ⟨n, G, Y, w, hn, hG, hY⟩ := w.ex
  refine for_mirL w I k e h0 hn hG (fun i s x v σ' F' H' H'' g' i' hx y nx k' => ?_) kk
  obtain ⟨F'', g2, r⟩ := hY i x v F' H' H'' g' hx y
  exact hb s x v σ' F' H' F'' H'' g' i' g2 r nx k'
end
/-! ### comprehensions, three forms -/
theorem tYes_of {σ : L2.St} {H : Hp} {Q : Bool → Hp → Prop} (h : Q true H) : tYes σ H Q := h
def GMon (g : TG) : Prop := ∀ (v : V) (σ1 : L2.St) (H1 : Hp) (Q Q' : L2.St → Hp → Prop), (∀ s h, Q s h → Q' s h) → g v σ1 H1 Q → g v σ1 H1 Q'
def GsMon (g : TGs) : Prop := ∀ (v : List V) (σ1 : L2.St) (H1 : Hp) (Q Q' : L2.St → Hp → Prop), (∀ s h, Q s h → Q' s h) → g v σ1 H1 Q → g v σ1 H1 Q'
theorem gm_name {i : Nat} : GMon (gName i) := fun _ _ _ _ _ h q => h _ _ q
theorem gms_nil : GsMon gNil := fun _ _ _ _ _ h q => ⟨q.1, h _ _ q.2⟩
theorem gms_cons {t : TG} {u : TGs} (a : GMon t) (b : GsMon u) : GsMon (gCons t u) := fun _ _ _ _ _ h q => by
  obtain ⟨v, r, e, z⟩ := q
  exact ⟨v, r, e, a _ _ _ _ _ (fun s h' z' => b _ _ _ _ _ h z') z⟩
theorem gm_tup {K : PySem.W.Frag} {n : Nat} {t : TGs} (a : GsMon t) : GMon (gTup K n t) := fun _ _ _ _ _ h q => by
  obtain ⟨p, xs, e1, e2, e3, z⟩ := q
  exact ⟨p, xs, e1, e2, e3, a _ _ _ _ _ h z⟩

def mapMm {α γ : Type} (f : α → Mm γ) : List α → Mm (List γ)
  | [] => .ok []
  | x :: xs => (f x).bd fun y => (mapMm f xs).bd fun ys => .ok (y :: ys)
def filMm {α γ : Type} (f : α → Mm (Option γ)) : List α → Mm (List γ)
  | [] => .ok []
  | x :: xs => (f x).bd fun y => (filMm f xs).bd fun ys => .ok (y.toList ++ ys)
def mapSt {α γ S : Type} (f : S → α → Mm (γ × S)) : S → List α → Mm (List γ × S)
  | s, [] => .ok ([], s)
  | s, x :: xs => (f s x).bd fun y => (mapSt f y.2 xs).bd fun ys => .ok (y.1 :: ys.1, ys.2)
theorem bd_assoc {α β γ : Type} (m : Mm α) (f : α → Mm β) (g : β → Mm γ) : (m.bd f).bd g = m.bd fun a => (f a).bd g := by cases m <;> rfl
theorem bd_id {α : Type} (m : Mm α) : m.bd Mm.ok = m := by cases m <;> rfl
theorem filMm_comp {α γ : Type} (f : α → Mm (Option γ)) : ∀ l : List α, filMm f l = (compM (fun (_ : Unit) x => (f x).bd fun o => .ok (o, ())) () l).bd fun r => .ok r.1
  | [] => rfl
  | x :: xs => by
    simp only [filMm, compM, filMm_comp f xs, bd_assoc, bd_ok]
theorem mapMm_comp {α γ : Type} (f : α → Mm γ) : ∀ l : List α, mapMm f l = (compM (fun (_ : Unit) x => (f x).bd fun o => .ok (some o, ())) () l).bd fun r => .ok r.1
  | [] => rfl
  | x :: xs => by
    simp only [mapMm, compM, mapMm_comp f xs, bd_assoc, bd_ok, Option.toList, List.cons_append, List.nil_append]
theorem mapSt_comp {α γ S : Type} (f : S → α → Mm (γ × S)) : ∀ (s : S) (l : List α), mapSt f s l = compM (fun s x => (f s x).bd fun o => .ok (some o.1, o.2)) s l
  | _, [] => rfl
  | s, x :: xs => by
    simp only [mapSt, compM, bd_assoc, bd_ok, Option.toList, List.cons_append, List.nil_append]
    congr 1
    funext o
    rw [mapSt_comp f o.2 xs]
section
variable {K : PySem.W.Frag} {M : List Addr} {F H : Hp} {σ : L2.St} {g : TG} {tt : TT} {te : TE} {vs : List Nat} {α β γ S : Type} {l : List α} {ok : β → Prop} {ex : Er → Prop} {s0 : S} {J : It} {R : Hp → V → α → Prop} {Q : VK}
theorem lc_map {f : α → Mm γ} {rest : List γ → Mm β} (w : Wlk M F H J l R) (en : γ → PyData) (k : Post ((mapMm f l).bd rest) ok ex) (e : Ex F H) (hz : l.length ≤ 50000) (hM : ∀ D, H D = none → D ∉ M)
    (hb : ∀ x v F1 H1 F2 H2, Gm M F H F1 H1 → Gm [] F1 H1 F2 H2 → R F2 v x → ∀ Q : VK, Post (f x) (fun y => Ret M F1 H1 (fun F3 _ u => Dq K F3 u (en y)) Q) (fun _ => False) →
      g v (wipe σ vs) H2 fun σ2 H3 => wipe σ2 vs = wipe σ vs ∧ te σ2 H3 Q)
    (hx : ∀ e, ¬ ex e) (kk : ∀ (r : List γ) v F' H', Gm M F H F' H' → Dq K F' v (eL en r) → Post (rest r) ok ex → Q v H') (mono : GMon g) :
    ∀ D, H D = none → ∃ W : Nat → Nat → Hp → Prop, (∃ m, W 0 m (upd H D (.lst []))) ∧ ∀ i m H, W i m H →
      (J.stop i H ∧ Q (.ref D) H) ∨ (J.go i H ∧ ∃ Nx : Hp → Prop, (∀ H', Nx H' → ∃ m', m' < m ∧ W (i + 1) m' H') ∧ ∀ x H', J.yld i H x H' → g x (wipe σ vs) H' fun σ2 H2 => wipe σ2 vs = wipe σ vs ∧ tYes σ2 H2 fun b H3 =>
        if b = true then te σ2 H3 fun y H4 => ∃ acc, H4 D = some (.lst acc) ∧ acc.length < sizeLine ∧ Nx (upd H4 D (.lst (acc ++ [y]))) else Nx H3) := by
  obtain ⟨n, G, Y, w, hn, hG, hY⟩ := w.ex
  rw [mapMm_comp, bd_assoc] at k
  refine lc_mir w en (fun _ _ _ => True) k e trivial stab_t hn hz hG hM (fun i s x v F' H' H'' g' _ hx y Q' k' => ?_) hx (fun r v F' H' g' _ d k' => kk r.1 v F' H' g' d k')
  obtain ⟨F'', g2, r⟩ := hY i x v F' H' H'' g' hx y
  refine mono _ _ _ _ _ (fun σ2 H3 z => ⟨z.1, ?_⟩) (hb x v F' H' F'' H'' g' g2 r (fun u H4 => Q' (some u) H4) ((post_bd k').mono (fun y q u F3 H3 g3 d => q.h F3 H3 _ g3 trivial ⟨u, rfl, d⟩) fun _ z => z))
  exact tYes_of (iteT z.2)
theorem lc_st {f : Rw → α → Mm (γ × Rw)} {s0 : Rw} {rest : List γ × Rw → Mm β} {sc ra : Addr} {scr : List Int} (w : Wlk [ra] F H J l R) (en : γ → PyData) (k : Post ((mapSt f s0 l).bd rest) ok ex) (e : Ex F H) (hz : l.length ≤ 50000) (h0 : RowAt K sc ra scr F H s0)
    (hb : ∀ s x v F1 H1 F2 H2, Gm [ra] F H F1 H1 → RowAt K sc ra scr F1 H1 s → Gm [] F1 H1 F2 H2 → R F2 v x → ∀ Q : VK, Post (f s x) (fun y => Ret [ra] F1 H1 (fun F3 H3 u => Dq K F3 u (en y.1) ∧ RowAt K sc ra scr F3 H3 y.2) Q) (fun _ => False) →
      g v (wipe σ vs) H2 fun σ2 H3 => wipe σ2 vs = wipe σ vs ∧ te σ2 H3 Q)
    (hx : ∀ e, ¬ ex e) (kk : ∀ (r : List γ × Rw) v F' H', Gm [ra] F H F' H' → Dq K F' v (eL en r.1) ∧ RowAt K sc ra scr F' H' r.2 → Post (rest r) ok ex → Q v H') (mono : GMon g) :
    ∀ D, H D = none → ∃ W : Nat → Nat → Hp → Prop, (∃ m, W 0 m (upd H D (.lst []))) ∧ ∀ i m H, W i m H →
      (J.stop i H ∧ Q (.ref D) H) ∨ (J.go i H ∧ ∃ Nx : Hp → Prop, (∀ H', Nx H' → ∃ m', m' < m ∧ W (i + 1) m' H') ∧ ∀ x H', J.yld i H x H' → g x (wipe σ vs) H' fun σ2 H2 => wipe σ2 vs = wipe σ vs ∧ tYes σ2 H2 fun b H3 =>
        if b = true then te σ2 H3 fun y H4 => ∃ acc, H4 D = some (.lst acc) ∧ acc.length < sizeLine ∧ Nx (upd H4 D (.lst (acc ++ [y]))) else Nx H3) := by
  obtain ⟨n, G, Y, w, hn, hG, hY⟩ := w.ex
  rw [mapSt_comp] at k
  refine lc_mir w en (fun s F H => RowAt K sc ra scr F H s) k e h0 (stab_row h0) hn hz hG (row_notM h0) (fun i s x v F' H' H'' g' i' hx y Q' k' => ?_) hx (fun r v F' H' g' i' d k' => kk r v F' H' g' ⟨d, i'⟩ k')
  obtain ⟨F'', g2, r⟩ := hY i x v F' H' H'' g' hx y
  refine mono _ _ _ _ _ (fun σ2 H3 z => ⟨z.1, ?_⟩) (hb s x v F' H' F'' H'' g' i' g2 r (fun u H4 => Q' (some u) H4) ((post_bd k').mono (fun y q u F3 H3 g3 d => q.h F3 H3 _ g3 d.2 ⟨u, rfl, d.1⟩) fun _ z => z))
  exact tYes_of (iteT z.2)
end
end Wk

set_option Elab.async false
set_option linter.all false
set_option maxRecDepth 100000
set_option maxHeartbeats 4000000
namespace Wk
open PySem L2 Evl
theorem units_of {k : Nat} {A : Around} (r : Room k A) : A.units + 64 < cLine := r.units
theorem units_of2 {k : Nat} {A : Around} (r : Room k A) : A.units + 65 < cLine := by have := r.un; omega
def absI (i : Int) : Int := if i < 0 then -i else i
def maxI (i j : Int) : Int := if j > i then j else i
def minI (i j : Int) : Int := if j < i then j else i
theorem decV_int {i j : Int} : decide (V.int i = V.int j) = decide (i = j) := Bool.eq_iff_iff.mpr (by simp)
theorem decV_bl {i j : Bool} : decide (V.bl i = V.bl j) = decide (i = j) := Bool.eq_iff_iff.mpr (by simp)
theorem decV_str {i j : Str} : decide (V.str i = V.str j) = decide (i = j) := Bool.eq_iff_iff.mpr (by simp)
section
variable {K : PySem.W.Frag} {M : List Addr} {F F' H H' : Hp} {Q : VK} {α : Type} {en : α → PyData} {l l' : List α} {xs ys : List V} {a b p : Addr} {v : V} {ds : List PyData}
theorem none_O {o : Option α} (h : Dq K F v (eO en o)) (hn : ∀ a, en a ≠ .none := by intro a; exact fun h => nomatch h) : decide (v = .non) = o.isNone := by
  cases o with
  | none => cases h; rfl
  | some a =>
    refine decide_eq_false fun q => ?_
    subst q
    have h2 : Dq K F V.non (en a) := h
    have := hn a
    cases e : en a with
    | none => exact this e
    | _ => rw [e] at h2; cases h2
theorem chain_j {a b : Bool} {Q : VK} {σ : L2.St} {u : TE} {g : V → Hp → VK → Prop} (hu : a = true → ∀ Q' : VK, Q' (.bl b) H → u σ H fun w H' => g w H' Q') (k : Q (.bl (a && b)) H) :
    if a = true then u σ H (fun w H' => g w H' Q) else Q (.bl false) H := by
  cases a with
  | true => rw [if_pos rfl]; exact hu rfl Q k
  | false => rw [if_neg Bool.false_ne_true]; exact k
theorem len_all (h : DqAll K F xs (l.map en)) : (xs.length : Int) = (l.length : Int) := by rw [h.len, List.length_map]
theorem all_ints {l : List Int} (h : DqAll K F xs (l.map PyData.int)) : xs = l.map V.int := by
  induction l generalizing xs with
  | nil => cases h; rfl
  | cons i l ih => cases h with | cons h1 h2 => cases h1; rw [ih h2]; rfl
theorem ints_all : ∀ l : List Int, DqAll K F (l.map V.int) (l.map PyData.int)
  | [] => .nil
  | i :: l => .cons (.int i) (ints_all l)
theorem cat_len {l l' : List α} (h : DqAll K F xs (l.map en)) (h' : DqAll K F ys (l'.map en)) (hl : l.length + l'.length ≤ 100000) : xs.length + ys.length ≤ sizeLine := sz_of (by
  have := h.len
  have := h'.len
  rw [List.length_map] at *
  omega)
theorem new_lstC {l l' : List α} (e : Ex F H) (h : DqAll K F xs (l.map en)) (h' : DqAll K F ys (l'.map en)) (k : Ret M F H (fun F' _ v => Dq K F' v (eL en (l ++ l'))) Q) : ∀ p, H p = none → Q (.ref p) (upd H p (.lst (xs ++ ys))) := fun p hp => by
  have g : Gm M F H (upd F p (.lst (xs ++ ys))) (upd H p (.lst (xs ++ ys))) := Gm.new e hp
  refine k _ _ _ g (.lst upd_same ?_)
  rw [List.map_append]
  exact (h.app h').up g.f
/-- tuple + tuple -/
def rCatM (K : PySem.W.Frag) : R2 := rCatA K
theorem op_catM {X : Cx} : OpR X (binaryOp .Add) (rCatM X.K) := op_catA
theorem cat_tup {l l' : List α} (e : Ex F H) (s : SqT K F a xs) (h : DqAll K F xs (l.map en)) (s' : SqT K F b ys) (h' : DqAll K F ys (l'.map en)) (hl : l.length + l'.length ≤ 100000) (k : Ret M F H (fun F' _ v => Dq K F' v (eV en (l ++ l'))) Q) : rCatM K (.ref a) (.ref b) H Q := by
  refine ⟨a, b, xs, ys, rfl, rfl, ex_t e s, ex_t e s', cat_len h h' hl, fun q => ?_, fun _ q => ?_, fun _ _ p hp => ?_⟩
  · have hl0 : l = [] := by
      have := h.len
      rw [q, List.length_map] at this
      exact List.length_eq_zero_iff.mp this.symm
    exact k _ _ _ (Gm.refl e) (by rw [hl0]; exact .tup s' h')
  · have hl0 : l' = [] := by
      have := h'.len
      rw [q, List.length_map] at this
      exact List.length_eq_zero_iff.mp this.symm
    exact k _ _ _ (Gm.refl e) (by rw [hl0, List.append_nil]; exact .tup s h)
  · have g : Gm M F H (upd F p (.tup (xs ++ ys))) (upd H p (.tup (xs ++ ys))) := Gm.new e hp
    refine k _ _ _ g (.tup (st_of upd_same) ?_)
    rw [List.map_append]
    exact (h.app h').up g.f
/-- slices -/
def cutL {α : Type} (l : List α) (lo hi : Option Int) : List α := (l.drop (HT.sIx l.length 0 lo)).take (HT.sIx l.length l.length hi - HT.sIx l.length 0 lo)
theorem cut_all {lo hi : Option Int} (h : DqAll K F xs (l.map en)) : DqAll K F (cutV xs lo hi) ((cutL l lo hi).map en) := by
  have hl : xs.length = l.length := by rw [h.len, List.length_map]
  unfold cutV cutL
  rw [hl, List.map_take, List.map_drop]
  exact (h.drop _).take _
theorem cut_lst {lo hi : Option Int} (e : Ex F H) (s : F a = some (.lst xs)) (h : DqAll K F xs (l.map en)) (k : Ret M F H (fun F' _ v => Dq K F' v (eL en (cutL l lo hi))) Q) : rSlL K (.ref a) lo hi H Q :=
  ⟨a, xs, rfl, sq_of (e _ _ s), fun p hp => by
    have g : Gm M F H (upd F p (.lst (cutV xs lo hi))) (upd H p (.lst (cutV xs lo hi))) := Gm.new e hp
    exact k _ _ _ g (.lst upd_same ((cut_all h).up g.f))⟩
theorem sl_tupM {X : Cx} : SlR X (rSlA X.K) := sl_tupA
theorem cut_whole {α : Type} {l : List α} {lo hi : Option Int} (h : HT.sIx l.length 0 lo = 0 ∧ HT.sIx l.length l.length hi = l.length) : cutL l lo hi = l := by
  unfold cutL
  rw [h.1, h.2, List.drop_zero, Nat.sub_zero, List.take_length]
theorem cut_tup {lo hi : Option Int} (e : Ex F H) (s : SqT K F a xs) (h : DqAll K F xs (l.map en)) (k : Ret M F H (fun F' _ v => Dq K F' v (eV en (cutL l lo hi))) Q) : rSlA K (.ref a) lo hi H Q := by
  have hl : xs.length = l.length := by rw [h.len, List.length_map]
  refine ⟨a, xs, rfl, ex_t e s, fun q => ?_, fun _ p hp => ?_⟩
  · rw [hl] at q
    refine k _ _ _ (Gm.refl e) ?_
    rw [cut_whole q]
    exact .tup s h
  · have g : Gm M F H (upd F p (.tup (cutV xs lo hi))) (upd H p (.tup (cutV xs lo hi))) := Gm.new e hp
    exact k _ _ _ g (.tup (st_of upd_same) ((cut_all h).up g.f))
/-- list(x), tuple(x) -/
theorem to_LL (e : Ex F H) (s : F a = some (.lst xs)) (h : DqAll K F xs (l.map en)) (k : Ret M F H (fun F' _ v => Dq K F' v (eL en l)) Q) : ∃ p ys, [V.ref a] = [.ref p] ∧ (SqL K H p ys ∨ SqT K H p ys) ∧ ∀ l, H l = none → Q (.ref l) (upd H l (.lst ys)) :=
  ⟨a, xs, rfl, .inl (sq_of (e _ _ s)), fun p hp => by
    have g : Gm M F H (upd F p (.lst xs)) (upd H p (.lst xs)) := Gm.new e hp
    exact k _ _ _ g (.lst upd_same (h.up g.f))⟩
theorem to_LV (e : Ex F H) (s : SqT K F a xs) (h : DqAll K F xs (l.map en)) (k : Ret M F H (fun F' _ v => Dq K F' v (eL en l)) Q) : ∃ p ys, [V.ref a] = [.ref p] ∧ (SqL K H p ys ∨ SqT K H p ys) ∧ ∀ l, H l = none → Q (.ref l) (upd H l (.lst ys)) :=
  ⟨a, xs, rfl, .inr (ex_t e s), fun p hp => by
    have g : Gm M F H (upd F p (.lst xs)) (upd H p (.lst xs)) := Gm.new e hp
    exact k _ _ _ g (.lst upd_same (h.up g.f))⟩
theorem to_VL (e : Ex F H) (s : F a = some (.lst xs)) (h : DqAll K F xs (l.map en)) (k : Ret M F H (fun F' _ v => Dq K F' v (eV en l)) Q) :
    ∃ p ys, [V.ref a] = [.ref p] ∧ ((SqL K H p ys ∧ ∀ l, H l = none → Q (.ref l) (upd H l (.tup ys))) ∨ (SqT K H p ys ∧ Q (.ref p) H)) :=
  ⟨a, xs, rfl, .inl ⟨sq_of (e _ _ s), fun p hp => by
    have g : Gm M F H (upd F p (.tup xs)) (upd H p (.tup xs)) := Gm.new e hp
    exact k _ _ _ g (.tup (st_of upd_same) (h.up g.f))⟩⟩
theorem to_VV (e : Ex F H) (s : SqT K F a xs) (h : DqAll K F xs (l.map en)) (k : Ret M F H (fun F' _ v => Dq K F' v (eV en l)) Q) :
    ∃ p ys, [V.ref a] = [.ref p] ∧ ((SqL K H p ys ∧ ∀ l, H l = none → Q (.ref l) (upd H l (.tup ys))) ∨ (SqT K H p ys ∧ Q (.ref p) H)) :=
  ⟨a, xs, rfl, .inr ⟨ex_t e s, k _ _ _ (Gm.refl e) (.tup s h)⟩⟩
/-- of an own list -/
theorem to_VO (e : Ex F H) (o : H a = some (.lst xs)) (h : DqAll K F xs (l.map en)) (k : Ret M F H (fun F' _ v => Dq K F' v (eV en l)) Q) :
    ∃ p ys, [V.ref a] = [.ref p] ∧ ((SqL K H p ys ∧ ∀ l, H l = none → Q (.ref l) (upd H l (.tup ys))) ∨ (SqT K H p ys ∧ Q (.ref p) H)) :=
  ⟨a, xs, rfl, .inl ⟨sq_of o, fun p hp => by
    have g : Gm M F H (upd F p (.tup xs)) (upd H p (.tup xs)) := Gm.new e hp
    exact k _ _ _ g (.tup (st_of upd_same) (h.up g.f))⟩⟩
/-- a new own list -/
theorem new_own (e : Ex F H) (h : DqAll K F xs ds) (hl : xs.length ≤ 100000) (k : ∀ p H', Gm [] F H F H' → H p = none → (H' p = some (.lst xs) ∧ F p = none) → Q (.ref p) H') : xs.length ≤ sizeLine ∧ ∀ p, H p = none → Q (.ref p) (upd H p (.lst xs)) :=
  ⟨sz_of hl, fun p hp => k p _ (Gm.newM e hp) hp ⟨upd_same, by
    cases q : F p with
    | none => rfl
    | some u => rw [e p u q] at hp; cases hp⟩⟩
theorem own_sz (h : DqAll K F xs (l.map en)) (hl : l.length < 100000) : xs.length < sizeLine := sz_lt (by rw [h.len, List.length_map]; exact hl)
theorem RowAt.put {sc ra : Addr} {scr : List Int} {st : Rw} {o : HO} (w : RowAt K sc ra scr F H st) (h : ra ≠ p) : RowAt K sc ra scr F (upd H p o) st := ⟨by rw [upd_ne h]; exact w.1, w.2.1, w.2.2⟩
theorem RowAt.fix {sc ra : Addr} {scr : List Int} {st : Rw} {o : HO} (w : RowAt K sc ra scr F H st) (h : ra ≠ p) (u : Ex F (upd F p o)) : RowAt K sc ra scr (upd F p o) H st := ⟨w.1, by rw [upd_ne h]; exact w.2.1, ex_l u w.2.2⟩
end
section
variable {X : Cx}
theorem call_lenM : CallR X (.builtin "len") (fun xs H Q => ∃ p ys n, xs = [.ref p] ∧ (SqL X.K H p ys ∨ SqT X.K H p ys) ∧ (ys.length : Int) = n ∧ Q (.int n) H) := by
  intro pins s σ H vs us Q I r h
  obtain ⟨p, ys, n, rfl, hq, rfl, q⟩ := h
  exact call_len_seq pins s σ H _ us Q I r ⟨p, ys, rfl, hq, q⟩
theorem call_intM : CallR X (.type "int") (fun xs H Q => ∃ i, xs = [.int i] ∧ Q (.int i) H) := by
  intro pins s σ H vs us Q I r h
  exact call_int1 pins s σ H vs us Q I r (.inl h)
section
variable {α : Type} [DecidableEq α] {f : α → PyData} {n : Nat}
def hasM {α : Type} [DecidableEq α] (l : List α) (a : α) : Bool := l.contains a
def rInM (K : PySem.W.Frag) (f : α → PyData) : R2 := fun x y H Q => ∃ (a : α) (l : List α), Dp K H x (f a) ∧ Dp K H y (eL f l) ∧ Q (.bl (hasM l a)) H
def rNotInM (K : PySem.W.Frag) (f : α → PyData) : R2 := fun x y H Q => ∃ (a : α) (l : List α), Dp K H x (f a) ∧ Dp K H y (eL f l) ∧ Q (.bl (!hasM l a)) H
theorem any_eqv (s : Sh f n) (a : α) (l : List α) : (l.map f).any (fun z => PyData.eqv z (f a)) = l.contains a := by
  induction l with
  | nil => rfl
  | cons b l ih =>
    rw [List.map_cons, List.any_cons, ih, List.contains_cons, s.eq]
    congr 1
    exact Bool.eq_iff_iff.mpr (by simp only [decide_eq_true_eq, beq_iff_eq]; exact ⟨Eq.symm, Eq.symm⟩)
theorem op_inM (s : Sh f n) (hu : X.A.units + 65 < cLine) (hn : n + 1 ≤ 64 := by decide) : OpR X (compareOp .In) (rInM X.K f) := by
  intro pins st σ H x y v u Q I rx ry h
  obtain ⟨a, l, ha, hl, q⟩ := h
  refine op_inD hu pins st σ H x y v u Q I rx ry ⟨f a, l.map f, ha, hl, s.shaped (by omega) a, (sh_eL s).shaped hn l, ?_⟩
  rw [any_eqv s]
  exact q
theorem op_notInM (s : Sh f n) (hu : X.A.units + 65 < cLine) (hn : n + 1 ≤ 64 := by decide) : OpR X (compareOp .NotIn) (rNotInM X.K f) := by
  intro pins st σ H x y v u Q I rx ry h
  obtain ⟨a, l, ha, hl, q⟩ := h
  refine op_notInD hu pins st σ H x y v u Q I rx ry ⟨f a, l.map f, ha, hl, s.shaped (by omega) a, (sh_eL s).shaped hn l, ?_⟩
  rw [any_eqv s]
  exact q
end
end
end Wk

set_option Elab.async false
set_option linter.all false
set_option maxRecDepth 100000
set_option maxHeartbeats 4000000
namespace Wk
open PySem L2 Evl PySem.Spec PyProof.Rows
/-! ### enumerate of a tuple -/
theorem meets_enT (a : Addr) (its : Array Value) :
    Meets (Builtin.«enumerate.__new__» ⟨[.type "enumerate", .ref a], []⟩) (fun _ R z => z.heap.IsTuple a its ∧
      R (.ok (.ret (.ref (z.heap.push { cls := .type "tuple_iterator", data := .fields #[.ref a, .int 0 0] }).objs.size)))
        { z with heap := (z.heap.push { cls := .type "tuple_iterator", data := .fields #[.ref a, .int 0 0] }).push { cls := .type "enumerate", data := .fields #[.none, .bool false, .ref z.heap.objs.size, rawInt 0, .none, .none] } }) :=
  .of_wp fun prog w A R z h => by
    obtain ⟨hp, ge, dr, tk, os⟩ := z
    obtain ⟨ht, h⟩ := h
    have sub := sub_enumerate
    have ht' : Heap.IsTuple (Shared.heap ⟨hp, ge, dr, tk, os⟩) a its := ht
    obtain ⟨⟨c, dd, dt, sl⟩, hl, hc, n, hd⟩ := ht
    replace hc : c = .type "tuple" := hc
    replace hd : dt = .seq its n := hd
    subst hc hd
    wp_walk using AutoSeq1.wpAny_loadPart' hl
    refine wpAny_stack_any fun st => wpAny_pure ?_
    split
    · rename_i c _ _ _ _ _
      cases (c == Value.type "enumerate")
      all_goals
        wp_walk using AutoSeq1.wpAny_loadPart' hl, wpAny_pyIter_tuple ht'
        exact ⟨_, rfl, h⟩
    · wp_walk using AutoSeq1.wpAny_loadPart' hl, wpAny_pyIter_tuple ht'
      exact ⟨_, rfl, h⟩
section
variable {prog : Program} {w : World} {A : Around} {E : Value → Shared → Prop} {z : Shared}
theorem call_enT {a : Addr} {its : Array Value} {Q : Value → Shared → Prop} (ht : z.heap.IsTuple a its)
    (h : ∀ h', IsEnum h' (z.heap.objs.size + 1) z.heap.objs.size 0 .none → h'.IsTupleIter z.heap.objs.size a 0 → h'.objs.size = z.heap.objs.size + 2 →
      (∀ c o, z.heap.get? c = some o → h'.get? c = some o) → Q (.ref (z.heap.objs.size + 1)) { z with heap := h' }) :
    wpAny (model prog w) A (call (.type "enumerate") [.ref a]) Q E z := by
  refine callType_new F.called_enumerate (by decide) (F.typeCall_enumerate_1 _) (F.newCall_enumerate_1 _) (fun ob => F.args_object_init_2 ob _) F.entry_enumerate_new (meets_enT a its) ⟨ht, ?_⟩
  have sz : (z.heap.push { cls := .type "tuple_iterator", data := .fields #[.ref a, .int 0 0] }).objs.size = z.heap.objs.size + 1 := Heap.size_push ..
  show _ ∧ _
  rw [sz]
  have en : IsEnum ((z.heap.push { cls := .type "tuple_iterator", data := .fields #[.ref a, .int 0 0] }).push
      { cls := .type "enumerate", data := .fields #[.none, .bool false, .ref z.heap.objs.size, rawInt 0, .none, .none] }) (z.heap.objs.size + 1) z.heap.objs.size 0 .none := by
    have q := Heap.get?_push_size (z.heap.push { cls := .type "tuple_iterator", data := .fields #[.ref a, .int 0 0] })
      (o := { cls := .type "enumerate", data := .fields #[.none, .bool false, .ref z.heap.objs.size, rawInt 0, .none, .none] }) rfl
    rw [sz] at q
    exact q
  exact ⟨⟨_, en, rfl⟩, h _ en ⟨_, Heap.get?_push_of_some _ (Heap.get?_push_size _ rfl), rfl, rfl⟩ (by rw [Heap.size_push, sz]) fun c o x => Heap.get?_push_of_some _ (Heap.get?_push_of_some _ x)⟩
end
theorem end_enT {prog : Program} {w : World} {A : Around} {E : Value → Shared → Prop} {z : Shared} {e it a : Addr} {i : Nat} {its : Array Value} {old : Value} {Q : Option Value → Shared → Prop} (hh : A.handled = none)
    (he : IsEnum z.heap e it i old) (hit : z.heap.IsTupleIter it a i) (ht : z.heap.IsTuple a its) (hx : its[i]? = none)
    (hQ : ∀ h', Heap.ExtBut it z.heap h' → Q none { z with heap := h' }) : wpAny (model prog w) A (pyNext (.ref e)) Q E z := by
  have ty : z.TypeIs (.ref e) "enumerate" := ⟨_, he, rfl⟩
  unfold pyNext
  refine wpAny_bind (wpAny_attempt (wpAny_callSpecial?_slot (name := Str.ofString "__next__") ty F.slot_enumerate_next (wpAny_call_entry F.slot_enumerate_next ty F.entry_enumerate_next ?_ (F.args_enumerate_next_1 _))))
  show wpAny _ _ (field (.ref e) 2 >>= _) _ _ _
  refine wpAny_bind (wpAny_field he rfl (x := .ref it) rfl ?_)
  refine wpAny_bind (wpAny_nextOf_tuple_end hh hit ht hx fun h' x he' hx' => ?_)
  obtain ⟨o, ho, hc⟩ := hx'
  exact wpAny_bind (wpAny_isInstance (T := "StopIteration") (b := true) ⟨o, ho, hc⟩ isSubtype_stop (wpAny_pure (hQ _ he')))
/-- the tuple at a, each item in a new pair -/
def IteT (K : PySem.W.Frag) (a : Addr) : It :=
  ⟨fun i H => ∃ (xs : List V) (x : V), SqT K H a xs ∧ xs[i]? = some x, fun i H v H' => ∃ T x, v = .ref T ∧ H T = none ∧ H' = upd H T (.tup [.int (i : Nat), x]) ∧ ∀ xs, SqT K H a xs → xs[i]? = some x, fun i H => ∃ xs : List V, SqT K H a xs ∧ xs.length ≤ i⟩
theorem turn_enT {P : Program} {w : World} {K : PySem.W.Frag} {es : List Expr} {kk : Nat} {tp : Pos} (a e it : Addr) (hai : a ≠ it) :
    Turn P w K (.Tuple es kk tp) (IteT K a) [e, it] e (fun i h => (∃ old, IsEnum h e it ((i : Nat) : Int) old) ∧ h.IsTupleIter it a i ∧ e ≠ it) where
  mem := by simp
  obj := fun i h st b hb => by
    obtain ⟨⟨old, he⟩, ⟨o, ho, hc, hd⟩, _⟩ := st
    rcases (show b = e ∨ b = it by simpa using hb) with q | q
    · rw [q]
      exact ⟨_, he, fun v q => nomatch q⟩
    · rw [q]
      exact ⟨o, ho, fun v q => by rw [hd] at q; cases q⟩
  keep := fun i h h' st k => by
    obtain ⟨⟨old, he⟩, hi, hne⟩ := st
    exact ⟨⟨old, k e (by simp) _ he⟩, hi.at fun o q => k it (by simp) o q, hne⟩
  item := by
    intro X hP hw hK hc i pins s σ H E I hf st hg
    subst hP hw hK
    obtain ⟨⟨old, he⟩, hit, hne⟩ := st
    obtain ⟨xs, x, hq, hx⟩ := hg
    obtain ⟨its, rv, p, hz⟩ := I.tuple hq
    obtain ⟨u, hu, ru⟩ := rv.get hx
    have le : e < s.heap.objs.size := Heap.lt_size he
    have li : it < s.heap.objs.size := by
      obtain ⟨_, q, _⟩ := hit
      exact Heap.lt_size q
    have pT : s.heap.IsTuple a its.toArray := p
    have D := (Draws.tuple (prog := X.prog) (w := X.w) (A := X.A.in1) (show X.A.in1.handled = none from I.ok.hd hc) it a hai its.toArray)
    have hi : i < its.toArray.size := by
      have := (List.getElem?_eq_some_iff.mp hu).1
      simpa using this
    have hnm : e ∉ [it, a] := fun hm => by
      rcases (show e = it ∨ e = a by simpa using hm) with q | q
      · exact hne q
      · obtain ⟨o1, q1, c1, _⟩ := pT
        rw [← q, he] at q1
        cases q1
        exact nomatch (show Value.type "enumerate" = Value.type "tuple" from c1) 
    refine wpAny_pyNext_enum_itemD D he ⟨hit, pT⟩ hi hne hnm fun y h' tk hy ho ht' hT hsz hk => ?_
    · have ey : u = y := by
        have hu' : its.toArray[i]? = some u := by simpa using hu
        rw [hy] at hu'
        exact (Option.some.inj hu').symm
      subst ey
      obtain ⟨hit', _⟩ := ht'
      refine ⟨_, rfl, wpAny_letOwnedTupleGo_enum (s := { s with heap := h', toks := tk + 1 }) ho fun h'' he' sb => ?_⟩
      have hT2 : h''.get? s.heap.objs.size = some { cls := .type "tuple", data := .seq #[.int i tk, u] } := (sb.2 _ (Nat.ne_of_gt le)).trans hT
      have new : ObjOk X.prog X.w (upd H s.heap.objs.size (.tup [.int (i : Nat), x])) h'' s.heap.objs.size (.tup [.int (i : Nat), x]) :=
        ⟨by show 2 ≤ sizeLine; decide, [.int i tk, u], .cons ⟨_, rfl⟩ (.cons ru .nil), ⟨_, hT2, rfl, _, rfl⟩⟩
      have J : Inv X pins σ (upd H s.heap.objs.size (.tup [.int (i : Nat), x])) { s with heap := h'', toks := tk + 1 } :=
        I.turnedNew (ch := [e, it]) (fun b ob hb q => (sb.2 b (fun q2 => hb (by simp [q2]))).trans (hk b ob (fun q2 => hb (by simp [q2])) (fun q2 => hb (by simp [q2])) q)) hf (Nat.le_refl _) new
      refine ⟨.ref s.heap.objs.size, _, J, rfl, ⟨_, x, rfl, I.hok.fresh (Nat.le_refl _), rfl, fun ys hy => by rw [I.tuple_inj hy hq]; exact hx⟩, ⟨⟨u, ?_⟩, hit'.at fun o q => (sb.2 it (Ne.symm hne)).trans q, hne⟩, fun b hb => ?_⟩
      · have e1 : ((i + 1 : Nat) : Int) = (i : Int) + 1 := by omega
        rw [e1]
        exact he'
      · have lb : b < s.heap.objs.size := by
          rcases (show b = e ∨ b = it by simpa using hb) with q | q
          · rw [q]; exact le
          · rw [q]; exact li
        rw [upd_ne (Nat.ne_of_lt lb)]
        exact (hf b hb).1
  done := by
    intro X hP hw hK hc i pins s σ H E I hf st hg
    subst hP hw hK
    obtain ⟨⟨old, he⟩, hit, hne⟩ := st
    obtain ⟨xs, hq, hx⟩ := hg
    obtain ⟨its, rv, p, hz⟩ := I.tuple hq
    obtain ⟨f0, f1, f2, f3, f4, f5⟩ := hf it (by simp)
    have hl := rv.length
    have pT : s.heap.IsTuple a its.toArray := p
    refine end_enT (I.ok.hd hc) he hit pT (by simp; omega) fun h' eb => ⟨rfl, I.turned (t' := s.toks) (fun b o hb q => eb b o hb q) f0 f1 f3 f4 f5⟩
  self := fun A i s Q E st h => by
    obtain ⟨⟨_, he⟩, _⟩ := st
    exact wpAny_pyIter_enum he h
def iEnT (K : PySem.W.Frag) (ta : TA) : TI := fun σ H R => ta σ H fun vs H1 => ∃ a xs, vs = [.ref a] ∧ SqT K H1 a xs ∧ R (IteT K a) H1
theorem pi_enumT {X : Cx} {e : Expr} {ta : TA} {p pos tp : Pos} {es : List Expr} {kk : Nat} (hg : Gl X "enumerate") (hm : X.mg "enumerate" = none) (ha : PA X [e] ta) (hs : starEach [e] X.env = [(false, eval e X.env)] := by rfl) :
    PI X (.Tuple es kk tp) (.Call (.Name "enumerate" p) [e] [] pos) (iEnT X.K ta) := by
  refine ⟨fun pins s σ H R I h => ?_⟩
  refine Call_ (ld_blt I hg hm boot_enumerate (PyProof.Rows.callWith_type1 (thn (ha.run pos pins s σ H _ I h) fun us s1 hh => ?_) hs rfl))
  obtain ⟨vs, H1, I1, r1, a, xs, ex, hq, q⟩ := hh
  subst ex
  cases r1 with
  | cons r rr =>
    cases rr
    cases r
    obtain ⟨its, rv, p', hz⟩ := I1.tuple hq
    have pT : s1.heap.IsTuple a its.toArray := p'
    have la : a < s1.heap.objs.size := by
      obtain ⟨o, q, _⟩ := pT
      exact Heap.lt_size q
    refine call_enT pT fun h' he hit hsz hk => wpAny_pyIter_enum he ?_
    have I2 : Inv X pins σ H1 { s1 with heap := h' } := I1.kept (t' := s1.toks) hk
    refine ⟨s1.heap.objs.size + 1, [s1.heap.objs.size + 1, s1.heap.objs.size], _, _, H1, rfl, I2, turn_enT a (s1.heap.objs.size + 1) s1.heap.objs.size (Nat.ne_of_lt la), ⟨⟨.none, he⟩, hit, Nat.succ_ne_self _⟩, fun b hb => ?_, q⟩
    have hle : s1.heap.objs.size ≤ b := by
      rcases (show b = s1.heap.objs.size + 1 ∨ b = s1.heap.objs.size by simpa using hb) with z | z
      · rw [z]; exact Nat.le_succ _
      · rw [z]; exact Nat.le_refl _
    exact I1.fpOk hle (I1.hok.fresh hle)
section
variable {K : PySem.W.Frag} {M : List Addr} {F H : Hp} {α : Type} {xs : List V} {l : List α} {en : α → PyData} {a : Addr}
theorem wlk_enumT (e : Ex F H) (h : SqT K F a xs) (da : DqAll K F xs (l.map en)) : Wlk M F H (IteT K a) (enumL l) (fun F v x => Dq K F v (e2 PyData.int en x)) := by
  have hl : xs.length = l.length := by rw [da.len, List.length_map]
  refine ⟨xs.length, fun H => SqT K H a xs, YPair (fun i => some (.int (i : Nat))) (fun i => xs[i]?), ⟨fun i _ hi q => ⟨xs, xs[i], q, by simp [hi]⟩, fun _ q => ⟨xs, q, Nat.le_refl _⟩, fun i H v H' _ q y => ?_⟩, by simp [enumL, rangeL, hl], fun F' H' g' => ex_t g'.s (ex_t g'.f h), fun i x v F' H' H'' g' hx y => ?_⟩
  · obtain ⟨T, x, h1, h2, h3, h4⟩ := y
    exact ⟨T, .int (i : Nat), x, h1, h2, h3, rfl, h4 xs q⟩
  · obtain ⟨T, u, w, rfl, hT, rfl, h1, h2⟩ := y
    obtain ⟨d, hd, hq⟩ := (da.up g'.f).getV h2
    obtain ⟨x1, x2⟩ := x
    unfold enumL at hx
    rw [List.getElem?_zip_eq_some] at hx
    obtain ⟨hx1, hx2⟩ := hx
    have e1 := rangeL_at hx1
    simp only at e1 hx2
    rw [List.getElem?_map, hx2] at hd
    cases hd
    cases h1
    have g2 : Gm [] F' H' (upd F' T (.tup [V.int (i : Nat), w])) (upd H' T (.tup [V.int (i : Nat), w])) := Gm.new g'.s hT
    refine ⟨_, g2, .tup (st_of upd_same) (.cons ?_ (.cons (hq.up g2.f) .nil))⟩
    rw [e1, Int.zero_add]
    exact .int _
end
end Wk

set_option Elab.async false
set_option linter.all false
set_option maxRecDepth 100000
set_option maxHeartbeats 4000000
namespace Wk
open PySem L2 Evl PySem.Spec PyProof.Rows
/-! ### set(a list of ints), sorted -/
abbrev emS (w : World) : Obj := { cls := .type "set", dict := none, data := .set #[] 0 (.fresh 0 0 (!w.params.followText "set-order")) }
section
variable {P : Program} {w : World} {A : Around} {E : Value → Shared → Prop} {z : Shared}
theorem call_set_li {u : Addr} {its : Array Value} (ks : List Int) {Q : Value → Shared → Prop} (hh : A.handled = none) (hl : z.heap.IsList u its) (hit : IntsAre its.toList ks) (hb : ks.length + 1 < scanBound)
    (h : ∀ (h' : Heap) (tk c : Nat), SetR w h' z.heap.objs.size (fun j => decide (j ∈ ks)) c → c ≤ ks.length → (∀ b o, z.heap.get? b = some o → h'.get? b = some o) → Q (.ref z.heap.objs.size) { z with heap := h', toks := tk }) :
    wpAny (model P w) A (call (.type "set") [.ref u]) Q E z := by
  have sz : its.size = ks.length := by
    have q := IntsAre.length hit
    rwa [Array.length_toList] at q
  obtain ⟨c, tl, hmro⟩ := F.called_set.mro
  have made := F.called_set.made
  have sub := F.called_set.sub
  refine wpAny_call (codeAny_of_tree ?_); (show wpAny _ _ (callAny (.type "set") _) _ _ _)
  refine wpAny_pure ⟨Code.quiet_builtin _ (by decide +kernel), codeAny_builtin F.entry_type_call ?_⟩; rw [Around.under_plain (weight_type_call_type "set" [.ref u] []) rfl]
  have n1 := F.called_set.notType
  have n2 := F.called_set.canCreate
  have n3 := F.typeCall_set_1 (.ref u)
  repeat (any_goals (first | assumption | wp_step))
  refine codeAny_mono (code_set_led1 (.ref u) (E := E) (Q₁ := fun ob z1 => ob = .ref z.heap.objs.size ∧ z1 = { z with heap := z.heap.push (emS w) }) ⟨rfl, rfl⟩) fun r z1 hr => ?_
  cases r with
  | error e => exact hr
  | ok fl =>
    cases fl with
    | ret ob =>
      obtain ⟨rfl, rfl⟩ := hr
      have atS : (z.heap.push (emS w)).get? z.heap.objs.size = some (emS w) := Heap.get?_push_size _ rfl
      have tyS : Shared.TypeIs { z with heap := z.heap.push (emS w) } (.ref z.heap.objs.size) "set" := ⟨_, atS, rfl⟩
      have i1 := F.called_set.init.lookup
      have i2 := F.called_set.init.bind (.ref z.heap.objs.size)
      repeat (any_goals (first | assumption | wp_step))
      refine codeAny_mono (codeAny_call_builtin (R := wants (fun r z2 => r = .none ∧ ∃ h' tk c, z2 = { z with heap := h', toks := tk } ∧ SetR w h' z.heap.objs.size (fun j => decide (j ∈ ks)) c ∧ c ≤ ks.length ∧
          (∀ b o, z.heap.get? b = some o → h'.get? b = some o)) E) F.called_set.init.plain F.entry_set_init (check_set_init_1 tyS ?_)) fun r2 z2 hr2 => ?_
      · obtain ⟨ol, hol, hcl, nl, hdl⟩ := hl
        obtain ⟨oc, od, dt, sl⟩ := ol
        simp only at hcl hdl
        subst hcl
        subst hdl
        have atU : (z.heap.push (emS w)).get? u = some { cls := .type "list", dict := od, data := .seq its nl, slots := sl } := Heap.get?_push_of_some _ hol
        have no1 := F.sub_list_set
        have no2 := F.sub_list_frozenset
        have no3 : (Value.type "list" == Value.type "dict") = false := by decide
        have isl : (z.heap.push (emS w)).IsList u its := ⟨_, atU, rfl, nl, rfl⟩
        unfold Builtin.«set.__init__» noKeywords Builtin.Frozenset.updateFrom
        generalize hPI : pyIter = pI
        wp_walk
        subst hPI
        refine wpAny_pyIter_list isl ?_
        refine wpAny_bind (wpAny_runValue ?_)
        have lu : u < z.heap.objs.size := Heap.lt_size hol
        have h3 : A.in1.in1.in1.handled = none := by simp [hh]
        have ux : u ≠ (z.heap.push (emS w)).objs.size := by rw [Heap.size_push]; exact Nat.ne_of_lt (Nat.lt_succ_of_lt lu)
        have nf : z.heap.objs.size ∉ [(z.heap.push (emS w)).objs.size, u] := by
          rw [Heap.size_push]
          simp only [List.mem_cons, List.mem_singleton, List.not_mem_nil, or_false, not_or]
          exact ⟨Nat.ne_of_lt (Nat.lt_succ_self _), Nat.ne_of_gt lu⟩
        have val : ∀ (i : Nat) (v : Value), its[i]? = some v → ∃ k t, ks[i]? = some k ∧ v = .int k t := fun i v hv => by
          have hi : i < ks.length := by rw [← sz]; exact (Array.getElem?_eq_some_iff.mp hv).1
          obtain ⟨t, e⟩ := PyProof.Rows.IntsAre.int_at hit i v (by rw [Array.getElem?_toList]; exact hv)
          refine ⟨ks[i], t, List.getElem?_eq_getElem hi, ?_⟩
          rw [e, List.getD_eq_getElem?_getD, List.getElem?_eq_getElem hi]
          all_goals rfl
        refine set_update_ints ((Walks.list h3 _ u ux its).toS) z.heap.objs.size nf ks sz hb val (its.size - 0) 0 _ (by omega) (Nat.zero_le _) ⟨⟨_, Heap.get?_push_size _ rfl, rfl, rfl⟩, (isl.push _)⟩ ?a0 ?a1
        case a0 =>
          have q : ((z.heap.push (emS w)).push { cls := .type "list_iterator", data := .fields #[.ref u, .int 0 0] }).get? z.heap.objs.size = some (emS w) := Heap.get?_push_of_some _ atS
          exact ⟨0, Nat.le_refl 0, setR_new_at q⟩
        case a1 =>
          intro z3 c' hm hc' hS'
          obtain ⟨h', g2, d', tk', os'⟩ := z3
          have eg : g2 = z.gens := hm.gens
          have ed : d' = z.drawn := hm.drawn
          have eo : os' = z.os := hm.os
          subst eg; subst ed; subst eo
          (show wpAny _ _ _ _ _ _); refine wpAny_pure ?_
          show wpAny _ _ (ret Value.none) _ _ _
          rw [sz] at hc'
          refine wpAny_pure ⟨rfl, h', tk', c', rfl, hS', hc', fun b o e => ?_⟩
          have b0 : b < z.heap.objs.size := Heap.lt_size e
          have b2 : b ≠ (z.heap.push (emS w)).objs.size := by rw [Heap.size_push]; exact Nat.ne_of_lt (Nat.lt_succ_of_lt b0)
          exact hm.heap b o (by simp only [List.mem_cons, List.mem_singleton, List.not_mem_nil, or_false, not_or]; exact ⟨Nat.ne_of_lt b0, b2⟩) (Heap.get?_push_of_some _ (Heap.get?_push_of_some _ e))
      · cases r2 with
        | error e => exact hr2
        | ok f2 => cases f2 with
          | ret r =>
            obtain ⟨rfl, h', tk, c', rfl, hS', hc', hk'⟩ := hr2
            repeat (any_goals (first | assumption | wp_step))
            exact h h' tk c' hS' hc' hk'
          | _ => exact False.elim hr2
    | _ => exact False.elim hr
end
end Wk

set_option Elab.async false
set_option linter.all false
set_option maxRecDepth 100000
set_option maxHeartbeats 4000000
namespace Wk
open PySem L2 Evl PySem.Spec PyProof.Rows
section
variable {X : Cx}
/-- set(a list of ints) -/
def rSetM (w : World) (K : PySem.W.Frag) : List V → Hp → VK → Prop := fun vs H Q => ∃ (a : Addr) (ns : List Int), vs = [.ref a] ∧ SqL K H a (ns.map V.int) ∧ ns.length < 64 ∧
  ∀ p c, H p = none → c ≤ ns.length → Q (.ref p) (upd H p (SetO w p (fun j => decide (j ∈ ns)) c))
theorem cr_setM (hcalm : X.calm = true) : CallR X (.type "set") (rSetM X.w X.K) := by
  intro pins s σ H vs us Q I r h
  obtain ⟨a, ns, rfl, hq, h64, q⟩ := h
  cases r with
  | cons r rr =>
    cases rr
    cases r
    obtain ⟨its, rv, pl, hz⟩ := I.list hq
    refine call_set_li ns (I.ok.hd hcalm) pl.isList (by simpa using rv.ints) (by unfold scanBound; omega) fun h' tk c hS hc hk => ?_
    have J : Inv X pins σ (upd H s.heap.objs.size (SetO X.w s.heap.objs.size (fun j => decide (j ∈ ns)) c)) { s with heap := h', toks := tk } := I.laid hk (Nat.le_refl _) (setO_new hS)
    exact ⟨.ref s.heap.objs.size, _, J, rfl, q _ c (I.hok.fresh (Nat.le_refl _)) hc⟩
end
/-! ### a sorted set -/
def insU (x : Int) : List Int → List Int
  | [] => [x]
  | y :: l => if x < y then x :: y :: l else if x = y then y :: l else y :: insU x l
def sortedSet (l : List Int) : List Int := l.foldr insU []
theorem mem_insU (x k : Int) : ∀ l, k ∈ insU x l ↔ k = x ∨ k ∈ l
  | [] => by simp [insU]
  | y :: l => by
    unfold insU
    split
    · simp
    · split
      · rename_i h
        subst h
        simp
      · simp only [List.mem_cons, mem_insU x k l]
        constructor
        · rintro (h | h | h)
          · exact .inr (.inl h)
          · exact .inl h
          · exact .inr (.inr h)
        · rintro (h | h | h)
          · exact .inr (.inl h)
          · exact .inl h
          · exact .inr (.inr h)
theorem asc_insU (x : Int) : ∀ l : List Int, l.Pairwise (· < ·) → (insU x l).Pairwise (· < ·)
  | [], _ => by simp [insU]
  | y :: l, h => by
    obtain ⟨h1, h2⟩ := List.pairwise_cons.mp h
    unfold insU
    split
    · rename_i q
      refine List.pairwise_cons.mpr ⟨fun a ha => ?_, h⟩
      rcases List.mem_cons.mp ha with e | e
      · rw [e]; exact q
      · exact Int.lt_trans q (h1 a e)
    · split
      · exact h
      · refine List.pairwise_cons.mpr ⟨fun a ha => ?_, asc_insU x l h2⟩
        rcases (mem_insU x a l).mp ha with e | e
        · rw [e]; omega
        · exact h1 a e
theorem mem_sortedSet (k : Int) : ∀ l : List Int, k ∈ sortedSet l ↔ k ∈ l
  | [] => by simp [sortedSet]
  | x :: l => by
    show k ∈ insU x (sortedSet l) ↔ _
    rw [mem_insU, mem_sortedSet k l, List.mem_cons]
theorem asc_sortedSet : ∀ l : List Int, (sortedSet l).Pairwise (· < ·)
  | [] => List.Pairwise.nil
  | x :: l => asc_insU x _ (asc_sortedSet l)
/-- two ascending lists of the same members are one -/
theorem asc_unique : ∀ l r : List Int, l.Pairwise (· < ·) → r.Pairwise (· < ·) → (∀ k, k ∈ l ↔ k ∈ r) → l = r
  | [], [], _, _, _ => rfl
  | [], y :: r, _, _, h => absurd ((h y).mpr (List.mem_cons_self ..)) (by simp)
  | x :: l, [], _, _, h => absurd ((h x).mp (List.mem_cons_self ..)) (by simp)
  | x :: l, y :: r, hl, hr, h => by
    obtain ⟨l1, l2⟩ := List.pairwise_cons.mp hl
    obtain ⟨r1, r2⟩ := List.pairwise_cons.mp hr
    have e : x = y := by
      have hx : x = y ∨ x ∈ r := List.mem_cons.mp ((h x).mp (List.mem_cons_self ..))
      have hy : y = x ∨ y ∈ l := List.mem_cons.mp ((h y).mpr (List.mem_cons_self ..))
      rcases hx with q | q
      · exact q
      · rcases hy with q' | q'
        · exact q'.symm
        · have := r1 x q
          have := l1 y q'
          omega
    subst e
    rw [asc_unique l r l2 r2 fun k => ?_]
    constructor
    · intro hk
      rcases List.mem_cons.mp ((h k).mp (List.mem_cons_of_mem _ hk)) with q | q
      · have := l1 k hk
        omega
      · exact q
    · intro hk
      rcases List.mem_cons.mp ((h k).mpr (List.mem_cons_of_mem _ hk)) with q | q
      · have := r1 k hk
        omega
      · exact q
section
variable {K : PySem.W.Frag} {M : List Addr} {F H : Hp} {Q : VK} {w : World} {a : Addr} {l : List Int}
theorem sorted_set (e : Ex F H) (s : F a = some (.lst (l.map V.int))) (hl : l.length < 64) (k : Ret M F H (fun F' _ v => Dq K F' v (eL PyData.int (sortedSet l))) Q) :
    ∃ (a' : Addr) (ns : List Int), [V.ref a] = [.ref a'] ∧ SqL K H a' (ns.map V.int) ∧ ns.length < 64 ∧ ∀ p c, H p = none → c ≤ ns.length → rSortedSet w [.ref p] (upd H p (SetO w p (fun j => decide (j ∈ ns)) c)) Q := by
  refine ⟨a, l, rfl, sq_of (e _ _ s), hl, fun p c hp hc => ⟨p, _, c, rfl, upd_same, by omega, fun ns q asc mem _ hq => ?_⟩⟩
  have g1 : Gm M F H (upd F p (SetO w p (fun j => decide (j ∈ l)) c)) (upd H p (SetO w p (fun j => decide (j ∈ l)) c)) := Gm.new e hp
  have g2 : Gm M (upd F p (SetO w p (fun j => decide (j ∈ l)) c)) (upd H p (SetO w p (fun j => decide (j ∈ l)) c)) _ _ := Gm.new (o := .lst (ns.map V.int)) g1.s hq
  have en : ns = sortedSet l := asc_unique ns _ asc (asc_sortedSet l) fun j => by
    rw [mem, mem_sortedSet]
    simp
  refine k _ _ _ (g1.trans g2) ?_
  rw [← en]
  exact .lst upd_same (ints_all ns)
end
end Wk

set_option Elab.async false
set_option linter.all false
set_option maxRecDepth 100000
set_option maxHeartbeats 1000000
namespace Wk
open PySem L2 Evl
theorem Gm.youngs {F0 H0 : Hp} {M : List Addr} {F H F1 H1 : Hp} (ps : List Addr) (g : Gm M F0 H0 F H) (h0 : ∀ p ∈ ps, H0 p = none) (g2 : Gm (ps ++ M) F H F1 H1) : Gm M F0 H0 F1 H1 :=
  ⟨g.f.trans g2.f, g2.s, fun a o hM h => g2.h a o (fun q => by
      rcases List.mem_append.mp q with q | q
      · rw [h0 a q] at h; cases h
      · exact hM q) (g.h a o hM h), fun a o h hn => by
    obtain ⟨o', h'⟩ := g.m a o h
    exact g2.n a o' h' (g.n a o h hn), fun a o h => by
    obtain ⟨o', h'⟩ := g.m a o h
    exact g2.m a o' h'⟩
/-! ### a draw -/
def seedN (s c : Int) : Int := (s * 48271 + c + 11) % 2147483647
def takenA (scr : List Int) (st : Rw) (many : Int) : Mm (Int × Rw) :=
  if 0 < many ∧ many < 1073741824 ∧ 0 ≤ st.seed ∧ st.seed < 2147483647 ∧ 0 ≤ st.pos ∧ st.pos < 1000000 then
    if st.left > 0 then .ok (st.left % many, ⟨st.pos, st.seed, st.left / many⟩)
    else match scr[st.pos.toNat]? with
      | none => .ok ((seedN st.seed 0 / 7) % many, ⟨st.pos + 1, seedN st.seed 0, st.left⟩)
      | some c => .ok (c % many, ⟨st.pos + 1, seedN st.seed c, if c ≥ 10 ^ 18 then c / many else 0⟩)
  else .bad
def takenB (scr : List Int) (st : Rw) (many : Int) : Mm (Int × Rw) :=
  if 0 < many ∧ many < 1073741824 ∧ 0 ≤ st.seed ∧ st.seed < 2147483647 ∧ 0 ≤ st.pos ∧ st.pos < 1000000 then
    if st.left > 0 then .ok (st.left % many, ⟨st.pos, st.seed, st.left / many⟩)
    else match scr[st.pos.toNat]? with
      | none => .ok ((seedN st.seed 0 / 7) % many, ⟨st.pos + 1, seedN st.seed 0, st.left⟩)
      | some c => .ok (c % many, ⟨st.pos + 1, seedN st.seed c, if c ≥ 10 ^ 18 then c / many else st.left⟩)
  else .bad
def spTaken (tk : List Int → Rw → Int → Mm (Int × Rw)) (K : PySem.W.Frag) : Sp := fun vs H Q _ => ∃ (F : Hp) (sc ra : Addr) (scr : List Int) (st : Rw) (many : Int), vs = [.ref ra, .int many] ∧ Ex F H ∧ RowAt K sc ra scr F H st ∧
  Post (tk scr st many) (fun r => Ret [ra] F H (fun F' H' v => v = .int r.1 ∧ RowAt K sc ra scr F' H' r.2) Q) (fun _ => False)
theorem iteP {c : Bool} {A B : Prop} (h : c = true) (a : A) : if c = true then A else B := by rw [if_pos h]; exact a
theorem iteN {c : Bool} {A B : Prop} (h : c = false) (b : B) : if c = true then A else B := by rw [h, if_neg Bool.false_ne_true]; exact b
theorem cmul_small {i j : Int} (h : i.natAbs < 2 ^ 62) (h' : j.natAbs < 2 ^ 62) : CMulW i j := wide_mul h h' (by decide) (by decide) (by decide)
theorem fmod_pos {i j : Int} (h : 0 < j) : i.fmod j = i % j := Int.fmod_eq_emod_of_nonneg _ (Int.le_of_lt h)
theorem fdiv_pos {i j : Int} (h : 0 < j) : i.fdiv j = i / j := Int.fdiv_eq_ediv_of_nonneg _ (Int.le_of_lt h)
/-- pick one of a list -/
def pickM {α : Type} (tk : List Int → Rw → Int → Mm (Int × Rw)) (scr : List Int) (st : Rw) (l : List α) : Mm (α × Rw) := (tk scr st (l.length : Int)).bd fun b => (getM l b.1).bd fun a => .ok (a, b.2)
def spPick (tk : List Int → Rw → Int → Mm (Int × Rw)) (K : PySem.W.Frag) : Sp := fun vs H Q _ => ∃ (F : Hp) (sc ra : Addr) (scr : List Int) (st : Rw) (α : Type) (en : α → PyData) (v : V) (l : List α), vs = [.ref ra, v] ∧ Ex F H ∧ RowAt K sc ra scr F H st ∧ Dq K F v (eL en l) ∧
  Post (pickM tk scr st l) (fun r => Ret [ra] F H (fun F' H' v => Dq K F' v (en r.1) ∧ RowAt K sc ra scr F' H' r.2) Q) (fun _ => False)
end Wk

set_option Elab.async false
set_option linter.all false
set_option maxRecDepth 100000
set_option maxHeartbeats 1000000
namespace Wk
open PySem L2 Evl
theorem notM_nil {H : Hp} : ∀ D, H D = none → D ∉ ([] : List Addr) := fun _ _ => by simp
theorem notM_cons {H : Hp} {p : Addr} {o : HO} {M : List Addr} (h : H p = some o) (k : ∀ D, H D = none → D ∉ M) : ∀ D, H D = none → D ∉ p :: M := fun D hD q => by
  rcases List.mem_cons.mp q with q | q
  · rw [q, h] at hD; cases hD
  · exact k D hD q
/-! ### own lists whose place is open -/
section
variable {M ps : List Addr} {F0 H0 F H F1 H1 : Hp} {p : Addr} {o u : HO}
theorem Gm.putOr (g : Gm M F0 H0 F H) (y : p ∈ M ∨ H0 p = none) (h : H p = some u) (hf : F p = none) : Gm M F0 H0 F (upd H p o) := by
  rcases y with y | y
  · exact g.putIn y h hf
  · exact g.putYoung h hf y
theorem Gm.outs (ps : List Addr) (hy : ∀ p ∈ ps, p ∈ M ∨ H0 p = none) (g : Gm M F0 H0 F H) (g2 : Gm (ps ++ M) F H F1 H1) : Gm M F0 H0 F1 H1 :=
  ⟨g.f.trans g2.f, g2.s, fun a o hM h => g2.h a o (fun q => by
      rcases List.mem_append.mp q with q | q
      · rcases hy a q with z | z
        · exact hM z
        · rw [z] at h; cases h
      · exact hM q) (g.h a o hM h), fun a o h hn => by
    obtain ⟨o', h'⟩ := g.m a o h
    exact g2.n a o' h' (g.n a o h hn), fun a o h => by
    obtain ⟨o', h'⟩ := g.m a o h
    exact g2.m a o' h'⟩
theorem out_y (hy : ∀ p ∈ ps, p ∈ M ∨ H0 p = none) (g : Gm M F0 H0 F H) (y : p ∈ ps ++ M ∨ H p = none) : p ∈ M ∨ H0 p = none := by
  rcases y with y | y
  · rcases List.mem_append.mp y with q | q
    · exact hy p q
    · exact .inl q
  · exact .inr (g.fresh y)
theorem y_ra {ra : Addr} (y : p ∈ [ra] ∨ H0 p = none) (n : ra ≠ p) : H0 p = none := by
  rcases y with y | y
  · exact absurd (List.mem_singleton.mp y).symm n
  · exact y
theorem y_no (y : p ∈ ([] : List Addr) ∨ H0 p = none) : H0 p = none := by
  rcases y with y | y
  · cases y
  · exact y
end
section
variable {K : PySem.W.Frag} {F H : Hp} {Q : VK} {xs ys : List V} {α : Type} {en : α → PyData} {l l' : List α} {a b : Addr}
theorem own_of (e : Ex F H) (k : ∀ p H', Gm [] F H F H' → H p = none → (H' p = some (.lst xs) ∧ F p = none) → Q (.ref p) H') : ∀ p, H p = none → Q (.ref p) (upd H p (.lst xs)) := fun p hp => k p _ (Gm.newM e hp) hp ⟨upd_same, by
    cases q : F p with
    | none => rfl
    | some u => rw [e p u q] at hp; cases hp⟩
/-- list(x) that may change -/
theorem to_own (e : Ex F H) (s : SqL K H a xs ∨ SqT K H a xs) (k : ∀ p H', Gm [] F H F H' → H p = none → (H' p = some (.lst xs) ∧ F p = none) → Q (.ref p) H') : ∃ p ys, [V.ref a] = [.ref p] ∧ (SqL K H p ys ∨ SqT K H p ys) ∧ ∀ l, H l = none → Q (.ref l) (upd H l (.lst ys)) :=
  ⟨a, xs, rfl, s, own_of e k⟩
end
/-! ### isinstance of an int -/
section
variable {X : Cx}
theorem call_isiI : CallR X (.builtin "isinstance") (fun xs H Q => ∃ (i : Int) (n : String) (b : Bool), xs = [.int i, .ty n] ∧ ((n = "int" ∧ b = true) ∨ (n = "bool" ∧ b = false)) ∧ Q (.bl b) H) := by
  intro pins s σ H vs us Q I r h
  obtain ⟨i, n, b, rfl, hn, q⟩ := h
  rcases hn with ⟨rfl, rfl⟩ | ⟨rfl, rfl⟩
  · exact call_isi pins s σ H _ us Q I r ⟨_, _, _, _, true, rfl, .ty _, .base (.int i), kit_ty (by decide +kernel), q⟩
  · exact call_isi pins s σ H _ us Q I r ⟨_, _, _, _, false, rfl, .ty _, .base (.int i), kit_ty (by decide +kernel), q⟩
end
/-! ### tuples of unlike items, empty or not -/
section
variable {K : PySem.W.Frag} {M : List Addr} {F H : Hp} {Q : VK} {α β : Type} {en : α → PyData} {en' : β → PyData} {l : List α} {l' : List β} {xs ys : List V} {a b : Addr}
theorem cat_tupD (e : Ex F H) (s : SqT K F a xs) (h : DqAll K F xs (l.map en)) (s' : SqT K F b ys) (h' : DqAll K F ys (l'.map en')) (hl : l.length + l'.length ≤ 100000) (k : Ret M F H (fun F' _ v => Dq K F' v (.tuple (l.map en ++ l'.map en'))) Q) : rCatM K (.ref a) (.ref b) H Q := by
  have n1 : xs.length = l.length := by rw [h.len, List.length_map]
  have n2 : ys.length = l'.length := by rw [h'.len, List.length_map]
  refine ⟨a, b, xs, ys, rfl, rfl, ex_t e s, ex_t e s', sz_of (by omega), fun q => ?_, fun _ q => ?_, fun _ _ p hp => ?_⟩
  · subst q
    have hl0 : l = [] := List.length_eq_zero_iff.mp n1.symm
    exact k _ _ _ (Gm.refl e) (by rw [hl0]; exact .tup s' h')
  · subst q
    have hl0 : l' = [] := List.length_eq_zero_iff.mp n2.symm
    exact k _ _ _ (Gm.refl e) (by rw [hl0, List.map_nil, List.append_nil]; exact .tup s h)
  · have g : Gm M F H (upd F p (.tup (xs ++ ys))) (upd H p (.tup (xs ++ ys))) := Gm.new e hp
    exact k _ _ _ g (.tup (st_of upd_same) ((h.app h').up g.f))
end
section
variable {X : Cx} {α β : Type} [DecidableEq α] [DecidableEq β] {f : α → PyData} {g : β → PyData} {n m : Nat}
theorem lay_app : ∀ (l r : List PyData), PyData.canLayAll0 l = true → PyData.canLayAll0 r = true → PyData.canLayAll0 (l ++ r) = true
  | [], r, _, h => h
  | x :: l, r, h, h' => by
    simp only [PyData.canLayAll0, Bool.and_eq_true] at h
    simp only [List.cons_append, PyData.canLayAll0, Bool.and_eq_true]
    exact ⟨h.1, lay_app l r h.2 h'⟩
theorem dep_app : ∀ (l r : List PyData) (k : Nat), PyData.depthAll l ≤ k → PyData.depthAll r ≤ k → PyData.depthAll (l ++ r) ≤ k
  | [], r, _, _, h => h
  | x :: l, r, k, h, h' => by
    simp only [PyData.depthAll] at h
    simp only [List.cons_append, PyData.depthAll]
    have := dep_app l r k (by omega) h'
    omega
theorem shaped_cat (s : Sh f n) (s' : Sh g m) (l : List α) (r : List β) (h : max n m + 1 ≤ 64 := by decide) : SeqAt.shaped (.tuple (l.map f ++ r.map g)) = true := by
  unfold SeqAt.shaped
  have d := dep_app (l.map f) (r.map g) (max n m) (Nat.le_trans (dep_map s l) (Nat.le_max_left ..)) (Nat.le_trans (dep_map s' r) (Nat.le_max_right ..))
  simp only [PyData.canLay0, lay_app _ _ (lay_map s l) (lay_map s' r), PyData.depth, Bool.true_and]
  exact decide_eq_true (by omega)
/-- t != (), t == () -/
def rNilM (K : PySem.W.Frag) (neg : Bool) : R2 := fun x y H Q => ∃ (ds : List PyData) (b : Bool), Dp K H x (.tuple ds) ∧ Dp K H y (.tuple []) ∧ SeqAt.shaped (.tuple ds) = true ∧ ds.isEmpty = b ∧ Q (.bl (if neg = true then !b else b)) H
theorem eqv_nil (ds : List PyData) : PyData.eqv (.tuple ds) (.tuple []) = ds.isEmpty := by
  cases ds <;> rfl
theorem op_neNil (hu : X.A.units + 64 < cLine) : OpR X (compareOp .NotEq) (rNilM X.K true) := by
  intro pins st σ H x y v u Q I rx ry h
  obtain ⟨ds, b, hd, he, sd, rfl, q⟩ := h
  exact op_neD hu pins st σ H x y v u Q I rx ry ⟨.tuple ds, .tuple [], hd, he, sd, by decide, by rw [eqv_nil]; exact q⟩
theorem op_eqNil (hu : X.A.units + 64 < cLine) : OpR X (compareOp .Eq) (rNilM X.K false) := by
  intro pins st σ H x y v u Q I rx ry h
  obtain ⟨ds, b, hd, he, sd, rfl, q⟩ := h
  exact op_eqD hu pins st σ H x y v u Q I rx ry ⟨.tuple ds, .tuple [], hd, he, sd, by decide, by rw [eqv_nil]; exact q⟩
theorem isEmpty_cat (l : List α) (r : List β) : (l.map f ++ r.map g).isEmpty = (l.isEmpty && r.isEmpty) := by
  cases l <;> cases r <;> rfl
end
/-! ### weightings -/
abbrev Ms := List (Int × Int)
abbrev Ss := List (Int × Int × Int)
abbrev Wt := Ms × Ss
abbrev eM : Ms → PyData := eV (e2 PyData.int PyData.int)
abbrev eS : Ss → PyData := eV (e3 PyData.int PyData.int PyData.int)
def wf (m s : V) : List (Str × V) := putF "_stretches" s (putF "_masses" m [])
theorem wf_eq (m s : V) : wf m s = ([("_masses", m), ("_stretches", s)] : List (Str × V)) := by
  have n : ¬ (("_masses" : Str) = "_stretches") := by decide +kernel
  show (if ("_masses" : Str) = "_stretches" then [(("_masses" : Str), s)] else (("_masses" : Str), m) :: putF "_stretches" s []) = ([("_masses", m), ("_stretches", s)] : List (Str × V))
  rw [if_neg n]
  rfl
theorem wf_m (m s : V) : (wf m s).lookup ("_masses" : Str) = some m := by
  unfold wf
  rw [lookup_putF, if_neg (by decide +kernel), lookup_putF, if_pos rfl]
theorem wf_s (m s : V) : (wf m s).lookup ("_stretches" : Str) = some s := by
  unfold wf
  rw [lookup_putF, if_pos rfl]
/-- v is a weighting that stands fixed -/
structure IsW (K : PySem.W.Frag) (C : Addr) (F : Hp) (v : V) (w : Wt) : Prop where
  ex : ∃ a dx m s, v = .ref a ∧ F a = some (.ins C dx (wf m s)) ∧ Dq K F m (eM w.1) ∧ Dq K F s (eS w.2)
theorem IsW.up {K : PySem.W.Frag} {C : Addr} {F F' : Hp} {v : V} {w : Wt} (h : IsW K C F v w) (e : Ex F F') : IsW K C F' v w := by
  obtain ⟨a, dx, m, s, rfl, h1, h2, h3⟩ := h.ex
  exact ⟨a, dx, m, s, rfl, e _ _ h1, h2.up e, h3.up e⟩
/-- a property of a class, by its name and its field -/
structure KnP (P : Program) (w : World) (K : PySem.W.Frag) (mg : Str → Option Value) (base : Heap) (C : Addr) (f fld : Str) : Prop where
  ex : ∃ p g fd, PropOf K C f p g ∧ FnOk P w K mg base CX0 1 g fd ["self"] (getSp C fld) ∧ Binds K fd ["self"] []
  cl : Cls K C
section
variable {X : Cx} {C : Addr} {f fld : Str} {e : Expr} {ta : TE} {pos : Pos}
theorem pe_propK (G : KnP X.prog X.w X.K X.mg X.base C f fld) (hr : Room 2 X.A) (he : PE X e ta) (hab : attributeBase e f X.env (eval e X.env) = eval e X.env := by rfl) : PE X (.Attribute e f pos) (tProp C (getSp C fld) [] E0 ta) := by
  obtain ⟨p, g, fd, hp, F, hb⟩ := G.ex
  exact pe_prop he G.cl hp F hr hb .nil pass0 hab
end
/-- a class that is called: by the name x its __init__ with the promise sp -/
structure KnC (P : Program) (w : World) (K : PySem.W.Frag) (mg : Str → Option Value) (base : Heap) (CX : CXT) (x : Str) (C : Addr) (k : Nat) (ps : List Str) (sp : Sp) : Prop where
  ex : ∃ f fd, Mk K C f ∧ FnOk P w K mg base CX k f fd ps sp ∧ Binds K fd ps []
  mg : mg x = some (.ref C)
section
variable {X : Cx} {C : Addr} {x : Str} {k : Nat} {ps : List Str} {sp : Sp} {e : Expr} {es : List Expr} {t : TA} {p pos : Pos} {CX : CXT} {E : XK}
theorem pe_knC (G : KnC X.prog X.w X.K X.mg X.base CX x C k ps sp) (hr : Room (k + 1) X.A) (hx : Passes CX X E) (ha : PA X (e :: es) t) (hg : Gl X x := by rfl) (hdb : (x == ("__debug__" : Str)) = false := by decide)
    (he : starEach (e :: es) X.env = (false, eval e X.env) :: starEach es X.env := by rfl) (hpl : (backTo pos (starEach es X.env)).any (·.1) = false := by rfl) : PE X (.Call (.Name x p) (e :: es) [] pos) (tMake C sp [] E t) := by
  obtain ⟨f, fd, M, F, hb⟩ := G.ex
  exact pe_make M F hr hg G.mg hb .nil hx ha hdb he hpl
end
/-- Weighting.__init__: chk tells whether the parts may be so -/
def spW0 (chk : Ms → Ss → Mm Wt) (K : PySem.W.Frag) (C : Addr) : Sp := fun vs H Q _ => ∃ (F : Hp) (x dx : Addr) (vm vs' : V) (m : Ms) (s : Ss), vs = [.ref x, vm, vs'] ∧ Ex F H ∧ H x = some (.ins C dx []) ∧ F x = none ∧
  Dq K F vm (eM m) ∧ Dq K F vs' (eS s) ∧ Post (chk m s) (fun w => ∀ F' H' a b, Gm [x] F H F' H' → H' x = some (.ins C dx (wf a b)) → F' x = none → Dq K F' a (eM w.1) → Dq K F' b (eS w.2) → Q .non H') (fun _ => False)
theorem make_W {chk : Ms → Ss → Mm Wt} {K : PySem.W.Frag} {C : Addr} {F H : Hp} {vm vs : V} {m : Ms} {s : Ss} {Q : VK} {E : XK} (e : Ex F H) (hm : Dq K F vm (eM m)) (hs : Dq K F vs (eS s))
    (k : Post (chk m s) (fun w => Ret [] F H (fun F' _ v => IsW K C F' v w) Q) (fun _ => False)) :
    ∀ x dx, H x = none → H dx = none → dx ≠ x → spW0 chk K C (.ref x :: ([vm, vs] ++ [])) (upd (upd H dx (.own x)) x (.ins C dx [])) (fun v H2 => v = .non ∧ Q (.ref x) H2) E := by
  intro x dx hx hdx hne
  have g1 : Gm [] F H (upd F dx (.own x)) (upd H dx (.own x)) := Gm.new e hdx
  have hx1 : (upd H dx (.own x)) x = none := by rw [upd_ne hne.symm]; exact hx
  have g2 : Gm [] (upd F dx (.own x)) (upd H dx (.own x)) (upd F dx (.own x)) (upd (upd H dx (.own x)) x (.ins C dx [])) := Gm.newM g1.s hx1
  have fx : (upd F dx (.own x)) x = none := by
    cases q : (upd F dx (.own x)) x with
    | none => rfl
    | some u => rw [g1.s _ _ q] at hx1; cases hx1
  refine ⟨upd F dx (.own x), x, dx, vm, vs, m, s, rfl, g2.s, upd_same, fx, hm.up g1.f, hs.up g1.f, k.mono (fun w k F' H' a b g h1 h2 ha hb => ⟨rfl, ?_⟩) fun _ z => z⟩
  have gg : Gm [] F H F' H' := by
    refine Gm.young (g1.trans g2) hx g
  have g3 := gg.fix h1 h2 hx
  have up : Ex F' (upd F' x (.ins C dx (wf a b))) := Ex.new h2
  exact k _ _ _ g3 ⟨x, dx, a, b, rfl, upd_same, ha.up up, hb.up up⟩
end Wk

set_option Elab.async false
set_option linter.all false
namespace Wk
open PySem L2 Evl
theorem new_row {K : PySem.W.Frag} {H : Hp} {sc : Addr} {scr : List Int} {Q : VK} (hs : SqL K H sc (scr.map V.int)) (k : ∀ ra H', Ex H H' → RowAt K sc ra scr H H' ⟨0, 0, 0⟩ → Q (.ref ra) H') : [V.ref sc, V.int 0, V.int 0, V.int 0].length ≤ sizeLine ∧ ∀ p, H p = none → Q (.ref p) (upd H p (.lst [V.ref sc, V.int 0, V.int 0, V.int 0])) :=
  ⟨sz_of (by show 4 ≤ 100000; decide), fun p hp => k p _ (Ex.new hp) ⟨upd_same, hp, hs⟩⟩
end Wk

set_option Elab.async false
set_option linter.all false
set_option maxRecDepth 100000
set_option maxHeartbeats 2000000
namespace Wk
open PySem PySem.W L2 He
/-! ### properties by their names -/
def propG (x f : Str) (K : Frag) : Addr := match recIn K (ma K (ga K x) f) "property" with
  | some (.ref g :: _) => g
  | _ => 0
def propB (x f : Str) (K : Frag) : Bool := eqO (findIn K (.ref (ga K x)) f) (some (some (.ref (ma K (ga K x) f)))) && (eqO (specialIn K (.ref (ma K (ga K x) f)) "__get__") (some (some (.builtin "property.__get__"))) &&
  (decide (takesIn K (.ref (ma K (ga K x) f)) = some true) && (match recIn K (ma K (ga K x) f) "property" with
    | some (.ref _ :: _) => true
    | _ => false)))
theorem propB_ok {K : Frag} {x f : Str} (h : propB x f K = true) : PropOf K (ga K x) f (ma K (ga K x) f) (propG x f K) := by
  obtain ⟨h1, h⟩ := ba h
  obtain ⟨h2, h⟩ := ba h
  obtain ⟨h3, h4⟩ := ba h
  refine ⟨eqO_ok h1, eqO_ok h2, of_decide_eq_true h3, ?_⟩
  unfold propG
  split at h4
  · rename_i g r e
    exact ⟨r, by rw [e]⟩
  · cases h4
/-- a def of a class -/
def initAt (x m : Str) (K : Frag) : Addr := ma K (ga K x) m
/-- a name that is a built-in function -/
def bltB (x : Str) (id : String) (K : Frag) : Bool := eqO (nsIn K mainGlobals x) (some (some (.builtin id)))
theorem bltB_ok {K : Frag} {h : Heap} {mg : Str → Option Value} (X : K.In h) (G : h.Ns mainGlobals mg) {x : Str} {id : String} (c : bltB x id K = true) : mg x = some (.builtin id) := mg_of X G (eqO_ok c)
/-! ### the Hook: facts, defs, what else a Bool tells -/
def obsX (fa : List Fa) (fn : List He5.DefA) (ex : Frag → Bool) (K : Frag) : He.AlD := ((fa.all fun f => f.ok K) && ((fn.all fun d => d.ok K) && ex K), fn.map fun d => He5.fnA K (d.at_ K))
def valX (fn : List He5.DefA) : He.AlD := (true, fn.map He5.DefA.val)
def SaysX (fa : List Fa) (fn : List He5.DefA) (ex : Frag → Bool) (K : Frag) : Prop := obsX fa fn ex K = valX fn
def obsXG (n : Nat) (fa : List Fa) (fn : List He5.DefA) (ex : Frag → Bool) (g : Addr → Option Obj) : He.AlD := obsX fa fn ex (frG g (He5.asA g n))
def hookX (n : Nat) (fa : List Fa) (fn : List He5.DefA) (ex : Frag → Bool) : PySem.W.Hook where
  α := He.AlD
  obs := fun s => obsXG n fa fn ex s.heap.get?
  val := fun _ => valX fn
  says := fun _ h => ∃ K : Frag, K.In h ∧ SaysX fa fn ex K
  of := fun _ _ e => ⟨_, frG_in, e⟩
  keeps := fun _ _ _ ⟨K, hK, c⟩ k => ⟨K, Frag.In.keeps hK k, c⟩
theorem obsXG_eq {n : Nat} {fa : List Fa} {fn : List He5.DefA} {ex : Frag → Bool} {g : Addr → Option Obj} {s : Shared} (h : ∀ a, g a = s.heap.get? a) : obsXG n fa fn ex g = (hookX n fa fn ex).obs s := by
  have e : g = s.heap.get? := funext h
  rw [e] <;> rfl
section
variable {fa : List Fa} {fn : List He5.DefA} {ex : Frag → Bool} {K : Frag}
theorem SaysX.bool (c : SaysX fa fn ex K) : (((fa.all fun f => f.ok K) && ((fn.all fun d => d.ok K) && ex K)) : Bool) = true := congrArg (fun z : He.AlD => z.1) c
theorem SaysX.fact (c : SaysX fa fn ex K) (i : Nat) {f : Fa} (h : fa[i]? = some f := by rfl) : f.ok K = true :=
  List.all_eq_true.mp (ba c.bool).1 f (List.mem_of_getElem? h)
theorem SaysX.ext (c : SaysX fa fn ex K) : ex K = true := (ba (ba c.bool).2).2
theorem SaysX.def_ (c : SaysX fa fn ex K) (i : Nat) {d : He5.DefA} (h : fn[i]? = some d := by rfl) : ∃ fd, L2.FunD K d.name d.qual d.params d.body d.scope (d.dvs K) (d.kws K) (d.at_ K) fd := by
  have c2 := (ba (ba c.bool).2).1
  have e : fn.map (fun d => He5.fnA K (d.at_ K)) = fn.map He5.DefA.val := congrArg (fun z : He.AlD => z.2) c
  have e2 : (fn.map fun d => He5.fnA K (d.at_ K))[i]? = (fn.map He5.DefA.val)[i]? := by rw [e]
  rw [List.getElem?_map, List.getElem?_map, h] at e2
  exact He5.DefA.funD (Option.some.inj e2) (List.all_eq_true.mp c2 d (List.mem_of_getElem? h))
end
/-- a global's def -/
def gAt (x : Str) (K : Frag) : Addr := ga K x
theorem knP_of {P : Program} {w : World} {K : Frag} {mg : Str → Option Value} {base : Heap} {x f fld qual : Str} {params : Arguments} {body : List Stmt} {scope : Scope} {fd : FuncData} {p1 p2 p3 : Pos} (hp : propB x f K = true) (cl : Cls K (ga K x)) (n : NoAttr K (ga K x) fld)
    (F : FunD K f qual params body scope [] [] (propG x f K) fd) (S : FnScope ["self"] ["self"] scope) (hb : body = [.Return (some (.Attribute (.Name "self" p1) fld p2)) p3])
    (bi : ∀ (kV doc pm : Value) (an : Option Addr) (cdv ct : Value) (us : List Value), us.length = 1 → bindArgs (PySem.W.fnOf f qual params body scope .none kV doc pm an cdv ct) ⟨us, []⟩ = pure ([("self" : Str)].zip us)) : KnP P w K mg base (ga K x) f fld := by
  have b := F.bindsN (ps := ["self"]) bi
  obtain ⟨oc, od, dV, kV, doc, pm, an, cdv, ct, osl, rfl, lk, hcd, _, _⟩ := F.ex
  exact ⟨⟨_, _, _, propB_ok hp, fn_getter lk hcd S rfl hb cl n, b⟩, cl⟩
end Wk

set_option Elab.async false
set_option linter.all false
set_option maxRecDepth 100000
namespace Wk
open PySem L2
/-! ### outcomes that are values -/
def Yes {α : Type} (m : Mm α) (p : α → Prop) : Prop := ∃ a, m = .ok a ∧ p a
section
variable {α β γ S : Type} {m : Mm α} {f : α → Mm β} {p : α → Prop} {q : β → Prop}
theorem Yes.ok {a : α} (h : p a) : Yes (.ok a) p := ⟨a, rfl, h⟩
theorem Yes.bd (h : Yes m p) (k : ∀ a, p a → Yes (f a) q) : Yes (m.bd f) q := by
  obtain ⟨a, rfl, h⟩ := h
  exact k a h
theorem Yes.eq {a : α} (h : m = .ok a) (k : Yes (f a) q) : Yes (m.bd f) q := by
  subst h
  exact k
theorem Yes.mono {p' : α → Prop} (h : Yes m p) (k : ∀ a, p a → p' a) : Yes m p' := by
  obtain ⟨a, e, h⟩ := h
  exact ⟨a, e, k a h⟩
theorem Yes.guard {c : Prop} [Decidable c] {f : Unit → Mm β} (h : c) (k : Yes (f ()) q) : Yes ((guardM c).bd f) q := by
  unfold guardM
  rw [if_pos h]
  exact k
theorem bd_eq {a : α} (h : m = .ok a) : m.bd f = f a := by subst h; rfl
theorem bd_guard {c : Prop} [Decidable c] {f : Unit → Mm β} (h : c) : (guardM c).bd f = f () := by unfold guardM; rw [if_pos h]; rfl
theorem mapMm_eq {f : α → Mm γ} {g : α → γ} : ∀ l : List α, (∀ x ∈ l, f x = .ok (g x)) → mapMm f l = .ok (l.map g)
  | [], _ => rfl
  | x :: l, h => by
    unfold mapMm
    rw [h x (List.mem_cons_self ..), mapMm_eq l fun y hy => h y (List.mem_cons_of_mem _ hy)]
    rfl
theorem foldM_eq {f : S → α → Mm S} {g : S → α → S} (I : S → List α → Prop) : ∀ (l : List α) (s : S), I s l → (∀ s x l, I s (x :: l) → f s x = .ok (g s x) ∧ I (g s x) l) → foldM f s l = .ok (l.foldl g s)
  | [], s, _, _ => rfl
  | x :: l, s, h, k => by
    obtain ⟨e, h2⟩ := k s x l h
    unfold foldM
    rw [e]
    exact foldM_eq I l _ h2 k
theorem yes_fold {f : S → α → Mm S} (I : S → List α → Prop) : ∀ (l : List α) (s : S), I s l → (∀ s x l, I s (x :: l) → Yes (f s x) fun s' => I s' l) → Yes (foldM f s l) fun s' => I s' []
  | [], s, h, _ => ⟨s, rfl, h⟩
  | x :: l, s, h, k => by
    obtain ⟨s', e, h2⟩ := k s x l h
    unfold foldM
    rw [e]
    exact yes_fold I l s' h2 k
inductive All2 {α γ : Type} (p : α → γ → Prop) : List α → List γ → Prop
  | nil : All2 p [] []
  | cons {x : α} {y : γ} {l : List α} {r : List γ} : p x y → All2 p l r → All2 p (x :: l) (y :: r)
theorem All2.len {p : α → γ → Prop} {l : List α} {r : List γ} (h : All2 p l r) : r.length = l.length := by
  induction h with
  | nil => rfl
  | cons _ _ ih => simp [ih]
theorem All2.right {p : α → γ → Prop} {q : γ → Prop} {l : List α} {r : List γ} (h : All2 p l r) (k : ∀ x y, p x y → q y) : ∀ y ∈ r, q y := by
  induction h with
  | nil => simp
  | cons a _ ih =>
    intro y hy
    rcases List.mem_cons.mp hy with rfl | hy
    · exact k _ _ a
    · exact ih y hy
theorem All2.fst {g : γ → α} {p : α → γ → Prop} {l : List α} {r : List γ} (h : All2 p l r) (k : ∀ x y, p x y → g y = x) : r.map g = l := by
  induction h with
  | nil => rfl
  | cons a _ ih => rw [List.map_cons, k _ _ a, ih]
theorem yes_mapSt {f : S → α → Mm (γ × S)} (I : S → Prop) (p : α → γ → Prop) : ∀ (l : List α) (s : S), I s → (∀ s x, x ∈ l → I s → Yes (f s x) fun y => p x y.1 ∧ I y.2) → Yes (mapSt f s l) fun r => All2 p l r.1 ∧ I r.2
  | [], s, h, _ => ⟨_, rfl, .nil, h⟩
  | x :: l, s, h, k => by
    obtain ⟨y, e, h1, h2⟩ := k s x (List.mem_cons_self ..) h
    obtain ⟨r, e2, h3, h4⟩ := yes_mapSt I p l y.2 h2 fun s z hz => k s z (List.mem_cons_of_mem _ hz)
    unfold mapSt
    rw [e]
    show Yes ((mapSt f y.2 l).bd _) _
    rw [e2]
    exact ⟨_, rfl, .cons h1 h3, h4⟩
end
theorem range_ok {j : Int} (h : -(2 ^ 62) ≤ j) (h2 : j < 2 ^ 62) : rangeM j = .ok (rangeL 0 j.toNat) := by unfold rangeM; rw [if_pos ⟨h, h2⟩]
theorem mul_ok {i j : Int} {a b : Nat} (ha : i.natAbs < 2 ^ a) (hb : j.natAbs < 2 ^ b) (h : a + b ≤ 900000) : mulM i j = .ok (i * j) := by
  unfold mulM
  refine if_pos (wide_mul (a := a + 1) (b := b + 1) ?_ ?_ (by omega) (by omega) (by omega))
  · rw [Nat.pow_succ]; omega
  · rw [Nat.pow_succ]; omega
theorem div_any {i j : Int} {b : Nat} (h : j ≠ 0) (hb : j.natAbs < 2 ^ b) (h2 : b < 9000) : divM i j = .ok (i.fdiv j) := by
  unfold divM
  have hb' : j.natAbs < 2 ^ (b + 1) := by rw [Nat.pow_succ]; omega
  exact if_pos ⟨h, Nat.lt_of_lt_of_le (PySem.Flt.log2_lt_of (by omega) hb') (by omega)⟩
theorem div_ok {i j : Int} {b : Nat} (h : 0 < j) (hb : j.natAbs < 2 ^ b) (h2 : b < 9000) : divM i j = .ok (i / j) := by
  rw [div_any (by omega) hb h2, Int.fdiv_eq_ediv_of_nonneg _ (Int.le_of_lt h)]
theorem mod_ok {i j : Int} (h : 0 < j) : modM i j = .ok (i % j) := by
  unfold modM
  rw [if_pos (by omega), Int.fmod_eq_emod_of_nonneg _ (Int.le_of_lt h)]
theorem mod_ne {i j : Int} (h : j ≠ 0) : modM i j = .ok (i.fmod j) := by
  unfold modM
  rw [if_pos h]
/-! ### fractions -/
def fr (q : Rat) : Int × Int := (q.num, (q.den : Int))
def Sq (n : Nat) (q : Rat) : Prop := q.num.natAbs < 2 ^ n ∧ q.den < 2 ^ n
theorem fr_nat (a : Int) {d : Nat} (h : d ≠ 0) : fr ((a : Rat) / (d : Rat)) = (a / ((Nat.gcd a.natAbs d : Nat) : Int), ((d / Nat.gcd a.natAbs d : Nat) : Int)) := by
  unfold fr
  rw [← Rat.mkRat_eq_div, Rat.num_mkRat, Rat.den_mkRat, if_neg h, if_neg h, Nat.gcd_comm]
theorem fr_int (a : Int) {b : Int} (h : 0 < b) : fr ((a : Rat) / (b : Rat)) = (a / ((Nat.gcd a.natAbs b.natAbs : Nat) : Int), b / ((Nat.gcd a.natAbs b.natAbs : Nat) : Int)) := by
  obtain ⟨d, rfl⟩ := Int.eq_ofNat_of_zero_le (Int.le_of_lt h)
  have hd : d ≠ 0 := by omega
  have := fr_nat a hd
  rw [Int.natAbs_natCast, ← Int.natCast_ediv]
  exact this
theorem gcd_pos_int {a b : Int} (h : 0 < b) : 0 < ((Nat.gcd a.natAbs b.natAbs : Nat) : Int) := by
  have : 0 < Nat.gcd a.natAbs b.natAbs := Nat.gcd_pos_of_pos_right _ (by omega)
  omega
theorem gcd_le_int {a b : Int} (h : 0 < b) : ((Nat.gcd a.natAbs b.natAbs : Nat) : Int).natAbs ≤ b.natAbs := by
  rw [Int.natAbs_natCast]
  exact Nat.gcd_le_right _ (by omega)
theorem den_posI (q : Rat) : 0 < (q.den : Int) := by
  have := q.den_nz
  omega
theorem fr_val (q : Rat) : ((fr q).1 : Rat) / ((fr q).2 : Rat) = q := by
  have h := Rat.mkRat_eq_div q.num q.den
  rw [Rat.mkRat_self] at h
  unfold fr
  rw [show (((q.den : Nat) : Int) : Rat) = ((q.den : Nat) : Rat) from rfl]
  exact h.symm
theorem sq_div {n : Nat} {a b : Int} (h : 0 < b) (ha : a.natAbs < 2 ^ n) (hb : b.natAbs < 2 ^ n) : Sq n ((a : Rat) / (b : Rat)) := by
  have e := fr_int a h
  unfold fr at e
  simp only [Prod.mk.injEq] at e
  obtain ⟨e1, e2⟩ := e
  unfold Sq
  have g0 := gcd_pos_int (a := a) h
  constructor
  · rw [e1]
    exact Nat.lt_of_le_of_lt (Int.natAbs_ediv_le_natAbs _ _) ha
  · have : ((a : Rat) / (b : Rat)).den = (((a : Rat) / (b : Rat)).den : Int).natAbs := by omega
    rw [this, e2]
    exact Nat.lt_of_le_of_lt (Int.natAbs_ediv_le_natAbs _ _) hb
theorem two_le (n : Nat) : 1 ≤ 2 ^ n := Nat.one_le_two_pow
theorem add_lt {x y : Int} {a b n : Nat} (ha : x.natAbs < 2 ^ a) (hb : y.natAbs < 2 ^ b) (h : a < n) (h' : b < n) : (x + y).natAbs < 2 ^ n := by
  have e1 : 2 ^ a ≤ 2 ^ (n - 1) := Nat.pow_le_pow_right (by decide) (by omega)
  have e2 : 2 ^ b ≤ 2 ^ (n - 1) := Nat.pow_le_pow_right (by decide) (by omega)
  have e3 : 2 ^ n = 2 * 2 ^ (n - 1) := by
    rw [← Nat.pow_succ']
    congr 1
    omega
  omega
theorem sub_lt {x y : Int} {a b n : Nat} (ha : x.natAbs < 2 ^ a) (hb : y.natAbs < 2 ^ b) (h : a < n) (h' : b < n) : (x - y).natAbs < 2 ^ n := by
  have := add_lt (x := x) (y := -y) ha (by omega) h h'
  rwa [Int.sub_eq_add_neg]
theorem mul_lt {x y : Int} {a b n : Nat} (ha : x.natAbs < 2 ^ a) (hb : y.natAbs < 2 ^ b) (h : a + b ≤ n) : (x * y).natAbs < 2 ^ n :=
  Nat.lt_of_lt_of_le (wide_lt ha hb) (Nat.pow_le_pow_right (by decide) h)
theorem up_lt {x : Int} {a n : Nat} (ha : x.natAbs < 2 ^ a) (h : a ≤ n) : x.natAbs < 2 ^ n := Nat.lt_of_lt_of_le ha (Nat.pow_le_pow_right (by decide) h)
theorem Sq.up {q : Rat} {a n : Nat} (h : Sq a q) (l : a ≤ n) : Sq n q := ⟨up_lt h.1 l, Nat.lt_of_lt_of_le h.2 (Nat.pow_le_pow_right (by decide) l)⟩
theorem Sq.d {q : Rat} {a : Nat} (h : Sq a q) : ((q.den : Nat) : Int).natAbs < 2 ^ a := by rw [Int.natAbs_natCast]; exact h.2
theorem rat_add (p q : Rat) : p + q = ((p.num * (q.den : Int) + q.num * (p.den : Int) : Int) : Rat) / (((p.den : Int) * (q.den : Int) : Int) : Rat) := by
  have a := fr_val p
  have b := fr_val q
  unfold fr at a b
  have x : ((p.den : Int) : Rat) ≠ 0 := by
    have := den_posI p
    intro z
    have := Rat.intCast_inj.mp (show ((p.den : Int) : Rat) = ((0 : Int) : Rat) from z)
    omega
  have y : ((q.den : Int) : Rat) ≠ 0 := by
    have := den_posI q
    intro z
    have := Rat.intCast_inj.mp (show ((q.den : Int) : Rat) = ((0 : Int) : Rat) from z)
    omega
  push_cast
  push_cast at a b x y
  grind
theorem rat_mul (p q : Rat) : p * q = ((p.num * q.num : Int) : Rat) / (((p.den : Int) * (q.den : Int) : Int) : Rat) := by
  have a := fr_val p
  have b := fr_val q
  unfold fr at a b
  push_cast
  push_cast at a b
  grind
theorem rat_div (p q : Rat) : p / q = ((p.num * (q.den : Int) : Int) : Rat) / (((p.den : Int) * q.num : Int) : Rat) := by
  have a := fr_val p
  have b := fr_val q
  unfold fr at a b
  push_cast
  push_cast at a b
  grind
theorem sq_add {p q : Rat} {a b n : Nat} (ha : Sq a p) (hb : Sq b q) (h : a + b < n) : Sq n (p + q) := by
  rw [rat_add]
  refine sq_div (Int.mul_pos (den_posI p) (den_posI q)) ?_ (mul_lt ha.d hb.d (by omega))
  exact add_lt (mul_lt ha.1 hb.d (Nat.le_refl _)) (mul_lt hb.1 ha.d (Nat.le_refl _)) (by omega) (by omega)
theorem sq_mul {p q : Rat} {a b n : Nat} (ha : Sq a p) (hb : Sq b q) (h : a + b ≤ n) : Sq n (p * q) := by
  rw [rat_mul]
  exact sq_div (Int.mul_pos (den_posI p) (den_posI q)) (mul_lt ha.1 hb.1 h) (mul_lt ha.d hb.d h)
theorem num_pos' {q : Rat} (h : 0 < q) : 0 < q.num := by
  have := Rat.num_nonneg (q := q)
  have h1 : 0 ≤ q.num := this.mpr (Rat.le_of_lt h)
  have h2 : q.num ≠ 0 := fun z => by
    have : q = 0 := Rat.num_eq_zero.mp z
    rw [this] at h
    exact absurd h (by decide)
  omega
theorem sq_quo {p q : Rat} {a b n : Nat} (ha : Sq a p) (hb : Sq b q) (hq : 0 < q) (h : a + b ≤ n) : Sq n (p / q) := by
  rw [rat_div]
  exact sq_div (Int.mul_pos (den_posI p) (num_pos' hq)) (mul_lt ha.1 hb.d h) (mul_lt ha.d hb.1 h)
theorem fr_inj {p q : Rat} (h : fr p = fr q) : p = q := by
  have a := fr_val p
  rw [h, fr_val] at a
  exact a.symm
end Wk

set_option Elab.async false
set_option linter.all false
set_option maxRecDepth 100000
namespace Wk
open PySem L2 Evl
section
variable {K : PySem.W.Frag} {M : List Addr} {F F' H H' : Hp} {Q : VK} {α : Type} {en : α → PyData} {l l' : List α} {xs ys : List V} {a b p : Addr} {v : V} {ds : List PyData}
/-! ### None or a value -/
theorem sh_eO [DecidableEq α] {f : α → PyData} {n : Nat} (s : Sh f n) (h1 : ∀ a, PyData.eqv .none (f a) = false := by intro a; rfl) (h2 : ∀ a, PyData.eqv (f a) .none = false := by intro a; rfl) : Sh (eO f) (n + 1) :=
  ⟨fun o => by cases o with
    | none => rfl
    | some a => exact s.lay a, fun o => by cases o with
    | none => simp [eO, PyData.depth]
    | some a => exact Nat.le_succ_of_le (s.dep a), fun o o' => by
      cases o with
      | none => cases o' with
        | none => simp [eO, PyData.eqv]
        | some b => rw [show eO f none = .none from rfl, show eO f (some b) = f b from rfl, h1]; simp
      | some a => cases o' with
        | none => rw [show eO f none = .none from rfl, show eO f (some a) = f a from rfl, h2]; simp
        | some b => rw [show eO f (some a) = f a from rfl, show eO f (some b) = f b from rfl, s.eq]; simp⟩
theorem isN_go {o : Option α} {Q : VK} (h : Dq K F v (eO en o)) (q : Q (.bl o.isNone) H) (hn : ∀ a, en a ≠ .none := by intro a; exact fun h => nomatch h) : (fun (x : V) (H1 : Hp) => Q (.bl (decide (x = V.non))) H1) v H := by
  show Q (.bl (decide (v = V.non))) H
  rw [none_O h hn]
  exact q
def getO {α : Type} (o : Option α) : Mm α := match o with
  | some a => .ok a
  | none => .bad
theorem post_getO {β : Type} {f : α → Mm β} {r : β → Prop} {q : Er → Prop} {o : Option α} (h : Post ((getO o).bd f) r q) : ∃ a, o = some a ∧ Post (f a) r q := by
  cases o with
  | none => exact h.h.elim
  | some a => exact ⟨a, rfl, ⟨h.h⟩⟩
theorem dq_some {o : Option α} {x : α} (d : Dq K F v (eO en o)) (h : o = some x) : Dq K F v (en x) := by
  subst h
  exact d
/-! ### a list display with a list in it -/
theorem new_star {pre : List V} {pm : List α} (e : Ex F H) (a : DqAll K F pre (pm.map en)) (b : DqAll K F xs (l.map en)) (hl : pm.length + l.length ≤ 100000) (k : Ret M F H (fun F' _ v => Dq K F' v (eL en (pm ++ l))) Q) :
    (pre ++ (xs ++ [])).length ≤ sizeLine ∧ ∀ p, H p = none → Q (.ref p) (upd H p (.lst (pre ++ (xs ++ [])))) := by
  rw [List.append_nil]
  refine new_lst e (ds := (pm ++ l).map en) ?_ ?_ k
  · rw [List.map_append]
    exact a.app b
  · rw [List.length_append, a.len, b.len, List.length_map, List.length_map]
    exact hl
/-- a tuple of any values -/
theorem new_tupR (e : Ex F H) (hl : xs.length ≤ 100000) (k : ∀ p F' H', Gm M F H F' H' → SqT K F' p xs → Q (.ref p) H') : xs.length ≤ sizeLine ∧ ∀ p, H p = none → Q (.ref p) (upd H p (.tup xs)) :=
  ⟨sz_of hl, fun p hp => k p _ _ (Gm.new e hp) (st_of upd_same)⟩
/-! ### an item is set -/
def setM {α : Type} (l : List α) (i : Int) (v : α) : Mm (List α) := match ixN l.length i with
  | some j => .ok (l.set j v)
  | none => .bad
theorem post_set {β : Type} {f : List α → Mm β} {r : β → Prop} {q : Er → Prop} {i : Int} {x : α} (h : Post ((setM l i x).bd f) r q) : ∃ m j, ixN l.length i = some j ∧ l.set j x = m ∧ Post (f m) r q := by
  unfold setM at h
  cases e : ixN l.length i with
  | none =>
    rw [e] at h
    exact h.h.elim
  | some j =>
    rw [e] at h
    exact ⟨_, j, rfl, rfl, ⟨h.h⟩⟩
theorem all_ix {i : Int} {j : Nat} (a : DqAll K F xs (l.map en)) (h : ixN l.length i = some j) : ixN xs.length i = some j := by
  rw [a.len, List.length_map]
  exact h
theorem dqAll_set {v : V} {d : PyData} : ∀ {xs : List V} {ds : List PyData} (j : Nat), DqAll K F xs ds → Dq K F v d → DqAll K F (xs.set j v) (ds.set j d)
  | _, _, j, .nil, _ => .nil
  | _, _, 0, .cons _ b, h => .cons h b
  | _, _, j + 1, .cons a b, h => .cons a (dqAll_set j b h)
theorem all_set {j : Nat} {x : α} {m : List α} (a : DqAll K F xs (l.map en)) (h : Dq K F v (en x)) (e : l.set j x = m) : DqAll K F (xs.set j v) (m.map en) := by
  subst e
  rw [List.map_set]
  exact dqAll_set j a h
end
section
variable {K : PySem.W.Frag} {M : List Addr} {F H : Hp} {σ : L2.St} {g : TG} {tt : TT} {te : TE} {vs : List Nat} {α β γ : Type} {l : List α} {ok : β → Prop} {ex : Er → Prop} {J : It} {R : Hp → V → α → Prop} {Q : VK}
theorem lc_fil {f : α → Mm (Option γ)} {rest : List γ → Mm β} (w : Wlk M F H J l R) (en : γ → PyData) (k : Post ((filMm f l).bd rest) ok ex) (e : Ex F H) (hz : l.length ≤ 50000) (hM : ∀ D, H D = none → D ∉ M)
    (hb : ∀ x v F1 H1 F2 H2, Gm M F H F1 H1 → Gm [] F1 H1 F2 H2 → R F2 v x → ∀ Q' : Option V → Hp → Prop, Post (f x) (fun o => ∀ F3 H3 v, Gm M F1 H1 F3 H3 → (match o with
        | some y => ∃ u, v = some u ∧ Dq K F3 u (en y)
        | none => v = none) → Q' v H3) (fun _ => False) →
      g v (wipe σ vs) H2 fun σ2 H3 => wipe σ2 vs = wipe σ vs ∧ tt σ2 H3 fun b H4 => if b = true then te σ2 H4 fun y H5 => Q' (some y) H5 else Q' none H4)
    (hx : ∀ e, ¬ ex e) (kk : ∀ (r : List γ) v F' H', Gm M F H F' H' → Dq K F' v (eL en r) → Post (rest r) ok ex → Q v H') (mono : GMon g) :
    ∀ D, H D = none → ∃ W : Nat → Nat → Hp → Prop, (∃ m, W 0 m (upd H D (.lst []))) ∧ ∀ i m H, W i m H →
      (J.stop i H ∧ Q (.ref D) H) ∨ (J.go i H ∧ ∃ Nx : Hp → Prop, (∀ H', Nx H' → ∃ m', m' < m ∧ W (i + 1) m' H') ∧ ∀ x H', J.yld i H x H' → g x (wipe σ vs) H' fun σ2 H2 => wipe σ2 vs = wipe σ vs ∧ tt σ2 H2 fun b H3 =>
        if b = true then te σ2 H3 fun y H4 => ∃ acc, H4 D = some (.lst acc) ∧ acc.length < sizeLine ∧ Nx (upd H4 D (.lst (acc ++ [y]))) else Nx H3) := by
  obtain ⟨n, G, Y, w, hn, hG, hY⟩ := w.ex
  rw [filMm_comp, bd_assoc] at k
  refine lc_mir w en (fun _ _ _ => True) k e trivial stab_t hn hz hG hM (fun i s x v F' H' H'' g' _ hx y Q' k' => ?_) hx (fun r v F' H' g' _ d k' => kk r.1 v F' H' g' d k')
  obtain ⟨F'', g2, r⟩ := hY i x v F' H' H'' g' hx y
  exact hb x v F' H' F'' H'' g' g2 r Q' ((post_bd k').mono (fun o q F3 H3 v g3 d => q.h F3 H3 v g3 trivial (by cases o <;> exact d)) fun _ z => z)
end
end Wk

set_option Elab.async false
set_option linter.all false
set_option maxRecDepth 100000
set_option maxHeartbeats 2000000
namespace Wk
open PySem L2 Evl
theorem cdv_small {i j : Int} (h : j ≠ 0 ∧ j.natAbs < 1073741824) : CDv i j := by
  have e : j.natAbs < 2 ^ 30 := by have : (2 : Nat) ^ 30 = 1073741824 := by decide
                                   omega
  exact ⟨h.1, Nat.lt_of_lt_of_le (PySem.Flt.log2_lt_of (by decide) e) (by decide)⟩
/-! ### and, or: the second operand draws -/
section
variable {M : List Addr} {F H : Hp} {σ : L2.St} {α S : Type} {a : Bool} {Y : Mm (Bool × S)} {rest : Bool × S → Mm α} {st : S} {ok : α → Prop} {ex : Er → Prop} {Q : Bool → Hp → Prop} {u : TT} {QV : VK} {uE : TE}
theorem and_jS (W : S → Hp → Hp → Prop) (e : Ex F H) (h0 : W st F H) (k : Post ((cond a Y (.ok (false, st))).bd rest) ok ex)
    (hu : a = true → ∀ Q' : Bool → Hp → Prop, Post Y (fun b => ∀ F' H', Gm M F H F' H' → W b.2 F' H' → Q' b.1 H') ex → u σ H Q')
    (kk : ∀ b F' H', Gm M F H F' H' → W b.2 F' H' → Post (rest b) ok ex → Q b.1 H') : if a = true then u σ H Q else Q false H := by
  cases a with
  | false => rw [if_neg Bool.false_ne_true]; exact kk (false, st) F H (Gm.refl e) h0 ⟨k.h⟩
  | true => rw [if_pos rfl]; exact hu rfl Q ((post_bd k).mono (fun b q F' H' g s => kk b F' H' g s q) fun _ z => z)
theorem or_jS (W : S → Hp → Hp → Prop) (e : Ex F H) (h0 : W st F H) (k : Post ((cond a (.ok (true, st)) Y).bd rest) ok ex)
    (hu : a = false → ∀ Q' : Bool → Hp → Prop, Post Y (fun b => ∀ F' H', Gm M F H F' H' → W b.2 F' H' → Q' b.1 H') ex → u σ H Q')
    (kk : ∀ b F' H', Gm M F H F' H' → W b.2 F' H' → Post (rest b) ok ex → Q b.1 H') : if a = true then Q true H else u σ H Q := by
  cases a with
  | true => rw [if_pos rfl]; exact kk (true, st) F H (Gm.refl e) h0 ⟨k.h⟩
  | false => rw [if_neg Bool.false_ne_true]; exact hu rfl Q ((post_bd k).mono (fun b q F' H' g s => kk b F' H' g s q) fun _ z => z)
/-- as values -/
theorem andV_jS (W : S → Hp → Hp → Prop) (e : Ex F H) (h0 : W st F H) (k : Post ((cond a Y (.ok (false, st))).bd rest) ok ex)
    (hu : a = true → ∀ Q' : VK, Post Y (fun b => ∀ F' H', Gm M F H F' H' → W b.2 F' H' → Q' (.bl b.1) H') ex → uE σ H Q')
    (kk : ∀ b F' H', Gm M F H F' H' → W b.2 F' H' → Post (rest b) ok ex → QV (.bl b.1) H') : if a = true then uE σ H QV else QV (.bl false) H := by
  cases a with
  | false => rw [if_neg Bool.false_ne_true]; exact kk (false, st) F H (Gm.refl e) h0 ⟨k.h⟩
  | true => rw [if_pos rfl]; exact hu rfl QV ((post_bd k).mono (fun b q F' H' g s => kk b F' H' g s q) fun _ z => z)
theorem orV_jS (W : S → Hp → Hp → Prop) (e : Ex F H) (h0 : W st F H) (k : Post ((cond a (.ok (true, st)) Y).bd rest) ok ex)
    (hu : a = false → ∀ Q' : VK, Post Y (fun b => ∀ F' H', Gm M F H F' H' → W b.2 F' H' → Q' (.bl b.1) H') ex → uE σ H Q')
    (kk : ∀ b F' H', Gm M F H F' H' → W b.2 F' H' → Post (rest b) ok ex → QV (.bl b.1) H') : if a = true then QV (.bl true) H else uE σ H QV := by
  cases a with
  | true => rw [if_pos rfl]; exact kk (true, st) F H (Gm.refl e) h0 ⟨k.h⟩
  | false => rw [if_neg Bool.false_ne_true]; exact hu rfl QV ((post_bd k).mono (fun b q F' H' g s => kk b F' H' g s q) fun _ z => z)
end
/-! ### own lists: as data, repeated, popped -/
section
variable {K : PySem.W.Frag} {M : List Addr} {F F' H H' : Hp} {Q : VK} {α : Type} {en : α → PyData} {l m : List α} {xs ys : List V} {a p : Addr} {v : V} {j : Int}
theorem own_dp (h : H p = some (.lst xs)) (a : DqAll K F xs (l.map en)) (e : Ex F H) : Dp K H (.ref p) (eL en l) := .lst (sq_of h) (dqAll_dp _ _ (a.up e))
def repM {α : Type} (l : List α) (k : Int) : Mm (List α) := if -(2 ^ 63) ≤ k ∧ k < 2 ^ 63 ∧ l.length * k.toNat ≤ 100000 then .ok (List.replicate k.toNat l).flatten else .bad
theorem post_rep {β : Type} {f : List α → Mm β} {r : β → Prop} {q : Er → Prop} (h : Post ((repM l j).bd f) r q) : ∃ m, (-(2 ^ 63) ≤ j ∧ j < 2 ^ 63 ∧ l.length * j.toNat ≤ 100000) ∧ (List.replicate j.toNat l).flatten = m ∧ Post (f m) r q := by
  unfold repM at h
  split at h
  · exact ⟨_, ‹_›, rfl, ⟨h.h⟩⟩
  · exact h.h.elim
theorem all_rep (d : DqAll K F xs (l.map en)) : ∀ n : Nat, DqAll K F (List.replicate n xs).flatten ((List.replicate n l).flatten.map en)
  | 0 => .nil
  | n + 1 => by
    rw [List.replicate_succ, List.replicate_succ, List.flatten_cons, List.flatten_cons, List.map_append]
    exact d.app (all_rep d n)
theorem rep_sz (d : DqAll K F xs (l.map en)) {n : Nat} (h : l.length * n ≤ 100000) : xs.length * n ≤ sizeLine := sz_of (by rw [d.len, List.length_map]; exact h)
theorem rep_lst (e : Ex F H) (s : H a = some (.lst xs)) (d : DqAll K F xs (l.map en)) (h : -(2 ^ 63) ≤ j ∧ j < 2 ^ 63 ∧ l.length * j.toNat ≤ 100000) (hm : (List.replicate j.toNat l).flatten = m) (k : Ret M F H (fun F' _ v => Dq K F' v (eL en m)) Q) : rRep (.ref a) (.int j) H Q := by
  subst hm
  refine ⟨a, j, xs, rfl, rfl, s, h.1, h.2.1, rep_sz d h.2.2, fun p hp => ?_⟩
  have g : Gm M F H (upd F p (.lst (List.replicate j.toNat xs).flatten)) (upd H p (.lst (List.replicate j.toNat xs).flatten)) := Gm.new e hp
  exact k _ _ _ g (.lst upd_same ((all_rep d _).up g.f))
theorem rep_own (e : Ex F H) (s : H a = some (.lst xs)) (d : DqAll K F xs (l.map en)) (h : -(2 ^ 63) ≤ j ∧ j < 2 ^ 63 ∧ l.length * j.toNat ≤ 100000) (k : ∀ p H', Gm [] F H F H' → H p = none → (H' p = some (.lst (List.replicate j.toNat xs).flatten) ∧ F p = none) → Q (.ref p) H') : rRep (.ref a) (.int j) H Q :=
  ⟨a, j, xs, rfl, rfl, s, h.1, h.2.1, rep_sz d h.2.2, own_of e k⟩
theorem all_repM (d : DqAll K F xs (l.map en)) (hm : (List.replicate j.toNat l).flatten = m) : DqAll K F (List.replicate j.toNat xs).flatten (m.map en) := by
  subst hm
  exact all_rep d _
def popN {α : Type} (l : List α) : Mm (List α) := match l with
  | [] => .bad
  | x :: r => .ok (x :: r).dropLast
theorem post_pop {β : Type} {f : List α → Mm β} {r : β → Prop} {q : Er → Prop} (h : Post ((popN l).bd f) r q) : l ≠ [] ∧ Post (f l.dropLast) r q := by
  cases l with
  | nil => exact h.h.elim
  | cons x l => exact ⟨by simp, ⟨h.h⟩⟩
theorem all_pop (d : DqAll K F xs (l.map en)) : DqAll K F xs.dropLast (l.dropLast.map en) := by
  have e1 : xs.dropLast = xs.take (xs.length - 1) := List.dropLast_eq_take
  have e2 : l.dropLast.map en = (l.map en).take (xs.length - 1) := by
    rw [List.dropLast_eq_take, List.map_take, d.len, List.length_map]
  rw [e1, e2]
  exact d.take _
theorem pop_at (d : DqAll K F xs (l.map en)) (h : l ≠ []) : ∃ y, xs[xs.length - 1]? = some y := by
  have n : xs.length = l.length := by rw [d.len, List.length_map]
  have : 0 < l.length := List.length_pos_iff.mpr h
  exact ⟨_, List.getElem?_eq_getElem (by omega)⟩
end
/-! ### range that goes down -/
def rangeDn (lo : Int) (n : Nat) : List Int := (List.range n).map fun (i : Nat) => lo - (i : Int)
def rangeM3 (i j : Int) : Mm (List Int) := if -(2 ^ 62) ≤ i ∧ i < 2 ^ 62 ∧ -(2 ^ 62) ≤ j ∧ j < 2 ^ 62 then .ok (rangeDn i (i - j).toNat) else .bad
section
variable {β : Type} {r : β → Prop} {q : Er → Prop} {i j : Int} {f : List Int → Mm β}
theorem post_range3 (h : Post ((rangeM3 i j).bd f) r q) : RgC i j (-1) (i - j).toNat ∧ Post (f (rangeDn i (i - j).toNat)) r q := by
  unfold rangeM3 at h
  split at h
  · rename_i c
    exact ⟨RgC.neg c.1 c.2.1 c.2.2.1 c.2.2.2, ⟨h.h⟩⟩
  · exact h.h.elim
theorem rangeDn_at {lo : Int} {n i : Nat} {x : Int} (h : (rangeDn lo n)[i]? = some x) : x = lo - i := by
  unfold rangeDn at h
  rw [List.getElem?_map] at h
  cases e : (List.range n)[i]? with
  | none => rw [e] at h; cases h
  | some j =>
    rw [e] at h
    obtain ⟨h1, h2⟩ := List.getElem?_eq_some_iff.mp e
    rw [List.getElem_range] at h2
    subst h2
    exact (Option.some.inj h).symm
theorem wlk_rangeDn {M : List Addr} {F H : Hp} {lo : Int} {n : Nat} : Wlk M F H (Itc lo (-1) n) (rangeDn lo n) (fun _ v x => v = V.int x) := by
  refine ⟨_, _, _, walk_rangeC (lo := lo) (c := -1) (n := n), by simp [rangeDn], fun _ _ _ => trivial, fun i x v F' H' H'' g' hx y => ?_⟩
  obtain ⟨rfl, hv⟩ := y
  rw [rangeDn_at hx]
  have e2 : lo + (i : Int) * (-1) = lo - (i : Int) := by omega
  rw [← e2]
  exact ⟨F', Gm.refl g'.s, hv⟩
end
/-! ### comprehensions whose list may change -/
section
variable {K : PySem.W.Frag} {M : List Addr} {F H : Hp} {σ : L2.St} {g : TG} {tt : TT} {te : TE} {vs : List Nat} {α β γ S : Type} {l : List α} {f : S → α → Mm (Option γ × S)} {rest : List γ × S → Mm β} {ok : β → Prop} {ex : Er → Prop} {s0 : S} {J : It} {n : Nat} {G : Hp → Prop} {Y : Nat → Hp → V → Hp → Prop} {Q : VK}
theorem lc_mirO (w : Walk J n G Y) (en : γ → PyData) (I : S → Hp → Hp → Prop) (k : Post ((compM f s0 l).bd rest) ok ex) (e : Ex F H) (h0 : I s0 F H) (st : Stab I H) (hn : l.length = n) (hz : l.length ≤ 50000) (hG : ∀ F' H', Gm M F H F' H' → G H')
    (hM : ∀ D, H D = none → D ∉ M)
    (hb : ∀ i s x v F' H' H'', Gm M F H F' H' → I s F' H' → l[i]? = some x → Y i H' v H'' → ∀ Q : Option V → Hp → Prop,
      Post (f s x) (fun o => ∀ F2 H2 v, Gm M F' H' F2 H2 → I o.2 F2 H2 → (match o.1 with
        | some y => ∃ u, v = some u ∧ Dq K F2 u (en y)
        | none => v = none) → Q v H2) (fun _ => False) →
      g v (wipe σ vs) H'' fun σ2 H2 => wipe σ2 vs = wipe σ vs ∧ tt σ2 H2 fun b H3 => if b = true then te σ2 H3 fun y H4 => Q (some y) H4 else Q none H3)
    (hx : ∀ e, ¬ ex e)
    (kk : ∀ (r : List γ × S) D xs F' H', Gm M F H F' H' → I r.2 F' H' → H D = none → (H' D = some (.lst xs) ∧ F' D = none) → DqAll K F' xs (r.1.map en) → Post (rest r) ok ex → Q (.ref D) H') :
    ∀ D, H D = none → ∃ W : Nat → Nat → Hp → Prop, (∃ m, W 0 m (upd H D (.lst []))) ∧ ∀ i m H, W i m H →
      (J.stop i H ∧ Q (.ref D) H) ∨ (J.go i H ∧ ∃ Nx : Hp → Prop, (∀ H', Nx H' → ∃ m', m' < m ∧ W (i + 1) m' H') ∧ ∀ x H', J.yld i H x H' → g x (wipe σ vs) H' fun σ2 H2 => wipe σ2 vs = wipe σ vs ∧ tt σ2 H2 fun b H3 =>
        if b = true then te σ2 H3 fun y H4 => ∃ acc, H4 D = some (.lst acc) ∧ acc.length < sizeLine ∧ Nx (upd H4 D (.lst (acc ++ [y]))) else Nx H3) := by
  intro D hD
  have k0 : Post ((compM f s0 (l.drop 0)).bd fun r => rest ([] ++ r.1, r.2)) ok ex := by simpa using k
  refine lc_it w (fun i H' => ∃ (s : S) (acc : List γ) (xs : List V) (F' : Hp), Gm M F H F' H' ∧ I s F' H' ∧ H' D = some (.lst xs) ∧ F' D = none ∧ DqAll K F' xs (acc.map en) ∧ xs.length ≤ i ∧ Post ((compM f s (l.drop i)).bd fun r => rest (acc ++ r.1, r.2)) ok ex)
    ⟨s0, [], [], F, Gm.newM e hD, st.put s0 F H D _ h0 hD, upd_same, ?_, .nil, Nat.le_refl _, k0⟩ (fun i H' _ ⟨s, acc, xs, F', g', _⟩ => hG F' H' g') ?_ ?_
  · cases q : F D with
    | none => rfl
    | some u => rw [e D u q] at hD; cases hD
  · rintro i v H' H'' hi ⟨s, acc, xs, F', g', i', hL, fL, ha, hlen, k'⟩ y
    have hl : i < l.length := by omega
    have e1 : l.drop i = l[i] :: l.drop (i + 1) := List.drop_eq_getElem_cons hl
    rw [e1] at k'
    have k2 := comp_post k'
    have hDM : D ∉ M := hM D hD
    have z := hb i s l[i] v F' H' H'' g' i' (List.getElem?_eq_getElem hl) y (fun o H4 => match o with
      | some y => ∃ acc', H4 D = some (.lst acc') ∧ acc'.length < sizeLine ∧ ∃ (s : S) (acc : List γ) (xs : List V) (F' : Hp), Gm M F H F' (upd H4 D (.lst (acc' ++ [y]))) ∧ I s F' (upd H4 D (.lst (acc' ++ [y]))) ∧ (upd H4 D (.lst (acc' ++ [y]))) D = some (.lst xs) ∧ F' D = none ∧ DqAll K F' xs (acc.map en) ∧ xs.length ≤ i + 1 ∧ Post ((compM f s (l.drop (i + 1))).bd fun r => rest (acc ++ r.1, r.2)) ok ex
      | none => ∃ (s : S) (acc : List γ) (xs : List V) (F' : Hp), Gm M F H F' H4 ∧ I s F' H4 ∧ H4 D = some (.lst xs) ∧ F' D = none ∧ DqAll K F' xs (acc.map en) ∧ xs.length ≤ i + 1 ∧ Post ((compM f s (l.drop (i + 1))).bd fun r => rest (acc ++ r.1, r.2)) ok ex)
      (k2.mono (fun o q F2 H2 v2 g2 i2 hv => ?_) fun e z => (hx e z).elim)
    · exact z
    · obtain ⟨h2L, f2L⟩ := g2.own hDM hL fL
      obtain ⟨o1, o2⟩ := o
      cases o1 with
      | some y =>
        obtain ⟨u, rfl, hu⟩ := hv
        refine ⟨xs, h2L, sz_lt (by omega), o2, acc ++ [y], xs ++ [u], F2, ?_, st.put _ _ _ _ _ i2 hD, upd_same, f2L, ?_, ?_, ?_⟩
        · exact (g'.trans g2).putYoung h2L f2L hD
        · rw [List.map_append]; exact (ha.up g2.f).app (.cons hu .nil)
        · rw [List.length_append, List.length_singleton]; omega
        · simpa using q
      | none =>
        subst hv
        refine ⟨o2, acc, xs, F2, g'.trans g2, i2, h2L, f2L, ha.up g2.f, by omega, ?_⟩
        simpa using q
  · rintro H' ⟨s, acc, xs, F', g', i', hL, fL, ha, hlen, k'⟩
    rw [← hn, List.drop_length] at k'
    exact kk (acc, s) D xs F' H' g' i' hD ⟨hL, fL⟩ ha (by simpa [compM] using k')
end
section
variable {K : PySem.W.Frag} {M : List Addr} {F H : Hp} {σ : L2.St} {g : TG} {tt : TT} {te : TE} {vs : List Nat} {α β γ S : Type} {l : List α} {ok : β → Prop} {ex : Er → Prop} {s0 : S} {J : It} {R : Hp → V → α → Prop} {Q : VK}
theorem lc_mapO {f : α → Mm γ} {rest : List γ → Mm β} (w : Wlk M F H J l R) (en : γ → PyData) (k : Post ((mapMm f l).bd rest) ok ex) (e : Ex F H) (hz : l.length ≤ 50000) (hM : ∀ D, H D = none → D ∉ M)
    (hb : ∀ x v F1 H1 F2 H2, Gm M F H F1 H1 → Gm [] F1 H1 F2 H2 → R F2 v x → ∀ Q : VK, Post (f x) (fun y => Ret M F1 H1 (fun F3 _ u => Dq K F3 u (en y)) Q) (fun _ => False) →
      g v (wipe σ vs) H2 fun σ2 H3 => wipe σ2 vs = wipe σ vs ∧ te σ2 H3 Q)
    (hx : ∀ e, ¬ ex e) (kk : ∀ (r : List γ) D xs F' H', Gm M F H F' H' → H D = none → (H' D = some (.lst xs) ∧ F' D = none) → DqAll K F' xs (r.map en) → Post (rest r) ok ex → Q (.ref D) H') (mono : GMon g) :
    ∀ D, H D = none → ∃ W : Nat → Nat → Hp → Prop, (∃ m, W 0 m (upd H D (.lst []))) ∧ ∀ i m H, W i m H →
      (J.stop i H ∧ Q (.ref D) H) ∨ (J.go i H ∧ ∃ Nx : Hp → Prop, (∀ H', Nx H' → ∃ m', m' < m ∧ W (i + 1) m' H') ∧ ∀ x H', J.yld i H x H' → g x (wipe σ vs) H' fun σ2 H2 => wipe σ2 vs = wipe σ vs ∧ tYes σ2 H2 fun b H3 =>
        if b = true then te σ2 H3 fun y H4 => ∃ acc, H4 D = some (.lst acc) ∧ acc.length < sizeLine ∧ Nx (upd H4 D (.lst (acc ++ [y]))) else Nx H3) := by
  obtain ⟨n, G, Y, w, hn, hG, hY⟩ := w.ex
  rw [mapMm_comp, bd_assoc] at k
  refine lc_mirO w en (fun _ _ _ => True) k e trivial stab_t hn hz hG hM (fun i s x v F' H' H'' g' _ hx y Q' k' => ?_) hx (fun r D xs F' H' g' _ hD o d k' => kk r.1 D xs F' H' g' hD o d k')
  obtain ⟨F'', g2, r⟩ := hY i x v F' H' H'' g' hx y
  refine mono _ _ _ _ _ (fun σ2 H3 z => ⟨z.1, ?_⟩) (hb x v F' H' F'' H'' g' g2 r (fun u H4 => Q' (some u) H4) ((post_bd k').mono (fun y q u F3 H3 g3 d => q.h F3 H3 _ g3 trivial ⟨u, rfl, d⟩) fun _ z => z))
  exact tYes_of (iteT z.2)
theorem lc_stO {f : Rw → α → Mm (γ × Rw)} {s0 : Rw} {rest : List γ × Rw → Mm β} {sc ra : Addr} {scr : List Int} (w : Wlk [ra] F H J l R) (en : γ → PyData) (k : Post ((mapSt f s0 l).bd rest) ok ex) (e : Ex F H) (hz : l.length ≤ 50000) (h0 : RowAt K sc ra scr F H s0)
    (hb : ∀ s x v F1 H1 F2 H2, Gm [ra] F H F1 H1 → RowAt K sc ra scr F1 H1 s → Gm [] F1 H1 F2 H2 → R F2 v x → ∀ Q : VK, Post (f s x) (fun y => Ret [ra] F1 H1 (fun F3 H3 u => Dq K F3 u (en y.1) ∧ RowAt K sc ra scr F3 H3 y.2) Q) (fun _ => False) →
      g v (wipe σ vs) H2 fun σ2 H3 => wipe σ2 vs = wipe σ vs ∧ te σ2 H3 Q)
    (hx : ∀ e, ¬ ex e) (kk : ∀ (r : List γ × Rw) D xs F' H', Gm [ra] F H F' H' → H D = none → (H' D = some (.lst xs) ∧ F' D = none) → DqAll K F' xs (r.1.map en) → RowAt K sc ra scr F' H' r.2 → Post (rest r) ok ex → Q (.ref D) H') (mono : GMon g) :
    ∀ D, H D = none → ∃ W : Nat → Nat → Hp → Prop, (∃ m, W 0 m (upd H D (.lst []))) ∧ ∀ i m H, W i m H →
      (J.stop i H ∧ Q (.ref D) H) ∨ (J.go i H ∧ ∃ Nx : Hp → Prop, (∀ H', Nx H' → ∃ m', m' < m ∧ W (i + 1) m' H') ∧ ∀ x H', J.yld i H x H' → g x (wipe σ vs) H' fun σ2 H2 => wipe σ2 vs = wipe σ vs ∧ tYes σ2 H2 fun b H3 =>
        if b = true then te σ2 H3 fun y H4 => ∃ acc, H4 D = some (.lst acc) ∧ acc.length < sizeLine ∧ Nx (upd H4 D (.lst (acc ++ [y]))) else Nx H3) := by
  obtain ⟨n, G, Y, w, hn, hG, hY⟩ := w.ex
  rw [mapSt_comp] at k
  refine lc_mirO w en (fun s F H => RowAt K sc ra scr F H s) k e h0 (stab_row h0) hn hz hG (row_notM h0) (fun i s x v F' H' H'' g' i' hx y Q' k' => ?_) hx (fun r D xs F' H' g' i' hD o d k' => kk r D xs F' H' g' hD o d i' k')
  obtain ⟨F'', g2, r⟩ := hY i x v F' H' H'' g' hx y
  refine mono _ _ _ _ _ (fun σ2 H3 z => ⟨z.1, ?_⟩) (hb s x v F' H' F'' H'' g' i' g2 r (fun u H4 => Q' (some u) H4) ((post_bd k').mono (fun y q u F3 H3 g3 d => q.h F3 H3 _ g3 d.2 ⟨u, rfl, d.1⟩) fun _ z => z))
  exact tYes_of (iteT z.2)
end
end Wk

set_option Elab.async false
set_option linter.all false
set_option maxRecDepth 100000
set_option maxHeartbeats 4000000
namespace Wk
open PySem L2 Evl PySem.Spec PyProof.Rows
/-! ### zip of a tuple and a list -/
/-- the tuple at a and the list at b, side by side -/
def ItzM (K : PySem.W.Frag) (a b : Addr) : It :=
  ⟨fun n H => ∃ (us vs : List V) (u v : V), (SqT K H a us ∧ us[n]? = some u) ∧ SqL K H b vs ∧ vs[n]? = some v,
   fun n H r H' => ∃ c u v, r = .ref c ∧ H c = none ∧ H' = upd H c (.tup [u, v]) ∧ (∀ l, SqT K H a l → l[n]? = some u) ∧ ∀ l, SqL K H b l → l[n]? = some v,
   fun n H => ∃ us vs : List V, (SqT K H a us ∧ SqL K H b vs) ∧ (n ≤ us.length ∧ n ≤ vs.length) ∧ (n = us.length ∨ n = vs.length)⟩
/-- where such a zip stands -/
structure StM (z TI TO i1 i2 a b : Addr) (n : Nat) (h : Heap) : Prop where
  hz : IsZip h z TI TO .none
  hi : IsTupOf2 h TI (.ref i1) (.ref i2)
  ho : ∃ p q, IsTupOf2 h TO p q
  h1 : h.IsTupleIter i1 a n
  h2 : h.IsListIter i2 b n
theorem five {α : Type} {c z TI TO i1 i2 : α} (h : c ∈ [z, TI, TO, i1, i2]) : c = z ∨ c = TI ∨ c = TO ∨ c = i1 ∨ c = i2 := by simpa using h
theorem turn_zipM {P : Program} {w : World} {K : PySem.W.Frag} {es : List Expr} {kk : Nat} {tp : Pos} {a b z TI TO i1 i2 : Addr} (S : ZipSep2 z TI TO i1 i2 [i1, a] [i2, b]) (na : a ≠ i1) (nb : b ≠ i2) :
    Turn P w K (.Tuple es kk tp) (ItzM K a b) [z, TI, TO, i1, i2] z (StM z TI TO i1 i2 a b) where
  mem := by simp
  obj := fun n h st c hc => by
    obtain ⟨hz, hi, ⟨p, q, ho⟩, ⟨o1, e1, _, d1⟩, ⟨o2, e2, _, d2⟩⟩ := st
    rcases five hc with rfl | rfl | rfl | rfl | rfl
    · exact ⟨_, hz, fun _ k => nomatch k⟩
    · exact ⟨_, hi, fun _ k => nomatch k⟩
    · exact ⟨_, ho, fun _ k => nomatch k⟩
    · exact ⟨o1, e1, fun _ k => by rw [d1] at k; cases k⟩
    · exact ⟨o2, e2, fun _ k => by rw [d2] at k; cases k⟩
  keep := fun n h h' st k => by
    obtain ⟨hz, hi, ⟨p, q, ho⟩, h1, h2⟩ := st
    exact ⟨k z (by simp) _ hz, k TI (by simp) _ hi, ⟨p, q, k TO (by simp) _ ho⟩, h1.at fun o e => k i1 (by simp) o e, h2.at fun o e => k i2 (by simp) o e⟩
  item := by
    intro X hP hw hK hc n pins s σ H E I hf st hg
    subst hP hw hK
    obtain ⟨hz, hi, ⟨p0, q0, ho⟩, h1, h2⟩ := st
    obtain ⟨us, vs, u, v, ⟨qa, ga⟩, qb, gb⟩ := hg
    obtain ⟨A1, ra, pa, _⟩ := I.tuple qa
    obtain ⟨A2, rb, pb, _⟩ := I.list qb
    obtain ⟨x, hx, rx⟩ := ra.get ga
    obtain ⟨y, hy, ry⟩ := rb.get gb
    have lz : z < s.heap.objs.size := Heap.lt_size hz
    have pT : s.heap.IsTuple a A1.toArray := pa
    have pL : s.heap.IsList b A2.toArray := pb.isList
    have hand : X.A.in1.handled = none := I.ok.hd hc
    have D1 := Draws.tuple (prog := X.prog) (w := X.w) (A := X.A.in1) hand i1 a na A1.toArray
    have D2 := Draws.list (prog := X.prog) (w := X.w) (A := X.A.in1) hand i2 b nb A2.toArray
    have n1 : n < A1.toArray.size := by
      have := (List.getElem?_eq_some_iff.mp hx).1
      simpa using this
    have n2 : n < A2.toArray.size := by
      have := (List.getElem?_eq_some_iff.mp hy).1
      simpa using this
    refine wpAny_pyNext_zipD2_item S D1 D2 hz hi ho ⟨h1, pT⟩ ⟨h2, pL⟩ n1 n2 fun x' y' h' tk ex ey z' o' s1' s2' hT hsz hk => ?_
    have e1 : x = x' := by
      have k : A1.toArray[n]? = some x := by simpa using hx
      exact Option.some.inj (k.symm.trans ex)
    have e2 : y = y' := by
      have k : A2.toArray[n]? = some y := by simpa using hy
      exact Option.some.inj (k.symm.trans ey)
    subst e1 e2
    refine ⟨_, rfl, wpAny_letOwnedTupleGo_zip (s := { s with heap := h', toks := tk }) z' fun h'' z'' sb => ?_⟩
    have cell : h''.get? s.heap.objs.size = some { cls := .type "tuple", data := .seq #[x, y] } := (sb.2 _ (Nat.ne_of_gt lz)).trans hT
    have new : ObjOk X.prog X.w (upd H s.heap.objs.size (.tup [u, v])) h'' s.heap.objs.size (.tup [u, v]) := by
      refine ⟨?_, [x, y], .cons rx (.cons ry .nil), _, cell, rfl, _, rfl⟩
      show 2 ≤ sizeLine
      decide
    have same : ∀ c o, c ∉ [z, TI, TO, i1, i2] → s.heap.get? c = some o → h''.get? c = some o := fun c o hn e => by
      simp only [List.mem_cons, List.not_mem_nil, or_false, not_or] at hn
      exact (sb.2 c hn.1).trans (hk c o hn.1 hn.2.2.1 hn.2.2.2.1 hn.2.2.2.2 e)
    have J := I.turnedNew (t' := tk) (ch := [z, TI, TO, i1, i2]) same hf (Nat.le_refl _) new
    obtain ⟨it1, _⟩ := s1'
    obtain ⟨it2, _⟩ := s2'
    have dz : i1 ≠ z := fun e => S.zi1 e.symm
    have dz2 : i2 ≠ z := fun e => S.zi2 e.symm
    refine ⟨.ref s.heap.objs.size, _, J, rfl, ⟨_, u, v, rfl, I.hok.fresh (Nat.le_refl _), rfl, fun l hl => ?_, fun l hl => ?_⟩, ⟨z'', ?_, ⟨x, y, ?_⟩, it1.at fun o q => (sb.2 _ dz).trans q, it2.at fun o q => (sb.2 _ dz2).trans q⟩, fun c hc' => ?_⟩
    · rw [I.tuple_inj hl qa]
      exact ga
    · rw [I.list_inj hl qb]
      exact gb
    · exact (sb.2 _ S.TIz).trans (hk _ _ S.TIz S.TITO S.TIi1 S.TIi2 hi)
    · exact (sb.2 _ S.TOz).trans o'
    · have lt : c < s.heap.objs.size := by
        rcases five hc' with rfl | rfl | rfl | rfl | rfl
        · exact lz
        · exact Heap.lt_size hi
        · exact Heap.lt_size ho
        · obtain ⟨_, q, _⟩ := h1
          exact Heap.lt_size q
        · obtain ⟨_, q, _⟩ := h2
          exact Heap.lt_size q
      rw [upd_ne (Nat.ne_of_lt lt)]
      exact (hf c hc').1
  done := by
    intro X hP hw hK hc n pins s σ H E I hf st hg
    subst hP hw hK
    obtain ⟨hz, hi, ⟨p0, q0, ho⟩, h1, h2⟩ := st
    obtain ⟨us, vs, ⟨qa, qb⟩, ⟨l1, l2⟩, hend⟩ := hg
    obtain ⟨A1, ra, pa, _⟩ := I.tuple qa
    obtain ⟨A2, rb, pb, _⟩ := I.list qb
    have w1 := ra.length
    have w2 := rb.length
    have pT : s.heap.IsTuple a A1.toArray := pa
    have pL : s.heap.IsList b A2.toArray := pb.isList
    have hand : X.A.in1.handled = none := I.ok.hd hc
    have D1 := Draws.tuple (prog := X.prog) (w := X.w) (A := X.A.in1) hand i1 a na A1.toArray
    have D2 := Draws.list (prog := X.prog) (w := X.w) (A := X.A.in1) hand i2 b nb A2.toArray
    have m1 : A1.toArray.size = us.length := by simp only [List.size_toArray]; omega
    have m2 : A2.toArray.size = vs.length := by simp only [List.size_toArray]; omega
    refine wpAny_pyNext_zipD2_end S D1 D2 hz hi ho ⟨h1, pT⟩ ⟨h2, pL⟩ (by omega) (by omega) (by omega) fun h' tk hk => ⟨rfl, I.turnedL (t' := tk) (ch := [z, TI, TO, i1, i2]) (fun c o hn e => ?_) hf⟩
    simp only [List.mem_cons, List.not_mem_nil, or_false, not_or] at hn
    exact hk c o hn.1 hn.2.2.1 hn.2.2.2.1 hn.2.2.2.2 e
  self := fun A i s Q E st h => wpAny_pyIter_zip st.hz h
def iZipM (K : PySem.W.Frag) (ta : TA) : TI := fun σ H R => ta σ H fun rs H1 => ∃ a b us vs, rs = [.ref a, .ref b] ∧ (SqT K H1 a us ∧ SqL K H1 b vs) ∧ R (ItzM K a b) H1
theorem pi_zipM {X : Cx} {e e2 : Expr} {ta : TA} {p pos tp : Pos} {es : List Expr} {kk : Nat} (hg : Gl X "zip") (hm : X.mg "zip" = none) (ha : PA X [e, e2] ta)
    (hs : starEach [e, e2] X.env = (false, eval e X.env) :: starEach [e2] X.env := by rfl) (hp : (backTo pos (starEach [e2] X.env)).any (·.1) = false := by rfl) :
    PI X (.Tuple es kk tp) (.Call (.Name "zip" p) [e, e2] [] pos) (iZipM X.K ta) := by
  refine ⟨fun pins s σ H R I h => Call_ (ld_blt I hg hm PyProof.Rows.boot_zip (PyProof.Rows.callWith_type1 (thn (ha.run pos pins s σ H _ I h) fun rs s1 got => ?_) hs hp))⟩
  obtain ⟨vs', H1, I1, rel, a, b, us, vs, rfl, ⟨qa, qb⟩, q⟩ := got
  cases rel with
  | cons r1 rel =>
    cases rel with
    | cons r2 rel =>
      cases rel
      cases r1
      cases r2
      obtain ⟨A1, ra, pa, _⟩ := I1.tuple qa
      obtain ⟨A2, rb, pb, _⟩ := I1.list qb
      have pT : s1.heap.IsTuple a A1.toArray := pa
      have pL : s1.heap.IsList b A2.toArray := pb.isList
      have la : a < s1.heap.objs.size := by
        obtain ⟨o, g, _⟩ := pT
        exact Heap.lt_size g
      have lb : b < s1.heap.objs.size := by
        obtain ⟨o, g, _⟩ := pL
        exact Heap.lt_size g
      refine zip_begins2 (begins_tuple a A1.toArray) (begins_list b A2.toArray) pT pL fun h' hz hi ho g1 g2 hsz hk => wpAny_pyIter_zip hz ?_
      have I2 : Inv X pins σ H1 { s1 with heap := h' } := I1.kept (t' := s1.toks) hk
      have S := zip_sep2 (N := s1.heap.objs.size) (fp1 := [a]) (fp2 := [b]) (fun c hc => by rw [List.mem_singleton.mp hc]; exact la) (fun c hc => by rw [List.mem_singleton.mp hc]; exact lb)
      refine ⟨_, _, _, _, H1, rfl, I2, turn_zipM (a := a) (b := b) S (Nat.ne_of_lt la) (Nat.ne_of_lt (Nat.lt_succ_of_lt lb)), ⟨hz, hi, ⟨_, _, ho⟩, ⟨_, g1, rfl, rfl⟩, ⟨_, g2, rfl, rfl⟩⟩, fun c hc => ?_, q⟩
      have le : s1.heap.objs.size ≤ c := by
        rcases five hc with rfl | rfl | rfl | rfl | rfl
        · exact Nat.le_add_right _ _
        · exact Nat.le_add_right _ _
        · exact Nat.le_add_right _ _
        · exact Nat.le_refl _
        · exact Nat.le_add_right _ _
      exact I1.fpOk le (I1.hok.fresh le)
section
variable {K : PySem.W.Frag} {M : List Addr} {F H : Hp} {α α' : Type} {us vs : List V} {l : List α} {l' : List α'} {en : α → PyData} {en' : α' → PyData} {a b : Addr}
theorem wlk_zipM (e : Ex F H) (h : SqT K F a us) (da : DqAll K F us (l.map en)) (h' : F b = some (.lst vs)) (da' : DqAll K F vs (l'.map en')) : Wlk M F H (ItzM K a b) (l.zip l') (fun F v x => Dq K F v (e2 en en' x)) := by
  have hl : us.length = l.length := by rw [da.len, List.length_map]
  have hl' : vs.length = l'.length := by rw [da'.len, List.length_map]
  refine ⟨min us.length vs.length, fun H => SqT K H a us ∧ SqL K H b vs, YPair (fun i => us[i]?) (fun i => vs[i]?), ⟨fun i _ hi q => ⟨us, vs, us[i], vs[i], ⟨q.1, by simp⟩, q.2, by simp⟩, fun _ q => ⟨us, vs, q, by omega, by omega⟩, fun i H v H' _ q y => ?_⟩, by rw [List.length_zip, hl, hl'], fun F' H' g' => ⟨ex_t g'.s (ex_t g'.f h), sq_of (g'.s _ _ (g'.f _ _ h'))⟩, fun i x v F' H' H'' g' hx y => ?_⟩
  · obtain ⟨T, x, y, h1, h2, h3, h4, h5⟩ := y
    exact ⟨T, x, y, h1, h2, h3, h4 us q.1, h5 vs q.2⟩
  · obtain ⟨c, u, w, rfl, hc, rfl, h1, h2⟩ := y
    obtain ⟨d1, k1, q1⟩ := (da.up g'.f).getV h1
    obtain ⟨d2, k2, q2⟩ := (da'.up g'.f).getV h2
    obtain ⟨x1, x2⟩ := x
    obtain ⟨hx1, hx2⟩ := List.getElem?_zip_eq_some.mp hx
    have f1 : l[i]? = some x1 := hx1
    have f2 : l'[i]? = some x2 := hx2
    rw [List.getElem?_map, f1] at k1
    rw [List.getElem?_map, f2] at k2
    cases k1
    cases k2
    have g2 : Gm [] F' H' (upd F' c (.tup [u, w])) (upd H' c (.tup [u, w])) := Gm.new g'.s hc
    refine ⟨_, g2, .tup (st_of upd_same) (.cons (q1.up g2.f) (.cons (q2.up g2.f) .nil))⟩
end
end Wk

set_option Elab.async false
set_option linter.all false
set_option maxRecDepth 100000
set_option maxHeartbeats 2000000
namespace Wk
open PySem L2 Evl
section
variable {K : PySem.W.Frag} {M : List Addr} {F H : Hp} {Q : VK} {j : Int}
/-- list(range(j)) -/
theorem lst_rg (e : Ex F H) (h : 0 ≤ j ∧ j ≤ 100000) (k : Ret M F H (fun F' _ v => Dq K F' v (eL PyData.int (rangeL 0 j.toNat))) Q) : RgOk 0 j ∧ ∀ q, H q = none → Q (.ref q) (upd H q (.lst (rgV 0 j))) :=
  ⟨RgOk.of_le (by omega) (by omega) (by omega) (by omega), fun p hp => by
    have g : Gm M F H (upd F p (.lst (rgV 0 j))) (upd H p (.lst (rgV 0 j))) := Gm.new e hp
    have e1 : rgV 0 j = (rangeL 0 j.toNat).map V.int := by
      unfold rgV rangeL
      rw [List.map_map, Int.sub_zero]
      rfl
    refine k _ _ _ g (.lst upd_same ?_)
    rw [e1]
    exact ints_all _⟩
end
/-! ### an int in a tuple of ints -/
section
variable {X : Cx}
def rInV (K : PySem.W.Frag) : R2 := fun x y H Q => ∃ (a : Int) (l : List Int), Dp K H x (.int a) ∧ Dp K H y (eV PyData.int l) ∧ Q (.bl (hasM l a)) H
def rNotInV (K : PySem.W.Frag) : R2 := fun x y H Q => ∃ (a : Int) (l : List Int), Dp K H x (.int a) ∧ Dp K H y (eV PyData.int l) ∧ Q (.bl (!hasM l a)) H
theorem dpAll_ints {K : PySem.W.Frag} {H : Hp} : ∀ {l : List Int} {xs : List V}, DpAll K H xs (l.map PyData.int) → xs = l.map V.int
  | [], _, h => by cases h; rfl
  | i :: l, _, h => by
    cases h with
    | cons h hr =>
      cases h
      rw [dpAll_ints hr]
      rfl
theorem flat_ints : ∀ l : List Int, (l.map V.int).all flatV = true
  | [] => rfl
  | i :: l => by rw [List.map_cons, List.all_cons, flat_ints l]; rfl
theorem inV_ints (a : Int) : ∀ l : List Int, inV (V.int a) (l.map V.int) = hasM l a
  | [] => rfl
  | i :: l => by
    have e := inV_ints a l
    unfold inV hasM at e ⊢
    rw [List.map_cons, List.any_cons, e, List.contains_cons]
    congr 1
    show decide (i = a) = decide (a = i)
    exact decide_eq_decide.mpr ⟨Eq.symm, Eq.symm⟩
theorem op_inV : OpR X (compareOp .In) (rInV X.K) := by
  intro pins s σ H x y v u Q I rx ry h
  obtain ⟨a, l, hx, hy, q⟩ := h
  cases hx
  cases hy with
  | tup st da =>
    obtain rfl := dpAll_ints da
    refine op_in_seq pins s σ H _ _ v u Q I rx ry ⟨_, _, rfl, .inr st, rfl, flat_ints l, ?_⟩
    rw [if_neg Bool.false_ne_true, inV_ints]
    exact q
theorem op_notInV : OpR X (compareOp .NotIn) (rNotInV X.K) := by
  intro pins s σ H x y v u Q I rx ry h
  obtain ⟨a, l, hx, hy, q⟩ := h
  cases hx
  cases hy with
  | tup st da =>
    obtain rfl := dpAll_ints da
    refine op_notIn_seq pins s σ H _ _ v u Q I rx ry ⟨_, _, rfl, .inr st, rfl, flat_ints l, ?_⟩
    rw [if_pos rfl, inV_ints]
    exact q
end
end Wk

set_option Elab.async false
set_option linter.all false
set_option maxRecDepth 100000
set_option maxHeartbeats 1000000
set_option exponentiation.threshold 100
namespace Wk
open PySem L2
theorem bdo {α β : Type} {a : α} {f : α → Mm β} : (Mm.ok a).bd f = f a := rfl
theorem cF {α : Type} {c : Bool} {x y : α} (h : c = false) : cond c x y = y := by subst h; rfl
theorem cT {α : Type} {c : Bool} {x y : α} (h : c = true) : cond c x y = x := by subst h; rfl
theorem guard_ok {c : Prop} [Decidable c] (h : c) : guardM c = .ok () := if_pos h
theorem intc_ne {n : Int} (h : n ≠ 0) : ((n : Int) : Rat) ≠ 0 := fun z => h (Rat.intCast_inj.mp (show ((n : Int) : Rat) = ((0 : Int) : Rat) from z))
theorem fr_zero : fr 0 = (0, 1) := by decide
theorem fr_one : fr 1 = (1, 1) := by decide
theorem fr_of_int (n : Int) : fr ((n : Int) : Rat) = (n, 1) := by
  unfold fr
  rw [Rat.num_intCast, Rat.den_intCast]
  rfl
theorem sq_int {n : Int} {a : Nat} (h : n.natAbs < 2 ^ a) (h0 : 0 < a) : Sq a ((n : Int) : Rat) := by
  unfold Sq
  rw [Rat.num_intCast, Rat.den_intCast]
  exact ⟨h, Nat.one_lt_two_pow (by omega)⟩
theorem zero_sq : Sq 1 0 := by unfold Sq; decide
theorem one_sq : Sq 1 1 := by unfold Sq; decide
theorem zero_sqn {a : Nat} (h : 0 < a) : Sq a 0 := zero_sq.up h
/-- a fraction by any terms -/
theorem fr_flip (a b : Int) : (a : Rat) / (b : Rat) = (((-a : Int) : Rat) / ((-b : Int) : Rat)) := by
  push_cast
  grind
theorem fdiv_neg_dvd {g a : Int} (h : 0 < g) (d : g ∣ a) : a.fdiv (-g) = (-a) / g := by
  obtain ⟨c, rfl⟩ := d
  have e : g * c = (-g) * (-c) := by rw [Int.neg_mul_neg]
  have e2 : -(g * c) = g * (-c) := by rw [Int.mul_neg]
  rw [e2, Int.mul_ediv_cancel_left _ (by omega), e, Int.mul_fdiv_cancel_left _ (by omega)]
theorem gcd_posZ {a b : Int} (h : b ≠ 0) : 0 < ((Nat.gcd a.natAbs b.natAbs : Nat) : Int) := by
  have : 0 < Nat.gcd a.natAbs b.natAbs := Nat.gcd_pos_of_pos_right _ (by omega)
  omega
theorem gcd_leZ {a b : Int} (h : b ≠ 0) : ((Nat.gcd a.natAbs b.natAbs : Nat) : Int).natAbs ≤ b.natAbs := by
  rw [Int.natAbs_natCast]
  exact Nat.gcd_le_right _ (by omega)
theorem fr_pos {a b : Int} (h : 0 < b) : fr ((a : Rat) / (b : Rat)) = (a.fdiv ((Nat.gcd a.natAbs b.natAbs : Nat) : Int), b.fdiv ((Nat.gcd a.natAbs b.natAbs : Nat) : Int)) := by
  have g0 := gcd_posZ (a := a) (b := b) (by omega)
  rw [Int.fdiv_eq_ediv_of_nonneg _ (Int.le_of_lt g0), Int.fdiv_eq_ediv_of_nonneg _ (Int.le_of_lt g0)]
  exact fr_int a h
theorem fr_neg {a b : Int} (h : b < 0) : fr ((a : Rat) / (b : Rat)) = (a.fdiv (-((Nat.gcd a.natAbs b.natAbs : Nat) : Int)), b.fdiv (-((Nat.gcd a.natAbs b.natAbs : Nat) : Int))) := by
  have g0 := gcd_posZ (a := a) (b := b) (by omega)
  rw [fdiv_neg_dvd g0 (Int.ofNat_dvd_left.mpr (Nat.gcd_dvd_left _ _)), fdiv_neg_dvd g0 (Int.ofNat_dvd_left.mpr (Nat.gcd_dvd_right _ _)), fr_flip, fr_int (-a) (show 0 < -b by omega), Int.natAbs_neg, Int.natAbs_neg]
theorem sq_any {n : Nat} {a b : Int} (h : b ≠ 0) (ha : a.natAbs < 2 ^ n) (hb : b.natAbs < 2 ^ n) : Sq n ((a : Rat) / (b : Rat)) := by
  by_cases q : 0 < b
  · exact sq_div q ha hb
  · rw [fr_flip]
    exact sq_div (by omega) (by omega) (by omega)
/-- x stands for q, in any terms -/
structure Rx (n : Nat) (x : Int × Int) (q : Rat) : Prop where
  nz : x.2 ≠ 0
  t : x.1.natAbs < 2 ^ n
  b : x.2.natAbs < 2 ^ n
  v : (x.1 : Rat) / (x.2 : Rat) = q
theorem Rx.sq {n : Nat} {x : Int × Int} {q : Rat} (h : Rx n x q) : Sq n q := by
  rw [← h.v]
  exact sq_any h.nz h.t h.b
theorem Rx.up {n m : Nat} {x : Int × Int} {q : Rat} (h : Rx n x q) (l : n ≤ m) : Rx m x q := ⟨h.nz, up_lt h.t l, up_lt h.b l, h.v⟩
theorem rx_fr {n : Nat} {q : Rat} (h : Sq n q) : Rx n (fr q) q := ⟨by have := den_posI q; show ((q.den : Nat) : Int) ≠ 0; omega, h.1, h.d, fr_val q⟩
theorem rx_int {n : Nat} {i : Int} (h : i.natAbs < 2 ^ n) (h0 : 0 < n) : Rx n (i, 1) (i : Rat) := by
  rw [← fr_of_int]
  exact rx_fr (sq_int h h0)
theorem mul_nz {a b : Int} (h : a ≠ 0) (h2 : b ≠ 0) : a * b ≠ 0 := Int.mul_ne_zero h h2
theorem rx_add {x y : Int × Int} {p q : Rat} {a b : Nat} (hx : Rx a x p) (hy : Rx b y q) : ((x.1 * y.2 + y.1 * x.2 : Int) : Rat) / ((x.2 * y.2 : Int) : Rat) = p + q := by
  rw [← hx.v, ← hy.v]
  have h1 := intc_ne hx.nz
  have h2 := intc_ne hy.nz
  push_cast
  grind
theorem rx_sub {x y : Int × Int} {p q : Rat} {a b : Nat} (hx : Rx a x p) (hy : Rx b y q) : ((x.1 * y.2 - y.1 * x.2 : Int) : Rat) / ((x.2 * y.2 : Int) : Rat) = p - q := by
  rw [← hx.v, ← hy.v]
  have h1 := intc_ne hx.nz
  have h2 := intc_ne hy.nz
  push_cast
  grind
theorem rx_mul {x y : Int × Int} {p q : Rat} {a b : Nat} (hx : Rx a x p) (hy : Rx b y q) : ((x.1 * y.1 : Int) : Rat) / ((x.2 * y.2 : Int) : Rat) = p * q := by
  rw [← hx.v, ← hy.v]
  have h1 := intc_ne hx.nz
  have h2 := intc_ne hy.nz
  push_cast
  grind
theorem Rx.top {x : Int × Int} {q : Rat} {n : Nat} (h : Rx n x q) (hq : q ≠ 0) : x.1 ≠ 0 := fun z => by
  have := h.v
  rw [z] at this
  have e : ((0 : Int) : Rat) / (x.2 : Rat) = 0 := by
    push_cast
    grind
  exact hq (by rw [← this, e])
theorem rx_div {x y : Int × Int} {p q : Rat} {a b : Nat} (hx : Rx a x p) (hy : Rx b y q) (hq : q ≠ 0) : ((x.1 * y.2 : Int) : Rat) / ((x.2 * y.1 : Int) : Rat) = p / q := by
  have h0 := intc_ne (hy.top hq)
  have h1 := intc_ne hx.nz
  have h2 := intc_ne hy.nz
  rw [← hx.v, ← hy.v]
  push_cast
  grind
theorem sq_subB {p q : Rat} {a b n : Nat} (ha : Sq a p) (hb : Sq b q) (h : a + b < n) : Sq n (p - q) := by
  rw [← rx_sub (rx_fr ha) (rx_fr hb)]
  refine sq_div (Int.mul_pos (den_posI p) (den_posI q)) ?_ (mul_lt ha.d hb.d (by omega))
  exact sub_lt (mul_lt ha.1 hb.d (Nat.le_refl _)) (mul_lt hb.1 ha.d (Nat.le_refl _)) (by omega) (by omega)
theorem sq_negB {q : Rat} {a : Nat} (h : Sq a q) : Sq a (-q) := by
  unfold Sq
  rw [Rat.neg_num, Rat.neg_den, Int.natAbs_neg]
  exact h
theorem sq_divB {p q : Rat} {a b n : Nat} (ha : Sq a p) (hb : Sq b q) (hq : q ≠ 0) (h : a + b ≤ n) : Sq n (p / q) := by
  rw [← rx_div (rx_fr ha) (rx_fr hb) hq]
  exact sq_any (mul_nz (rx_fr ha).nz ((rx_fr hb).top hq)) (mul_lt ha.1 hb.d h) (mul_lt ha.d hb.1 h)
theorem fr_negv (q : Rat) : ((0 : Int) - (fr q).1, (fr q).2) = fr (-q) := by
  unfold fr
  rw [Rat.neg_num, Rat.neg_den, Int.zero_sub]
def Sqs (a : Nat) (l : List Rat) : Prop := ∀ q ∈ l, Sq a q
theorem Sqs.up {a b : Nat} {l : List Rat} (h : Sqs a l) (k : a ≤ b) : Sqs b l := fun q hq => (h q hq).up k
/-! ### folds -/
theorem foldM_map {α β S : Type} {f : S → β → Mm S} {g : α → β} : ∀ (l : List α) (s : S), foldM f s (l.map g) = foldM (fun s x => f s (g x)) s l
  | [], s => rfl
  | x :: l, s => by
    rw [List.map_cons]
    show (f s (g x)).bd _ = (f s (g x)).bd _
    congr 1
    funext s'
    exact foldM_map l s'
theorem mapMm_map {α β γ : Type} {f : β → Mm γ} {g : α → β} : ∀ l : List α, mapMm f (l.map g) = mapMm (fun x => f (g x)) l
  | [] => rfl
  | x :: l => by
    rw [List.map_cons]
    unfold mapMm
    rw [mapMm_map l]
theorem zero_add' (q : Rat) : 0 + q = q := by grind
theorem fold_fr {α : Type} {f : Int × Int → α → Mm (Int × Int)} {v : α → Rat} {c : Nat} : ∀ (l : List α), (∀ x ∈ l, Sq c (v x) ∧ ∀ p a, Sq a p → a + c < 8999 → f (fr p) x = .ok (fr (p + v x))) → ∀ (p : Rat) (a : Nat), Sq a p → a + (c + 1) * l.length < 8998 →
    foldM f (fr p) l = .ok (fr (p + (l.map v).sum)) ∧ Sq (a + (c + 1) * l.length) (p + (l.map v).sum)
  | [], _, p, a, ha, _ => by
    have e : p + ([].map v).sum = p := by
      show p + 0 = p
      grind
    rw [e]
    exact ⟨rfl, ha⟩
  | x :: l, h, p, a, ha, hl => by
    have e1 : (c + 1) * (x :: l).length = (c + 1) * l.length + (c + 1) := by rw [List.length_cons, Nat.mul_succ]
    obtain ⟨sx, hx⟩ := h x (List.mem_cons_self ..)
    obtain ⟨h1, h2⟩ := fold_fr l (fun y hy => h y (List.mem_cons_of_mem _ hy)) (p + v x) (a + c + 1) (sq_add ha sx (by omega)) (by omega)
    have e2 : p + ((x :: l).map v).sum = p + v x + (l.map v).sum := by
      rw [List.map_cons, List.sum_cons]
      grind
    rw [e2]
    refine ⟨?_, h2.up (by omega)⟩
    unfold foldM
    rw [hx p a ha (by omega)]
    exact h1
/-- a sum that begins with 0 -/
theorem fold_fr0 {α : Type} {f : Int × Int → α → Mm (Int × Int)} {v : α → Rat} {c : Nat} (l : List α) (h : ∀ x ∈ l, Sq c (v x) ∧ ∀ p a, Sq a p → a + c < 8999 → f (fr p) x = .ok (fr (p + v x))) (hl : (c + 1) * l.length < 8996) :
    foldM f ((0, 1) : Int × Int) l = .ok (fr (l.map v).sum) ∧ Sq (1 + (c + 1) * l.length) (l.map v).sum := by
  have := fold_fr l h 0 1 zero_sq (by omega)
  rw [zero_add', fr_zero] at this
  exact this
/-! ### polynomials -/
def ev : List Rat → Rat → Rat
  | [], _ => 0
  | c :: l, x => c + x * ev l x
theorem ev_sq {p : Rat} {b c : Nat} (hp : Sq b p) : ∀ l : List Rat, Sqs c l → Sq ((b + c + 1) * l.length + 1) (ev l p)
  | [], _ => zero_sqn (by omega)
  | x :: l, h => by
    have ih := ev_sq hp l fun q hq => h q (List.mem_cons_of_mem _ hq)
    have e : (b + c + 1) * (x :: l).length = (b + c + 1) * l.length + (b + c + 1) := by rw [List.length_cons, Nat.mul_succ]
    exact sq_add (h x (List.mem_cons_self ..)) (sq_mul hp ih (Nat.le_refl _)) (by omega)
theorem foldM_app {α S : Type} {f : S → α → Mm S} : ∀ (l r : List α) (s : S), foldM f s (l ++ r) = (foldM f s l).bd fun s' => foldM f s' r
  | [], r, s => rfl
  | x :: l, r, s => by
    show (f s x).bd (fun s' => foldM f s' (l ++ r)) = ((f s x).bd fun s' => foldM f s' l).bd fun s' => foldM f s' r
    rw [bd_assoc]
    congr 1
    funext s'
    exact foldM_app l r s'
/-- Horner's way -/
theorem horner {f : Int × Int → Rat → Mm (Int × Int)} {p : Rat} {b c : Nat} (hp : Sq b p) (N : Nat) (hf : ∀ x, Sq c x → ∀ q a, Sq a q → a + b + c + 1 ≤ N → f (fr q) x = .ok (fr (q * p + x))) : ∀ (l : List Rat), Sqs c l → (b + c + 1) * l.length + 1 ≤ N → foldM f ((0, 1) : Int × Int) l.reverse = .ok (fr (ev l p))
  | [], _, _ => by
    show Mm.ok _ = _
    rw [← fr_zero]
    rfl
  | x :: l, h, hN => by
    have e : (b + c + 1) * (x :: l).length = (b + c + 1) * l.length + (b + c + 1) := by rw [List.length_cons, Nat.mul_succ]
    have hl : Sqs c l := fun q hq => h q (List.mem_cons_of_mem _ hq)
    rw [List.reverse_cons, foldM_app, horner hp N hf l hl (by omega)]
    show (f _ x).bd _ = _
    rw [hf x (h x (List.mem_cons_self ..)) _ _ (ev_sq hp l hl) (by omega)]
    show Mm.ok _ = _
    congr 2
    show _ = x + p * ev l p
    grind
/-! ### numbered lists, items -/
def numL {α : Type} : Int → List α → List (Int × α)
  | _, [] => []
  | k, x :: l => (k, x) :: numL (k + 1) l
theorem rangeL_succ (k : Int) (n : Nat) : rangeL k (n + 1) = k :: rangeL (k + 1) n := by
  unfold rangeL
  rw [List.range_succ_eq_map, List.map_cons, List.map_map]
  congr 1
  · omega
  · refine List.map_congr_left fun i _ => ?_
    show k + ((i + 1 : Nat) : Int) = k + 1 + (i : Int)
    omega
theorem rangeL_len (k : Int) (n : Nat) : (rangeL k n).length = n := by simp [rangeL]
theorem enum_num {α : Type} : ∀ (l : List α) (k : Int), (rangeL k l.length).zip l = numL k l
  | [], k => rfl
  | x :: l, k => by
    rw [List.length_cons, rangeL_succ, List.zip_cons_cons, enum_num l]
    rfl
theorem enumL_eq {α : Type} (l : List α) : enumL l = numL 0 l := enum_num l 0
theorem numL_len {α : Type} : ∀ (l : List α) (k : Int), (numL k l).length = l.length
  | [], k => rfl
  | x :: l, k => by
    unfold numL
    rw [List.length_cons, numL_len l, List.length_cons]
theorem numL_mem {α : Type} : ∀ (l : List α) (k : Int) (x : Int × α), x ∈ numL k l → k ≤ x.1 ∧ x.1 < k + l.length ∧ x.2 ∈ l
  | [], k, x, h => by cases h
  | y :: l, k, x, h => by
    rcases List.mem_cons.mp h with rfl | h
    · refine ⟨Int.le_refl _, ?_, List.mem_cons_self ..⟩
      show k < k + ((l.length + 1 : Nat) : Int)
      omega
    · obtain ⟨a, b, c⟩ := numL_mem l (k + 1) x h
      refine ⟨by omega, ?_, List.mem_cons_of_mem _ c⟩
      show x.1 < k + ((l.length + 1 : Nat) : Int)
      omega
theorem numL_map {α β : Type} (f : α → β) : ∀ (l : List α) (k : Int), numL k (l.map f) = (numL k l).map fun x => (x.1, f x.2)
  | [], k => rfl
  | x :: l, k => by
    rw [List.map_cons]
    unfold numL
    rw [numL_map f l, List.map_cons]
theorem getM_mid {α : Type} (l r : List α) (x : α) : getM (l ++ x :: r) (l.length : Int) = .ok x := by
  unfold getM
  rw [atI_nat (j := l.length) (v := x) (by simp)]
theorem getM_nat {α : Type} {l : List α} {i : Nat} {x : α} (h : l[i]? = some x) : getM l (i : Int) = .ok x := by
  unfold getM
  rw [atI_nat (j := i) (v := x) h]
theorem getM_last {α : Type} (l : List α) (x : α) : getM (l ++ [x]) (-(1 : Int)) = .ok x := by
  unfold getM
  rw [atI_last]
theorem getM_ok {α : Type} {l : List α} {i : Int} (h : 0 ≤ i) (h2 : i < l.length) : ∃ x, x ∈ l ∧ getM l i = .ok x := by
  have e : i = ((i.toNat : Nat) : Int) := by omega
  have lt : i.toNat < l.length := by omega
  have q := getM_nat (List.getElem?_eq_getElem lt)
  rw [← e] at q
  exact ⟨l[i.toNat], List.getElem_mem lt, q⟩
theorem rangeM_ok {n : Nat} (h : n < 1000000) : rangeM (n : Int) = .ok (rangeL 0 n) := by
  have := range_ok (j := (n : Int)) (by omega) (by omega)
  rw [this, Int.toNat_natCast]
theorem rangeDn_rev (n : Nat) : rangeDn ((n : Int) - 1) n = (rangeL 0 n).reverse := by
  unfold rangeDn rangeL
  rw [← List.map_reverse]
  apply List.ext_getElem
  · simp
  · intro i h1 h2
    simp only [List.length_map, List.length_range] at h1
    simp only [List.getElem_map, List.getElem_range, List.getElem_reverse, List.length_range]
    omega
theorem fold_getR {α S : Type} {h : S → α → Mm S} (L : List α) : ∀ (n : Nat) (l post : List α) (s : S), l.length = n → L = l ++ post → foldM (fun s i => (getM L i).bd fun v => h s v) s (rangeL 0 l.length).reverse = foldM h s l.reverse
  | 0, l, post, s, hn, e => by
    have : l = [] := List.length_eq_zero_iff.mp hn
    subst this
    rfl
  | n + 1, l, post, s, hn, e => by
    rcases List.eq_nil_or_concat l with q | ⟨l', x, q⟩
    · rw [q] at hn
      cases hn
    · rw [List.concat_eq_append] at q
      subst q
      have e1 : rangeL 0 (l' ++ [x]).length = rangeL 0 l'.length ++ [(l'.length : Int)] := by
        unfold rangeL
        rw [List.length_append, List.length_singleton, List.range_succ, List.map_append, List.map_cons, List.map_nil, Int.zero_add]
      have e2 : L = l' ++ x :: post := by rw [e]; simp
      rw [e1, List.reverse_append, List.reverse_append, foldM_app, foldM_app]
      show Mm.bd (Mm.bd (Mm.bd (getM L (l'.length : Int)) _) _) _ = Mm.bd (Mm.bd (h s x) _) _
      have g : getM L (l'.length : Int) = .ok x := by rw [e2]; exact getM_mid _ _ _
      rw [g]
      show Mm.bd (Mm.bd (h s x) _) _ = _
      congr 1
      funext s'
      exact fold_getR L n l' (x :: post) s' (by simpa using hn) e2
theorem fold_get {α S : Type} {h : S → Int → α → Mm S} (L : List α) : ∀ (l pre : List α) (s : S), L = pre ++ l → foldM (fun s i => (getM L i).bd fun v => h s i v) s (rangeL (pre.length : Int) l.length) = foldM (fun s (x : Int × α) => h s x.1 x.2) s (numL (pre.length : Int) l)
  | [], pre, s, _ => rfl
  | x :: l, pre, s, e => by
    rw [List.length_cons, rangeL_succ]
    unfold foldM numL
    rw [e, getM_mid, ← e]
    show (h s _ x).bd _ = (h s _ x).bd _
    congr 1
    funext s'
    have := fold_get (h := h) L l (pre ++ [x]) s' (by rw [e]; simp)
    rw [List.length_append, List.length_singleton] at this
    have e2 : ((pre.length + 1 : Nat) : Int) = (pre.length : Int) + 1 := by omega
    rw [e2] at this
    exact this
/-! ### draws -/
def Rk (N : Nat) (st : Rw) : Prop := 0 ≤ st.seed ∧ st.seed < 2147483647 ∧ 0 ≤ st.pos ∧ st.pos ≤ N
theorem Rk.up {N M : Nat} {st : Rw} (h : Rk N st) (k : N ≤ M) : Rk M st := ⟨h.1, h.2.1, h.2.2.1, by have := h.2.2.2; omega⟩
theorem seedN_ok (s c : Int) : 0 ≤ seedN s c ∧ seedN s c < 2147483647 := by
  unfold seedN
  omega
theorem takenA_ok {scr : List Int} {st : Rw} {many : Int} {N : Nat} (r : Rk N st) (h0 : 0 < many) (h1 : many < 1073741824) (hN : N < 999999) : Yes (takenA scr st many) fun r => (0 ≤ r.1 ∧ r.1 < many) ∧ Rk (N + 1) r.2 := by
  obtain ⟨r1, r2, r3, r4⟩ := r
  unfold takenA
  rw [if_pos ⟨h0, h1, r1, r2, r3, by omega⟩]
  split
  · refine ⟨_, rfl, ⟨Int.emod_nonneg _ (by omega), Int.emod_lt_of_pos _ h0⟩, r1, r2, r3, ?_⟩
    show st.pos ≤ _
    omega
  · split
    · obtain ⟨s1, s2⟩ := seedN_ok st.seed 0
      exact ⟨_, rfl, ⟨Int.emod_nonneg _ (by omega), Int.emod_lt_of_pos _ h0⟩, s1, s2, by show 0 ≤ st.pos + 1; omega, by show st.pos + 1 ≤ _; omega⟩
    · rename_i c _
      obtain ⟨s1, s2⟩ := seedN_ok st.seed c
      exact ⟨_, rfl, ⟨Int.emod_nonneg _ (by omega), Int.emod_lt_of_pos _ h0⟩, s1, s2, by show 0 ≤ st.pos + 1; omega, by show st.pos + 1 ≤ _; omega⟩
theorem takenB_ok {scr : List Int} {st : Rw} {many : Int} {N : Nat} (r : Rk N st) (h0 : 0 < many) (h1 : many < 1073741824) (hN : N < 999999) : Yes (takenB scr st many) fun r => (0 ≤ r.1 ∧ r.1 < many) ∧ Rk (N + 1) r.2 := by
  obtain ⟨r1, r2, r3, r4⟩ := r
  unfold takenB
  rw [if_pos ⟨h0, h1, r1, r2, r3, by omega⟩]
  split
  · refine ⟨_, rfl, ⟨Int.emod_nonneg _ (by omega), Int.emod_lt_of_pos _ h0⟩, r1, r2, r3, ?_⟩
    show st.pos ≤ _
    omega
  · split
    · obtain ⟨s1, s2⟩ := seedN_ok st.seed 0
      exact ⟨_, rfl, ⟨Int.emod_nonneg _ (by omega), Int.emod_lt_of_pos _ h0⟩, s1, s2, by show 0 ≤ st.pos + 1; omega, by show st.pos + 1 ≤ _; omega⟩
    · rename_i c _
      obtain ⟨s1, s2⟩ := seedN_ok st.seed c
      exact ⟨_, rfl, ⟨Int.emod_nonneg _ (by omega), Int.emod_lt_of_pos _ h0⟩, s1, s2, by show 0 ≤ st.pos + 1; omega, by show st.pos + 1 ≤ _; omega⟩
theorem yes_mapS {α γ S : Type} {f : S → α → Mm (γ × S)} (I : S → Nat → Prop) (p : α → γ → Prop) : ∀ (l : List α) (s : S), I s l.length → (∀ s x n, x ∈ l → I s (n + 1) → Yes (f s x) fun y => p x y.1 ∧ I y.2 n) → Yes (mapSt f s l) fun r => All2 p l r.1 ∧ I r.2 0
  | [], s, h, _ => ⟨_, rfl, .nil, h⟩
  | x :: l, s, h, k => by
    obtain ⟨y, e, h1, h2⟩ := k s x l.length (List.mem_cons_self ..) h
    obtain ⟨r, e2, h3, h4⟩ := yes_mapS I p l y.2 h2 fun s z n hz => k s z n (List.mem_cons_of_mem _ hz)
    unfold mapSt
    rw [e]
    show Yes ((mapSt f y.2 l).bd _) _
    rw [e2]
    exact ⟨_, rfl, .cons h1 h3, h4⟩
/-- draws of a row of things: cost each -/
theorem yes_draws {α γ : Type} {f : Rw → α → Mm (γ × Rw)} (c : Nat) (p : γ → Prop) (l : List α) (s : Rw) (N : Nat) (h : Rk N s) (hN : N + c * l.length < 900000) (k : ∀ s x M, x ∈ l → Rk M s → M < 900000 → Yes (f s x) fun y => p y.1 ∧ Rk (M + c) y.2) : Yes (mapSt f s l) fun r => (r.1.length = l.length ∧ ∀ y ∈ r.1, p y) ∧ Rk (N + c * l.length) r.2 := by
  refine (yes_mapS (fun s n => ∃ k, Rk k s ∧ k + c * n ≤ N + c * l.length) (fun _ y => p y) l s ⟨N, h, Nat.le_refl _⟩ fun s x n hx hs => ?_).mono fun r hr => ⟨⟨hr.1.len, hr.1.right fun _ _ h => h⟩, ?_⟩
  · obtain ⟨M, rk, hM⟩ := hs
    have e : c * (n + 1) = c * n + c := Nat.mul_succ ..
    exact (k s x M hx rk (by omega)).mono fun y hy => ⟨hy.1, M + c, hy.2, by omega⟩
  · obtain ⟨M, rk, hM⟩ := hr.2
    exact rk.up (by omega)
theorem All2.app {α γ : Type} {p : α → γ → Prop} {x : α} {y : γ} : ∀ {l : List α} {r : List γ}, All2 p l r → p x y → All2 p (l ++ [x]) (r ++ [y])
  | _, _, .nil, h => .cons h .nil
  | _, _, .cons a b, h => .cons a (All2.app b h)
theorem All2.map_eq {α β γ : Type} {p : α → γ → Prop} {f : γ → Mm β} {g : α → β} {l : List α} {r : List γ} (h : All2 p l r) (k : ∀ x y, x ∈ l → p x y → f y = .ok (g x)) : mapMm f r = .ok (l.map g) := by
  induction h with
  | nil => rfl
  | cons a _ ih =>
    unfold mapMm
    rw [k _ _ (List.mem_cons_self ..) a, bdo, ih fun x y hx => k x y (List.mem_cons_of_mem _ hx), bdo]
    rfl
theorem All2.left {α γ : Type} {p : α → γ → Prop} {q : α → Prop} {l : List α} {r : List γ} (h : All2 p l r) (k : ∀ x y, p x y → q x) : ∀ x ∈ l, q x := by
  induction h with
  | nil => simp
  | cons a _ ih =>
    intro y hy
    rcases List.mem_cons.mp hy with rfl | hy
    · exact k _ _ a
    · exact ih y hy
theorem All2.self {α γ : Type} {p : α → γ → Prop} {g : α → γ} : ∀ l : List α, (∀ x ∈ l, p x (g x)) → All2 p l (l.map g)
  | [], _ => .nil
  | x :: l, h => .cons (h x (List.mem_cons_self ..)) (All2.self l fun y hy => h y (List.mem_cons_of_mem _ hy))
theorem All2.mono {α γ : Type} {p q : α → γ → Prop} {l : List α} {r : List γ} (h : All2 p l r) (k : ∀ x y, p x y → q x y) : All2 q l r := by
  induction h with
  | nil => exact .nil
  | cons a _ ih => exact .cons (k _ _ a) ih
/-- loops that may be left, but are not -/
theorem yes_foldL {α R S : Type} {f : S → α → Mm (Fl R S)} (I : S → Nat → Prop) : ∀ (l : List α) (s : S), I s l.length → (∀ s x n, x ∈ l → I s (n + 1) → Yes (f s x) fun o => ∃ s', o = .go s' ∧ I s' n) → Yes (foldL f s l) fun o => ∃ s', o = .go s' ∧ I s' 0
  | [], s, h, _ => ⟨_, rfl, s, rfl, h⟩
  | x :: l, s, h, k => by
    obtain ⟨o, e, s', rfl, h2⟩ := k s x l.length (List.mem_cons_self ..) h
    obtain ⟨o2, e2, s2, rfl, h3⟩ := yes_foldL I l s' h2 fun s z n hz => k s z n (List.mem_cons_of_mem _ hz)
    unfold foldL
    rw [e]
    show Yes (foldL f s' l) _
    rw [e2]
    exact ⟨_, rfl, s2, rfl, h3⟩
end Wk
namespace Wk
open PySem L2
/-- Euclid's way -/
theorem euclid : ∀ (n : Nat) (x y : Int), 0 ≤ x → 0 ≤ y → y.toNat < n → foldW (fun (b6 : (Int × Int)) => Mm.ok (decide (b6.2 > (0 : Int)))) (fun (b7 : (Int × Int)) => (modM b7.1 b7.2).bd fun m24 => Mm.ok (b7.2, m24)) n (x, y) = .ok (((Nat.gcd x.natAbs y.natAbs : Nat) : Int), 0)
  | 0, _, _, _, _, h => absurd h (by omega)
  | n + 1, x, y, hx, hy, h => by
    unfold foldW
    by_cases q : y > 0
    · show (match decide (y > 0) with | true => _ | false => _) = _
      rw [decide_eq_true q]
      show ((modM x y).bd _).bd _ = _
      rw [mod_ok q]
      show foldW _ _ n (y, x % y) = _
      have h1 := Int.emod_nonneg x (b := y) (by omega)
      have h2 := Int.emod_lt_of_pos x q
      rw [euclid n y (x % y) hy h1 (by omega)]
      congr 3
      rw [Int.natAbs_emod_of_nonneg hx, Nat.gcd_comm, ← Nat.gcd_rec, Nat.gcd_comm]
    · show (match decide (y > 0) with | true => _ | false => _) = _
      rw [decide_eq_false q]
      have : y = 0 := by omega
      subst this
      show Mm.ok (x, (0 : Int)) = _
      rw [Int.natAbs_zero, Nat.gcd_zero_right]
      congr 2
      omega
theorem abs_nn (x : Int) : 0 ≤ absI x := by unfold absI; split <;> omega
theorem abs_na (x : Int) : (absI x).natAbs = x.natAbs := by unfold absI; split <;> omega
end Wk
namespace Wk
open PySem L2
/-! ### loops over indexes -/
theorem fold_ixR {α S : Type} {f : S → Int → Mm S} {h : S → α → Mm S} (L : List α) (hf : ∀ s (i : Nat) v, L[i]? = some v → f s (i : Int) = h s v) : ∀ s, foldM f s (rangeL 0 L.length).reverse = foldM h s L.reverse := by
  have k : ∀ (n : Nat) (l post : List α) (s : S), l.length = n → L = l ++ post → foldM f s (rangeL 0 l.length).reverse = foldM h s l.reverse := by
    intro n
    induction n with
    | zero =>
      intro l post s hn e
      have : l = [] := List.length_eq_zero_iff.mp hn
      subst this
      rfl
    | succ n ih =>
      intro l post s hn e
      rcases List.eq_nil_or_concat l with q | ⟨l', x, q⟩
      · rw [q] at hn
        cases hn
      · rw [List.concat_eq_append] at q
        subst q
        have e1 : rangeL 0 (l' ++ [x]).length = rangeL 0 l'.length ++ [(l'.length : Int)] := by
          unfold rangeL
          rw [List.length_append, List.length_singleton, List.range_succ, List.map_append, List.map_cons, List.map_nil, Int.zero_add]
        have e2 : L = l' ++ x :: post := by rw [e]; simp
        rw [e1, List.reverse_append, List.reverse_append, foldM_app, foldM_app]
        show Mm.bd (Mm.bd (f s (l'.length : Int)) _) _ = Mm.bd (Mm.bd (h s x) _) _
        rw [hf s l'.length x (by rw [e2]; simp)]
        show Mm.bd (Mm.bd (h s x) _) _ = _
        congr 1
        funext s'
        exact ih l' (x :: post) s' (by simpa using hn) e2
  intro s
  exact k L.length L [] s rfl (by simp)
theorem fold_ixN {α S : Type} {f : S → Int → Mm S} {h : S → Nat → α → Mm S} (L : List α) (hf : ∀ s (i : Nat) v, L[i]? = some v → f s (i : Int) = h s i v) : ∀ (l pre : List α) (s : S), L = pre ++ l → foldM f s (rangeL (pre.length : Int) l.length) = foldM (fun s (x : Int × α) => h s x.1.toNat x.2) s (numL (pre.length : Int) l)
  | [], pre, s, _ => rfl
  | x :: l, pre, s, e => by
    rw [List.length_cons, rangeL_succ]
    unfold foldM numL
    rw [hf s pre.length x (by rw [e]; simp)]
    show (h s _ x).bd _ = (h s _ x).bd _
    rw [Int.toNat_natCast]
    congr 1
    funext s'
    have := fold_ixN L hf l (pre ++ [x]) s' (by rw [e]; simp)
    rw [List.length_append, List.length_singleton] at this
    have e2 : ((pre.length + 1 : Nat) : Int) = (pre.length : Int) + 1 := by omega
    rw [e2] at this
    exact this
theorem fold_num {α S : Type} {h : S → α → Mm S} : ∀ (l : List α) (k : Int) (s : S), foldM (fun s (x : Int × α) => h s x.2) s (numL k l) = foldM h s l
  | [], _, _ => rfl
  | x :: l, k, s => by
    unfold numL foldM
    show (h s x).bd _ = (h s x).bd _
    congr 1
    funext s'
    exact fold_num l (k + 1) s'
theorem fold_ix {α S : Type} {f : S → Int → Mm S} {h : S → α → Mm S} (L : List α) (hf : ∀ s (i : Nat) v, L[i]? = some v → f s (i : Int) = h s v) (s : S) : foldM f s (rangeL 0 L.length) = foldM h s L := by
  have := fold_ixN (h := fun s _ v => h s v) L hf L [] s rfl
  rw [show ((([] : List α).length : Nat) : Int) = 0 from rfl] at this
  rw [this, fold_num]
theorem map_ix {α γ : Type} {f : Int → Mm γ} {h : α → Mm γ} (L : List α) (hf : ∀ (i : Nat) v, L[i]? = some v → f (i : Int) = h v) : mapMm f (rangeL 0 L.length) = mapMm h L := by
  have k : ∀ (l pre : List α), L = pre ++ l → mapMm f (rangeL (pre.length : Int) l.length) = mapMm h l := by
    intro l
    induction l with
    | nil => intro pre _; rfl
    | cons x l ih =>
      intro pre e
      rw [List.length_cons, rangeL_succ]
      unfold mapMm
      rw [hf pre.length x (by rw [e]; simp)]
      have := ih (pre ++ [x]) (by rw [e]; simp)
      rw [List.length_append, List.length_singleton] at this
      have e2 : ((pre.length + 1 : Nat) : Int) = (pre.length : Int) + 1 := by omega
      rw [e2] at this
      rw [this]
  exact k L [] rfl
theorem zip_at {α β : Type} {l : List α} {r : List β} {i : Nat} {v : α × β} (h : (l.zip r)[i]? = some v) : l[i]? = some v.1 ∧ r[i]? = some v.2 := by
  rw [List.getElem?_zip_eq_some] at h
  exact h
theorem getM_map {α β : Type} {l : List α} {f : α → β} {i : Nat} {x : α} (h : l[i]? = some x) : getM (l.map f) (i : Int) = .ok (f x) := getM_nat (by rw [List.getElem?_map, h]; rfl)
theorem All2.at {α γ : Type} {p : α → γ → Prop} {l : List α} {r : List γ} (h : All2 p l r) : ∀ {i : Nat} {x : α}, l[i]? = some x → ∃ y, r[i]? = some y ∧ p x y := by
  induction h with
  | nil => intro i x e; cases i <;> cases e
  | cons a _ ih =>
    intro i x e
    cases i with
    | zero => cases e; exact ⟨_, rfl, a⟩
    | succ i => exact ih e
end Wk
namespace Wk
open PySem L2
def rv (x : Int × Int) : Rat := (x.1 : Rat) / (x.2 : Rat)
theorem all2_rv {n : Nat} {ps : List Rat} {pl : List (Int × Int)} (h : All2 (fun p x => Rx n x p) ps pl) : ps = pl.map rv := by
  induction h with
  | nil => rfl
  | cons a _ ih => rw [List.map_cons, ← ih, ← a.v]; rfl
theorem all2_at {n : Nat} {ps : List Rat} {pl : List (Int × Int)} (h : All2 (fun p x => Rx n x p) ps pl) {i : Nat} {x : Int × Int} (hx : pl[i]? = some x) : Rx n x (rv x) := by
  have := h.right (q := fun x => Rx n x (rv x)) (fun p x r => by have e := r.v; unfold rv; rw [e]; exact r) x (List.mem_of_getElem? hx)
  exact this
/-- sums with something that goes along -/
theorem fold_frP {α R : Type} {f : (Int × Int) × R → α → Mm ((Int × Int) × R)} {v : α → Rat} {c : Nat} : ∀ (l : List α), (∀ x ∈ l, Sq c (v x) ∧ ∀ p a r, Sq a p → a + c < 8999 → f (fr p, r) x = .ok (fr (p + v x), r)) → ∀ (p : Rat) (a : Nat) (r : R), Sq a p → a + (c + 1) * l.length < 8998 →
    foldM f (fr p, r) l = .ok (fr (p + (l.map v).sum), r) ∧ Sq (a + (c + 1) * l.length) (p + (l.map v).sum)
  | [], _, p, a, r, ha, _ => by
    have e : p + ([].map v).sum = p := by
      show p + 0 = p
      grind
    rw [e]
    exact ⟨rfl, ha⟩
  | x :: l, h, p, a, r, ha, hl => by
    have e1 : (c + 1) * (x :: l).length = (c + 1) * l.length + (c + 1) := by rw [List.length_cons, Nat.mul_succ]
    obtain ⟨sx, hx⟩ := h x (List.mem_cons_self ..)
    obtain ⟨h1, h2⟩ := fold_frP l (fun y hy => h y (List.mem_cons_of_mem _ hy)) (p + v x) (a + c + 1) r (sq_add ha sx (by omega)) (by omega)
    have e2 : p + ((x :: l).map v).sum = p + v x + (l.map v).sum := by
      rw [List.map_cons, List.sum_cons]
      grind
    rw [e2]
    refine ⟨?_, h2.up (by omega)⟩
    unfold foldM
    rw [hx p a r ha (by omega)]
    exact h1
/-- the same over the indexes of a list -/
theorem fold_frI {α R : Type} {f : (Int × Int) × R → Int → Mm ((Int × Int) × R)} {v : α → Rat} {c : Nat} (L : List α) (h : ∀ (i : Nat) x, L[i]? = some x → Sq c (v x) ∧ ∀ p a r, Sq a p → a + c < 8999 → f (fr p, r) (i : Int) = .ok (fr (p + v x), r)) (p : Rat) (a : Nat) (r : R) (ha : Sq a p) (hl : a + (c + 1) * L.length < 8998) :
    foldM f (fr p, r) (rangeL 0 L.length) = .ok (fr (p + (L.map v).sum), r) ∧ Sq (a + (c + 1) * L.length) (p + (L.map v).sum) := by
  have k : ∀ (l pre : List α) (p : Rat) (a : Nat), L = pre ++ l → Sq a p → a + (c + 1) * l.length < 8998 → foldM f (fr p, r) (rangeL (pre.length : Int) l.length) = .ok (fr (p + (l.map v).sum), r) ∧ Sq (a + (c + 1) * l.length) (p + (l.map v).sum) := by
    intro l
    induction l with
    | nil =>
      intro pre p a _ ha _
      have e : p + ([].map v).sum = p := by
        show p + 0 = p
        grind
      rw [e]
      exact ⟨rfl, ha⟩
    | cons x l ih =>
      intro pre p a e ha hl
      have e1 : (c + 1) * (x :: l).length = (c + 1) * l.length + (c + 1) := by rw [List.length_cons, Nat.mul_succ]
      obtain ⟨sx, hx⟩ := h pre.length x (by rw [e]; simp)
      have q := ih (pre ++ [x]) (p + v x) (a + c + 1) (by rw [e]; simp) (sq_add ha sx (by omega)) (by omega)
      rw [List.length_append, List.length_singleton] at q
      have e2 : ((pre.length + 1 : Nat) : Int) = (pre.length : Int) + 1 := by omega
      rw [e2] at q
      have e3 : p + ((x :: l).map v).sum = p + v x + (l.map v).sum := by
        rw [List.map_cons, List.sum_cons]
        grind
      rw [e3, List.length_cons, rangeL_succ]
      refine ⟨?_, q.2.up (by rw [Nat.mul_succ]; omega)⟩
      unfold foldM
      rw [hx p a r ha (by omega)]
      exact q.1
  exact k L [] p a (by simp) ha hl
/-- the same with nothing that goes along -/
theorem fold_frJ {α : Type} {f : Int × Int → Int → Mm (Int × Int)} {v : α → Rat} {c : Nat} (L : List α) (h : ∀ (i : Nat) x, L[i]? = some x → Sq c (v x) ∧ ∀ p a, Sq a p → a + c < 8999 → f (fr p) (i : Int) = .ok (fr (p + v x))) (p : Rat) (a : Nat) (ha : Sq a p) (hl : a + (c + 1) * L.length < 8998) :
    foldM f (fr p) (rangeL 0 L.length) = .ok (fr (p + (L.map v).sum)) ∧ Sq (a + (c + 1) * L.length) (p + (L.map v).sum) := by
  have k : ∀ (l pre : List α) (p : Rat) (a : Nat), L = pre ++ l → Sq a p → a + (c + 1) * l.length < 8998 → foldM f (fr p) (rangeL (pre.length : Int) l.length) = .ok (fr (p + (l.map v).sum)) ∧ Sq (a + (c + 1) * l.length) (p + (l.map v).sum) := by
    intro l
    induction l with
    | nil =>
      intro pre p a _ ha _
      have e : p + ([].map v).sum = p := by
        show p + 0 = p
        grind
      rw [e]
      exact ⟨rfl, ha⟩
    | cons x l ih =>
      intro pre p a e ha hl
      have e1 : (c + 1) * (x :: l).length = (c + 1) * l.length + (c + 1) := by rw [List.length_cons, Nat.mul_succ]
      obtain ⟨sx, hx⟩ := h pre.length x (by rw [e]; simp)
      have q := ih (pre ++ [x]) (p + v x) (a + c + 1) (by rw [e]; simp) (sq_add ha sx (by omega)) (by omega)
      rw [List.length_append, List.length_singleton] at q
      have e2 : ((pre.length + 1 : Nat) : Int) = (pre.length : Int) + 1 := by omega
      rw [e2] at q
      have e3 : p + ((x :: l).map v).sum = p + v x + (l.map v).sum := by
        rw [List.map_cons, List.sum_cons]
        grind
      rw [e3, List.length_cons, rangeL_succ]
      refine ⟨?_, q.2.up (by rw [Nat.mul_succ]; omega)⟩
      unfold foldM
      rw [hx p a ha (by omega)]
      exact q.1
  exact k L [] p a (by simp) ha hl
end Wk

set_option Elab.async false
set_option linter.all false
set_option maxRecDepth 100000
set_option maxHeartbeats 4000000
namespace L
/-- thirteen weights above 0 and places from 0 to 1: a rule that is exact to the power 12 -/
def QN : List (Rat × Rat) := [(47719618433/4266648514128, 0), (412093597/10139016888, 1/30), (15096609475/365258877984, 1/15), (34472681/410288736, 2/15), (43199494175/362155842048, 7/30), (1714329755/12291447168, 11/30), (98694539947/770306304768, 1/2), (1714329755/12291447168, 19/30), (43199494175/362155842048, 23/30), (34472681/410288736, 13/15), (15096609475/365258877984, 14/15), (412093597/10139016888, 29/30), (47719618433/4266648514128, 1)]
theorem quad_0 (a d : Rat) : (QN.map fun q => d * q.1 * (a + d * q.2) ^ 0).sum * (1 : Rat) = (a + d) ^ 1 - a ^ 1 := by
  simp only [QN, List.map_cons, List.map_nil, List.sum_cons, List.sum_nil]
  grind
theorem quad_1 (a d : Rat) : (QN.map fun q => d * q.1 * (a + d * q.2) ^ 1).sum * (2 : Rat) = (a + d) ^ 2 - a ^ 2 := by
  simp only [QN, List.map_cons, List.map_nil, List.sum_cons, List.sum_nil]
  grind
theorem quad_2 (a d : Rat) : (QN.map fun q => d * q.1 * (a + d * q.2) ^ 2).sum * (3 : Rat) = (a + d) ^ 3 - a ^ 3 := by
  simp only [QN, List.map_cons, List.map_nil, List.sum_cons, List.sum_nil]
  grind
theorem quad_3 (a d : Rat) : (QN.map fun q => d * q.1 * (a + d * q.2) ^ 3).sum * (4 : Rat) = (a + d) ^ 4 - a ^ 4 := by
  simp only [QN, List.map_cons, List.map_nil, List.sum_cons, List.sum_nil]
  grind
theorem quad_4 (a d : Rat) : (QN.map fun q => d * q.1 * (a + d * q.2) ^ 4).sum * (5 : Rat) = (a + d) ^ 5 - a ^ 5 := by
  simp only [QN, List.map_cons, List.map_nil, List.sum_cons, List.sum_nil]
  grind
theorem quad_5 (a d : Rat) : (QN.map fun q => d * q.1 * (a + d * q.2) ^ 5).sum * (6 : Rat) = (a + d) ^ 6 - a ^ 6 := by
  simp only [QN, List.map_cons, List.map_nil, List.sum_cons, List.sum_nil]
  grind
theorem quad_6 (a d : Rat) : (QN.map fun q => d * q.1 * (a + d * q.2) ^ 6).sum * (7 : Rat) = (a + d) ^ 7 - a ^ 7 := by
  simp only [QN, List.map_cons, List.map_nil, List.sum_cons, List.sum_nil]
  grind
theorem quad_7 (a d : Rat) : (QN.map fun q => d * q.1 * (a + d * q.2) ^ 7).sum * (8 : Rat) = (a + d) ^ 8 - a ^ 8 := by
  simp only [QN, List.map_cons, List.map_nil, List.sum_cons, List.sum_nil]
  grind
theorem quad_8 (a d : Rat) : (QN.map fun q => d * q.1 * (a + d * q.2) ^ 8).sum * (9 : Rat) = (a + d) ^ 9 - a ^ 9 := by
  simp only [QN, List.map_cons, List.map_nil, List.sum_cons, List.sum_nil]
  grind
theorem quad_9 (a d : Rat) : (QN.map fun q => d * q.1 * (a + d * q.2) ^ 9).sum * (10 : Rat) = (a + d) ^ 10 - a ^ 10 := by
  simp only [QN, List.map_cons, List.map_nil, List.sum_cons, List.sum_nil]
  grind
theorem quad_10 (a d : Rat) : (QN.map fun q => d * q.1 * (a + d * q.2) ^ 10).sum * (11 : Rat) = (a + d) ^ 11 - a ^ 11 := by
  simp only [QN, List.map_cons, List.map_nil, List.sum_cons, List.sum_nil]
  grind
theorem quad_11 (a d : Rat) : (QN.map fun q => d * q.1 * (a + d * q.2) ^ 11).sum * (12 : Rat) = (a + d) ^ 12 - a ^ 12 := by
  simp only [QN, List.map_cons, List.map_nil, List.sum_cons, List.sum_nil]
  grind
theorem quad_12 (a d : Rat) : (QN.map fun q => d * q.1 * (a + d * q.2) ^ 12).sum * (13 : Rat) = (a + d) ^ 13 - a ^ 13 := by
  simp only [QN, List.map_cons, List.map_nil, List.sum_cons, List.sum_nil]
  grind
theorem quad (a d : Rat) : ∀ k : Nat, k ≤ 12 → (QN.map fun q => d * q.1 * (a + d * q.2) ^ k).sum * ((((k : Nat) : Int) + 1 : Int) : Rat) = (a + d) ^ (k + 1) - a ^ (k + 1)
  | 0, _ => by
    have e : ((((0 : Nat) : Int) + 1 : Int) : Rat) = (1 : Rat) := by decide
    rw [e]
    exact quad_0 a d
  | 1, _ => by
    have e : ((((1 : Nat) : Int) + 1 : Int) : Rat) = (2 : Rat) := by decide
    rw [e]
    exact quad_1 a d
  | 2, _ => by
    have e : ((((2 : Nat) : Int) + 1 : Int) : Rat) = (3 : Rat) := by decide
    rw [e]
    exact quad_2 a d
  | 3, _ => by
    have e : ((((3 : Nat) : Int) + 1 : Int) : Rat) = (4 : Rat) := by decide
    rw [e]
    exact quad_3 a d
  | 4, _ => by
    have e : ((((4 : Nat) : Int) + 1 : Int) : Rat) = (5 : Rat) := by decide
    rw [e]
    exact quad_4 a d
  | 5, _ => by
    have e : ((((5 : Nat) : Int) + 1 : Int) : Rat) = (6 : Rat) := by decide
    rw [e]
    exact quad_5 a d
  | 6, _ => by
    have e : ((((6 : Nat) : Int) + 1 : Int) : Rat) = (7 : Rat) := by decide
    rw [e]
    exact quad_6 a d
  | 7, _ => by
    have e : ((((7 : Nat) : Int) + 1 : Int) : Rat) = (8 : Rat) := by decide
    rw [e]
    exact quad_7 a d
  | 8, _ => by
    have e : ((((8 : Nat) : Int) + 1 : Int) : Rat) = (9 : Rat) := by decide
    rw [e]
    exact quad_8 a d
  | 9, _ => by
    have e : ((((9 : Nat) : Int) + 1 : Int) : Rat) = (10 : Rat) := by decide
    rw [e]
    exact quad_9 a d
  | 10, _ => by
    have e : ((((10 : Nat) : Int) + 1 : Int) : Rat) = (11 : Rat) := by decide
    rw [e]
    exact quad_10 a d
  | 11, _ => by
    have e : ((((11 : Nat) : Int) + 1 : Int) : Rat) = (12 : Rat) := by decide
    rw [e]
    exact quad_11 a d
  | 12, _ => by
    have e : ((((12 : Nat) : Int) + 1 : Int) : Rat) = (13 : Rat) := by decide
    rw [e]
    exact quad_12 a d
  | n + 13, h => absurd h (by omega)
theorem QN_pos : ∀ q ∈ QN, 0 < q.1 := by decide +kernel
theorem QN_nodup : (QN.map (·.2)).Nodup := by decide +kernel
end L

set_option Elab.async false
set_option linter.all false
set_option maxRecDepth 100000
set_option maxHeartbeats 4000000
namespace L
open PySem L2 Evl Wk StX
def top (i : Nat) : Stmt := PySem.Challenge.pw_fewreadings_k52_whole_false_readings_men.main.body.getD i (.Pass ⟨0, 0, 0, 0⟩)
/-! ### whole_within -/
abbrev s_whole_within : Stmt := top 9
theorem sc_whole_within : FnScope ["number", "low", "high"] ["number", "low", "high"] (defScope s_whole_within) := ⟨rfl, rfl, rfl, by decide +kernel, rfl, by decide +kernel, by decide +kernel⟩
def whole_within (number : Int) (low : Int) (high : Int) : Mm Bool := Mm.ok (true && ((!false) && ((decide (low ≤ number)) && (decide (number ≤ high)))))
def sp_whole_within (K : PySem.W.Frag) : Sp := fun vs H Q _ => ∃ (F : Hp) (number : Int) (low : Int) (high : Int), vs = [(V.int number), (V.int low), (V.int high)] ∧ Ex F H ∧ Post (whole_within number low high) (fun r => Ret [] F H (fun F' _ v => v = V.bl r) Q) (fun _ => False)
theorem ok_whole_within {P : Program} {w : World} {K : PySem.W.Frag} {mg : Str → Option Value} {base : Heap} {C f : Addr} {fd : FuncData} (B : Bi mg) (FF : FunD K "whole_within" "whole_within" (defArgs s_whole_within) (defBody s_whole_within) (defScope s_whole_within) [] [] f fd) : FnOk P w K mg base CX0 1 f fd ["number", "low", "high"] (sp_whole_within K) := by
  refine FF.ok sc_whole_within (fun vs H Q E h => ?_) (fun cdv A outer s H vs Q E hr h => ?_)
  · obtain ⟨F, number, low, high, rfl, _⟩ := h; rfl
  · obtain ⟨F, number, low, high, rfl, e, k⟩ := h
    unfold whole_within at k
    have g_ := Gm.refl (M := []) e
    refine ⟨_, PSs.nox (pss_one (ps_ret (pe_and (pe_callB call_isiI (by rfl) B.isinstance (by decide +kernel) (pa_cons (pv 0) (pa_cons (pe_bltn (v := .ty "int") (u := .type "int") (by rfl) B.int (by decide +kernel) rfl) pa_nil))) (pe_and (pe_not (pe_callB call_isiI (by rfl) B.isinstance (by decide +kernel) (pa_cons (pv 0) (pa_cons (pe_bltn (v := .ty "bool") (u := .type "bool") (by rfl) B.bool (by decide +kernel) rfl) pa_nil)))) (pe_one (pe_chain op_le op_le (pv 1) (pv 0) (pv 2))))))), ?_⟩
    refine ⟨_, rfl, _, _, true, rfl, .inl ⟨rfl, rfl⟩, _, rfl, ?_⟩
    refine andV_j (b := ((!false) && ((decide (low ≤ number)) && (decide (number ≤ high))))) (fun _ Q' q => ?_) ?_
    · refine ⟨_, rfl, _, _, false, rfl, .inr ⟨rfl, rfl⟩, _, rfl, _, rfl, ?_⟩
      refine andV_j (b := ((decide (low ≤ number)) && (decide (number ≤ high)))) (fun _ Q' q => ?_) ?_
      · refine ⟨_, rfl, _, rfl, _, _, rfl, rfl, _, rfl, ?_⟩
        refine chain_j (b := (decide (number ≤ high))) (fun _ Q' q => ?_) ?_
        · refine ⟨_, rfl, _, _, rfl, rfl, ?_⟩
          exact q
        exact q
      exact q
    exact k.h _ _ _ g_ rfl
/-! ### check_within -/
abbrev s_check_within : Stmt := top 10
theorem sc_check_within : FnScope ["number", "low", "high"] ["number", "low", "high"] (defScope s_check_within) := ⟨rfl, rfl, rfl, by decide +kernel, rfl, by decide +kernel, by decide +kernel⟩
def check_within (number : Int) (low : Int) (high : Int) : Mm Unit := (whole_within (number) (low) (high)).bd fun b1 => cond (!b1) (Mm.bad) (Mm.ok ())
def sp_check_within (K : PySem.W.Frag) : Sp := fun vs H Q _ => ∃ (F : Hp) (number : Int) (low : Int) (high : Int), vs = [(V.int number), (V.int low), (V.int high)] ∧ Ex F H ∧ Post (check_within number low high) (fun r => Ret [] F H (fun F' _ v => v = V.non) Q) (fun _ => False)
theorem ok_check_within {P : Program} {w : World} {K : PySem.W.Frag} {mg : Str → Option Value} {base : Heap} {C f : Addr} {fd : FuncData} (B : Bi mg) (FF : FunD K "check_within" "check_within" (defArgs s_check_within) (defBody s_check_within) (defScope s_check_within) [] [] f fd) (G_whole_within : Kn P w K mg base "whole_within" 1 ["number", "low", "high"] (sp_whole_within K)) : FnOk P w K mg base CX0 2 f fd ["number", "low", "high"] (sp_check_within K) := by
  refine FF.ok sc_check_within (fun vs H Q E h => ?_) (fun cdv A outer s H vs Q E hr h => ?_)
  · obtain ⟨F, number, low, high, rfl, _⟩ := h; rfl
  · obtain ⟨F, number, low, high, rfl, e, k⟩ := h
    unfold check_within at k
    have g_ := Gm.refl (M := []) e
    refine ⟨_, PSs.nox (pss_one (ps_if (pt_not (pt_val (pe_kn G_whole_within (hr.mono (by decide)) (pa_cons (pv 0) (pa_cons (pv 1) (pa_cons (pv 2) (pa_nil))))))) (pss_one ps_never) pss_nil)), ?_⟩
    refine ⟨_, rfl, _, rfl, _, rfl, ?_⟩
    refine ⟨F, number, low, high, rfl, e, (post_bd k).mono (fun b1 k v6 F2 H3 g4 r5 => ?_) (fun _ z => z)⟩
    have eF2 := g4.s
    have gF2 := g_.trans (g4.weak (by simp))
    subst r5
    refine ⟨_, rfl, ?_⟩
    refine cs k (fun _ k => ?_) (fun _ k => ?_)
    · exact k.elim
    · exact k.h _ _ _ gF2 rfl
/-! ### lowest -/
abbrev s_lowest : Stmt := top 11
theorem sc_lowest : FnScope ["top", "bottom", "shared"] ["top", "bottom"] (defScope s_lowest) := ⟨rfl, rfl, rfl, by decide +kernel, rfl, by decide +kernel, by decide +kernel⟩
def lowest (top : Int) (bottom : Int) : Mm (Int × Int) := (cond (decide (bottom < (0 : Int))) (Mm.ok (-((Nat.gcd top.natAbs bottom.natAbs : Nat) : Int))) (Mm.ok ((Nat.gcd top.natAbs bottom.natAbs : Nat) : Int))).bd fun b1 => (divM top b1).bd fun m8 => (divM bottom b1).bd fun m11 => Mm.ok (m8, m11)
def sp_lowest (K : PySem.W.Frag) : Sp := fun vs H Q _ => ∃ (F : Hp) (top : Int) (bottom : Int), vs = [(V.int top), (V.int bottom)] ∧ Ex F H ∧ Post (lowest top bottom) (fun r => Ret [] F H (fun F' _ v => Dq K F' v ((e2 PyData.int PyData.int) r)) Q) (fun _ => False)
theorem ok_lowest {P : Program} {w : World} {K : PySem.W.Frag} {mg : Str → Option Value} {base : Heap} {C f : Addr} {fd : FuncData} (B : Bi mg) (FF : FunD K "lowest" "lowest" (defArgs s_lowest) (defBody s_lowest) (defScope s_lowest) [] [] f fd) (c_gcd : mg "gcd" = some (.builtin "math.gcd")) : FnOk P w K mg base CX0 1 f fd ["top", "bottom"] (sp_lowest K) := by
  refine FF.ok sc_lowest (fun vs H Q E h => ?_) (fun cdv A outer s H vs Q E hr h => ?_)
  · obtain ⟨F, top, bottom, rfl, _⟩ := h; rfl
  · obtain ⟨F, top, bottom, rfl, e, k⟩ := h
    unfold lowest at k
    have g_ := Gm.refl (M := []) e
    refine ⟨_, PSs.nox (pss_cons (ps_set (i := 2) sc_lowest.nd rfl (Or.inl rfl) (pe_callBfun cr_gcd (by rfl) c_gcd (pa_cons (pv 0) (pa_cons (pv 1) (pa_nil))))) (pss_cons (ps_if (pt_cmpR op_lt (pv 1) (pe_int) (nomark _)) (pss_one (ps_set (i := 2) sc_lowest.nd rfl (Or.inl rfl) (pe_un un_neg (pv 2)))) (pss_nil)) (pss_one (ps_ret (pe_q (pe_tup (pa_cons (pe_op op_divM (pv 0) (pv 2)) (pa_cons (pe_op op_divM (pv 1) (pv 2)) (pa_nil))))))))), ?_⟩
    refine ⟨_, rfl, _, rfl, _, _, rfl, ?_⟩
    refine ⟨_, rfl, _, _, rfl, rfl, _, rfl, ?_⟩
    refine ifs_jM (M := []) (F := F) (fun b1 F' H' σ' => σ' = [some (V.int top), some (V.int bottom), some (V.int b1)]) k (fun _ nx kjb1 => ?_) (fun _ nx kjb1 => ?_) (fun b1 σ5 F2 H3 g4 i6 k => ?_)
    · have gF_ := Gm.refl (M := []) e
      refine ⟨_, rfl, _, rfl, ?_⟩
      exact kjb1.h _ _ _ gF_ rfl
    · have gF_ := Gm.refl (M := []) e
      exact kjb1.h _ _ _ gF_ rfl
    have g7 := g_.trans (g4.weak (by simp))
    have eF2 := g4.s
    obtain rfl := i6
    refine ⟨_, rfl, _, rfl, ?_⟩
    obtain ⟨m8, c9, q10, k⟩ := post_div k
    refine ⟨_, _, _, rfl, rfl, c9, q10, _, rfl, _, rfl, ?_⟩
    obtain ⟨m11, c12, q13, k⟩ := post_div k
    refine ⟨_, _, _, rfl, rfl, c12, q13, ?_⟩
    show _ ∧ _
    refine new_tup (K := K) (M := []) eF2 (.cons (Dq.int m8) (.cons (Dq.int m11) .nil)) (by show 2 ≤ 100000; decide) fun v18 F14 H15 g16 r17 => ?_
    have eF14 := g16.s
    have gF14 := g7.trans (g16.weak (by simp))
    replace r17 : Dq K F14 v18 ((e2 PyData.int PyData.int) (m8, m11)) := r17
    exact k.h _ _ _ gF14 r17
/-! ### plus -/
abbrev s_plus : Stmt := top 12
theorem sc_plus : FnScope ["one", "other"] ["one", "other"] (defScope s_plus) := ⟨rfl, rfl, rfl, by decide +kernel, rfl, by decide +kernel, by decide +kernel⟩
def plus (one : (Int × Int)) (other : (Int × Int)) : Mm (Int × Int) := (mulM one.1 other.2).bd fun m13 => (mulM other.1 one.2).bd fun m16 => (mulM one.2 other.2).bd fun m19 => (lowest ((m13 + m16)) (m19)).bd fun b22 => Mm.ok b22
def sp_plus (K : PySem.W.Frag) : Sp := fun vs H Q _ => ∃ (F : Hp) (v_one : V) (one : (Int × Int)) (v_other : V) (other : (Int × Int)), vs = [v_one, v_other] ∧ Ex F H ∧ Dq K F v_one ((e2 PyData.int PyData.int) one) ∧ Dq K F v_other ((e2 PyData.int PyData.int) other) ∧ Post (plus one other) (fun r => Ret [] F H (fun F' _ v => Dq K F' v ((e2 PyData.int PyData.int) r)) Q) (fun _ => False)
theorem ok_plus {P : Program} {w : World} {K : PySem.W.Frag} {mg : Str → Option Value} {base : Heap} {C f : Addr} {fd : FuncData} (B : Bi mg) (FF : FunD K "plus" "plus" (defArgs s_plus) (defBody s_plus) (defScope s_plus) [] [] f fd) (G_lowest : Kn P w K mg base "lowest" 1 ["top", "bottom"] (sp_lowest K)) : FnOk P w K mg base CX0 2 f fd ["one", "other"] (sp_plus K) := by
  refine FF.ok sc_plus (fun vs H Q E h => ?_) (fun cdv A outer s H vs Q E hr h => ?_)
  · obtain ⟨F, v_one, one, v_other, other, rfl, _⟩ := h; rfl
  · obtain ⟨F, v_one, one, v_other, other, rfl, e, r_one, r_other, k⟩ := h
    unfold plus at k
    have g_ := Gm.refl (M := []) e
    refine ⟨_, PSs.nox (pss_one (ps_ret (pe_kn G_lowest (hr.mono (by decide)) (pa_cons (pe_op op_add (pe_op op_mulM (pe_ix (r := rIxT K) ix_tup (pv 0) (pe_int) (fun _ _ => rfl)) (pe_ix (r := rIxT K) ix_tup (pv 1) (pe_int) (fun _ _ => rfl))) (pe_op op_mulM (pe_ix (r := rIxT K) ix_tup (pv 1) (pe_int) (fun _ _ => rfl)) (pe_ix (r := rIxT K) ix_tup (pv 0) (pe_int) (fun _ _ => rfl)))) (pa_cons (pe_op op_mulM (pe_ix (r := rIxT K) ix_tup (pv 0) (pe_int) (fun _ _ => rfl)) (pe_ix (r := rIxT K) ix_tup (pv 1) (pe_int) (fun _ _ => rfl))) (pa_nil)))))), ?_⟩
    refine ⟨_, rfl, ?_⟩
    obtain ⟨p1, x2, x3, rfl, s4, d5, d6⟩ := dp_tup2 r_one
    obtain rfl := dp_int d5
    obtain rfl := dp_int d6
    refine ⟨_, _, _, _, rfl, rfl, ex_t e s4, rfl, _, rfl, ?_⟩
    obtain ⟨p7, x8, x9, rfl, s10, d11, d12⟩ := dp_tup2 r_other
    obtain rfl := dp_int d11
    obtain rfl := dp_int d12
    refine ⟨_, _, _, _, rfl, rfl, ex_t e s10, rfl, ?_⟩
    obtain ⟨m13, c14, q15, k⟩ := post_mul k
    refine ⟨_, _, _, rfl, rfl, c14, q15, _, rfl, ?_⟩
    refine ⟨_, _, _, _, rfl, rfl, ex_t e s10, rfl, _, rfl, ?_⟩
    refine ⟨_, _, _, _, rfl, rfl, ex_t e s4, rfl, ?_⟩
    obtain ⟨m16, c17, q18, k⟩ := post_mul k
    refine ⟨_, _, _, rfl, rfl, c17, q18, _, _, rfl, rfl, _, rfl, ?_⟩
    refine ⟨_, _, _, _, rfl, rfl, ex_t e s4, rfl, _, rfl, ?_⟩
    refine ⟨_, _, _, _, rfl, rfl, ex_t e s10, rfl, ?_⟩
    obtain ⟨m19, c20, q21, k⟩ := post_mul k
    refine ⟨_, _, _, rfl, rfl, c20, q21, ?_⟩
    refine ⟨F, (m13 + m16), m19, rfl, e, (post_bd k).mono (fun b22 k v27 F23 H24 g25 r26 => ?_) (fun _ z => z)⟩
    have eF23 := g25.s
    have gF23 := g_.trans (g25.weak (by simp))
    replace r_one := r_one.up g25.f
    replace r_other := r_other.up g25.f
    replace s4 := ex_t g25.f s4
    replace s10 := ex_t g25.f s10
    exact k.h _ _ _ gF23 r26
/-! ### minus -/
abbrev s_minus : Stmt := top 13
theorem sc_minus : FnScope ["one", "other"] ["one", "other"] (defScope s_minus) := ⟨rfl, rfl, rfl, by decide +kernel, rfl, by decide +kernel, by decide +kernel⟩
def minus (one : (Int × Int)) (other : (Int × Int)) : Mm (Int × Int) := (mulM one.1 other.2).bd fun m13 => (mulM other.1 one.2).bd fun m16 => (mulM one.2 other.2).bd fun m19 => (lowest ((m13 - m16)) (m19)).bd fun b22 => Mm.ok b22
def sp_minus (K : PySem.W.Frag) : Sp := fun vs H Q _ => ∃ (F : Hp) (v_one : V) (one : (Int × Int)) (v_other : V) (other : (Int × Int)), vs = [v_one, v_other] ∧ Ex F H ∧ Dq K F v_one ((e2 PyData.int PyData.int) one) ∧ Dq K F v_other ((e2 PyData.int PyData.int) other) ∧ Post (minus one other) (fun r => Ret [] F H (fun F' _ v => Dq K F' v ((e2 PyData.int PyData.int) r)) Q) (fun _ => False)
theorem ok_minus {P : Program} {w : World} {K : PySem.W.Frag} {mg : Str → Option Value} {base : Heap} {C f : Addr} {fd : FuncData} (B : Bi mg) (FF : FunD K "minus" "minus" (defArgs s_minus) (defBody s_minus) (defScope s_minus) [] [] f fd) (G_lowest : Kn P w K mg base "lowest" 1 ["top", "bottom"] (sp_lowest K)) : FnOk P w K mg base CX0 2 f fd ["one", "other"] (sp_minus K) := by
  refine FF.ok sc_minus (fun vs H Q E h => ?_) (fun cdv A outer s H vs Q E hr h => ?_)
  · obtain ⟨F, v_one, one, v_other, other, rfl, _⟩ := h; rfl
  · obtain ⟨F, v_one, one, v_other, other, rfl, e, r_one, r_other, k⟩ := h
    unfold minus at k
    have g_ := Gm.refl (M := []) e
    refine ⟨_, PSs.nox (pss_one (ps_ret (pe_kn G_lowest (hr.mono (by decide)) (pa_cons (pe_op op_sub (pe_op op_mulM (pe_ix (r := rIxT K) ix_tup (pv 0) (pe_int) (fun _ _ => rfl)) (pe_ix (r := rIxT K) ix_tup (pv 1) (pe_int) (fun _ _ => rfl))) (pe_op op_mulM (pe_ix (r := rIxT K) ix_tup (pv 1) (pe_int) (fun _ _ => rfl)) (pe_ix (r := rIxT K) ix_tup (pv 0) (pe_int) (fun _ _ => rfl)))) (pa_cons (pe_op op_mulM (pe_ix (r := rIxT K) ix_tup (pv 0) (pe_int) (fun _ _ => rfl)) (pe_ix (r := rIxT K) ix_tup (pv 1) (pe_int) (fun _ _ => rfl))) (pa_nil)))))), ?_⟩
    refine ⟨_, rfl, ?_⟩
    obtain ⟨p1, x2, x3, rfl, s4, d5, d6⟩ := dp_tup2 r_one
    obtain rfl := dp_int d5
    obtain rfl := dp_int d6
    refine ⟨_, _, _, _, rfl, rfl, ex_t e s4, rfl, _, rfl, ?_⟩
    obtain ⟨p7, x8, x9, rfl, s10, d11, d12⟩ := dp_tup2 r_other
    obtain rfl := dp_int d11
    obtain rfl := dp_int d12
    refine ⟨_, _, _, _, rfl, rfl, ex_t e s10, rfl, ?_⟩
    obtain ⟨m13, c14, q15, k⟩ := post_mul k
    refine ⟨_, _, _, rfl, rfl, c14, q15, _, rfl, ?_⟩
    refine ⟨_, _, _, _, rfl, rfl, ex_t e s10, rfl, _, rfl, ?_⟩
    refine ⟨_, _, _, _, rfl, rfl, ex_t e s4, rfl, ?_⟩
    obtain ⟨m16, c17, q18, k⟩ := post_mul k
    refine ⟨_, _, _, rfl, rfl, c17, q18, _, _, rfl, rfl, _, rfl, ?_⟩
    refine ⟨_, _, _, _, rfl, rfl, ex_t e s4, rfl, _, rfl, ?_⟩
    refine ⟨_, _, _, _, rfl, rfl, ex_t e s10, rfl, ?_⟩
    obtain ⟨m19, c20, q21, k⟩ := post_mul k
    refine ⟨_, _, _, rfl, rfl, c20, q21, ?_⟩
    refine ⟨F, (m13 - m16), m19, rfl, e, (post_bd k).mono (fun b22 k v27 F23 H24 g25 r26 => ?_) (fun _ z => z)⟩
    have eF23 := g25.s
    have gF23 := g_.trans (g25.weak (by simp))
    replace r_one := r_one.up g25.f
    replace r_other := r_other.up g25.f
    replace s4 := ex_t g25.f s4
    replace s10 := ex_t g25.f s10
    exact k.h _ _ _ gF23 r26
/-! ### times -/
abbrev s_times : Stmt := top 14
theorem sc_times : FnScope ["one", "other"] ["one", "other"] (defScope s_times) := ⟨rfl, rfl, rfl, by decide +kernel, rfl, by decide +kernel, by decide +kernel⟩
def times (one : (Int × Int)) (other : (Int × Int)) : Mm (Int × Int) := (mulM one.1 other.1).bd fun m13 => (mulM one.2 other.2).bd fun m16 => (lowest (m13) (m16)).bd fun b19 => Mm.ok b19
def sp_times (K : PySem.W.Frag) : Sp := fun vs H Q _ => ∃ (F : Hp) (v_one : V) (one : (Int × Int)) (v_other : V) (other : (Int × Int)), vs = [v_one, v_other] ∧ Ex F H ∧ Dq K F v_one ((e2 PyData.int PyData.int) one) ∧ Dq K F v_other ((e2 PyData.int PyData.int) other) ∧ Post (times one other) (fun r => Ret [] F H (fun F' _ v => Dq K F' v ((e2 PyData.int PyData.int) r)) Q) (fun _ => False)
theorem ok_times {P : Program} {w : World} {K : PySem.W.Frag} {mg : Str → Option Value} {base : Heap} {C f : Addr} {fd : FuncData} (B : Bi mg) (FF : FunD K "times" "times" (defArgs s_times) (defBody s_times) (defScope s_times) [] [] f fd) (G_lowest : Kn P w K mg base "lowest" 1 ["top", "bottom"] (sp_lowest K)) : FnOk P w K mg base CX0 2 f fd ["one", "other"] (sp_times K) := by
  refine FF.ok sc_times (fun vs H Q E h => ?_) (fun cdv A outer s H vs Q E hr h => ?_)
  · obtain ⟨F, v_one, one, v_other, other, rfl, _⟩ := h; rfl
  · obtain ⟨F, v_one, one, v_other, other, rfl, e, r_one, r_other, k⟩ := h
    unfold times at k
    have g_ := Gm.refl (M := []) e
    refine ⟨_, PSs.nox (pss_one (ps_ret (pe_kn G_lowest (hr.mono (by decide)) (pa_cons (pe_op op_mulM (pe_ix (r := rIxT K) ix_tup (pv 0) (pe_int) (fun _ _ => rfl)) (pe_ix (r := rIxT K) ix_tup (pv 1) (pe_int) (fun _ _ => rfl))) (pa_cons (pe_op op_mulM (pe_ix (r := rIxT K) ix_tup (pv 0) (pe_int) (fun _ _ => rfl)) (pe_ix (r := rIxT K) ix_tup (pv 1) (pe_int) (fun _ _ => rfl))) (pa_nil)))))), ?_⟩
    refine ⟨_, rfl, ?_⟩
    obtain ⟨p1, x2, x3, rfl, s4, d5, d6⟩ := dp_tup2 r_one
    obtain rfl := dp_int d5
    obtain rfl := dp_int d6
    refine ⟨_, _, _, _, rfl, rfl, ex_t e s4, rfl, _, rfl, ?_⟩
    obtain ⟨p7, x8, x9, rfl, s10, d11, d12⟩ := dp_tup2 r_other
    obtain rfl := dp_int d11
    obtain rfl := dp_int d12
    refine ⟨_, _, _, _, rfl, rfl, ex_t e s10, rfl, ?_⟩
    obtain ⟨m13, c14, q15, k⟩ := post_mul k
    refine ⟨_, _, _, rfl, rfl, c14, q15, _, rfl, ?_⟩
    refine ⟨_, _, _, _, rfl, rfl, ex_t e s4, rfl, _, rfl, ?_⟩
    refine ⟨_, _, _, _, rfl, rfl, ex_t e s10, rfl, ?_⟩
    obtain ⟨m16, c17, q18, k⟩ := post_mul k
    refine ⟨_, _, _, rfl, rfl, c17, q18, ?_⟩
    refine ⟨F, m13, m16, rfl, e, (post_bd k).mono (fun b19 k v24 F20 H21 g22 r23 => ?_) (fun _ z => z)⟩
    have eF20 := g22.s
    have gF20 := g_.trans (g22.weak (by simp))
    replace r_one := r_one.up g22.f
    replace r_other := r_other.up g22.f
    replace s4 := ex_t g22.f s4
    replace s10 := ex_t g22.f s10
    exact k.h _ _ _ gF20 r23
/-! ### over -/
abbrev s_over : Stmt := top 15
theorem sc_over : FnScope ["one", "other"] ["one", "other"] (defScope s_over) := ⟨rfl, rfl, rfl, by decide +kernel, rfl, by decide +kernel, by decide +kernel⟩
def over (one : (Int × Int)) (other : (Int × Int)) : Mm (Int × Int) := (mulM one.1 other.2).bd fun m13 => (mulM one.2 other.1).bd fun m16 => (lowest (m13) (m16)).bd fun b19 => Mm.ok b19
def sp_over (K : PySem.W.Frag) : Sp := fun vs H Q _ => ∃ (F : Hp) (v_one : V) (one : (Int × Int)) (v_other : V) (other : (Int × Int)), vs = [v_one, v_other] ∧ Ex F H ∧ Dq K F v_one ((e2 PyData.int PyData.int) one) ∧ Dq K F v_other ((e2 PyData.int PyData.int) other) ∧ Post (over one other) (fun r => Ret [] F H (fun F' _ v => Dq K F' v ((e2 PyData.int PyData.int) r)) Q) (fun _ => False)
theorem ok_over {P : Program} {w : World} {K : PySem.W.Frag} {mg : Str → Option Value} {base : Heap} {C f : Addr} {fd : FuncData} (B : Bi mg) (FF : FunD K "over" "over" (defArgs s_over) (defBody s_over) (defScope s_over) [] [] f fd) (G_lowest : Kn P w K mg base "lowest" 1 ["top", "bottom"] (sp_lowest K)) : FnOk P w K mg base CX0 2 f fd ["one", "other"] (sp_over K) := by
  refine FF.ok sc_over (fun vs H Q E h => ?_) (fun cdv A outer s H vs Q E hr h => ?_)
  · obtain ⟨F, v_one, one, v_other, other, rfl, _⟩ := h; rfl
  · obtain ⟨F, v_one, one, v_other, other, rfl, e, r_one, r_other, k⟩ := h
    unfold over at k
    have g_ := Gm.refl (M := []) e
    refine ⟨_, PSs.nox (pss_one (ps_ret (pe_kn G_lowest (hr.mono (by decide)) (pa_cons (pe_op op_mulM (pe_ix (r := rIxT K) ix_tup (pv 0) (pe_int) (fun _ _ => rfl)) (pe_ix (r := rIxT K) ix_tup (pv 1) (pe_int) (fun _ _ => rfl))) (pa_cons (pe_op op_mulM (pe_ix (r := rIxT K) ix_tup (pv 0) (pe_int) (fun _ _ => rfl)) (pe_ix (r := rIxT K) ix_tup (pv 1) (pe_int) (fun _ _ => rfl))) (pa_nil)))))), ?_⟩
    refine ⟨_, rfl, ?_⟩
    obtain ⟨p1, x2, x3, rfl, s4, d5, d6⟩ := dp_tup2 r_one
    obtain rfl := dp_int d5
    obtain rfl := dp_int d6
    refine ⟨_, _, _, _, rfl, rfl, ex_t e s4, rfl, _, rfl, ?_⟩
    obtain ⟨p7, x8, x9, rfl, s10, d11, d12⟩ := dp_tup2 r_other
    obtain rfl := dp_int d11
    obtain rfl := dp_int d12
    refine ⟨_, _, _, _, rfl, rfl, ex_t e s10, rfl, ?_⟩
    obtain ⟨m13, c14, q15, k⟩ := post_mul k
    refine ⟨_, _, _, rfl, rfl, c14, q15, _, rfl, ?_⟩
    refine ⟨_, _, _, _, rfl, rfl, ex_t e s4, rfl, _, rfl, ?_⟩
    refine ⟨_, _, _, _, rfl, rfl, ex_t e s10, rfl, ?_⟩
    obtain ⟨m16, c17, q18, k⟩ := post_mul k
    refine ⟨_, _, _, rfl, rfl, c17, q18, ?_⟩
    refine ⟨F, m13, m16, rfl, e, (post_bd k).mono (fun b19 k v24 F20 H21 g22 r23 => ?_) (fun _ z => z)⟩
    have eF20 := g22.s
    have gF20 := g_.trans (g22.weak (by simp))
    replace r_one := r_one.up g22.f
    replace r_other := r_other.up g22.f
    replace s4 := ex_t g22.f s4
    replace s10 := ex_t g22.f s10
    exact k.h _ _ _ gF20 r23
/-! ### is_less -/
abbrev s_is_less : Stmt := top 16
theorem sc_is_less : FnScope ["one", "other"] ["one", "other"] (defScope s_is_less) := ⟨rfl, rfl, rfl, by decide +kernel, rfl, by decide +kernel, by decide +kernel⟩
def is_less (one : (Int × Int)) (other : (Int × Int)) : Mm Bool := (mulM one.1 other.2).bd fun m13 => (mulM other.1 one.2).bd fun m16 => Mm.ok (decide (m13 < m16))
def sp_is_less (K : PySem.W.Frag) : Sp := fun vs H Q _ => ∃ (F : Hp) (v_one : V) (one : (Int × Int)) (v_other : V) (other : (Int × Int)), vs = [v_one, v_other] ∧ Ex F H ∧ Dq K F v_one ((e2 PyData.int PyData.int) one) ∧ Dq K F v_other ((e2 PyData.int PyData.int) other) ∧ Post (is_less one other) (fun r => Ret [] F H (fun F' _ v => v = V.bl r) Q) (fun _ => False)
theorem ok_is_less {P : Program} {w : World} {K : PySem.W.Frag} {mg : Str → Option Value} {base : Heap} {C f : Addr} {fd : FuncData} (B : Bi mg) (FF : FunD K "is_less" "is_less" (defArgs s_is_less) (defBody s_is_less) (defScope s_is_less) [] [] f fd) : FnOk P w K mg base CX0 1 f fd ["one", "other"] (sp_is_less K) := by
  refine FF.ok sc_is_less (fun vs H Q E h => ?_) (fun cdv A outer s H vs Q E hr h => ?_)
  · obtain ⟨F, v_one, one, v_other, other, rfl, _⟩ := h; rfl
  · obtain ⟨F, v_one, one, v_other, other, rfl, e, r_one, r_other, k⟩ := h
    unfold is_less at k
    have g_ := Gm.refl (M := []) e
    refine ⟨_, PSs.nox (pss_one (ps_ret (pe_cmpR op_lt (pe_op op_mulM (pe_ix (r := rIxT K) ix_tup (pv 0) (pe_int) (fun _ _ => rfl)) (pe_ix (r := rIxT K) ix_tup (pv 1) (pe_int) (fun _ _ => rfl))) (pe_op op_mulM (pe_ix (r := rIxT K) ix_tup (pv 1) (pe_int) (fun _ _ => rfl)) (pe_ix (r := rIxT K) ix_tup (pv 0) (pe_int) (fun _ _ => rfl))) (nomark _)))), ?_⟩
    refine ⟨_, rfl, ?_⟩
    obtain ⟨p1, x2, x3, rfl, s4, d5, d6⟩ := dp_tup2 r_one
    obtain rfl := dp_int d5
    obtain rfl := dp_int d6
    refine ⟨_, _, _, _, rfl, rfl, ex_t e s4, rfl, _, rfl, ?_⟩
    obtain ⟨p7, x8, x9, rfl, s10, d11, d12⟩ := dp_tup2 r_other
    obtain rfl := dp_int d11
    obtain rfl := dp_int d12
    refine ⟨_, _, _, _, rfl, rfl, ex_t e s10, rfl, ?_⟩
    obtain ⟨m13, c14, q15, k⟩ := post_mul k
    refine ⟨_, _, _, rfl, rfl, c14, q15, _, rfl, ?_⟩
    refine ⟨_, _, _, _, rfl, rfl, ex_t e s10, rfl, _, rfl, ?_⟩
    refine ⟨_, _, _, _, rfl, rfl, ex_t e s4, rfl, ?_⟩
    obtain ⟨m16, c17, q18, k⟩ := post_mul k
    refine ⟨_, _, _, rfl, rfl, c17, q18, _, _, rfl, rfl, ?_⟩
    exact k.h _ _ _ g_ rfl
/-! ### with_root -/
abbrev s_with_root : Stmt := top 17
theorem sc_with_root : FnScope ["polynomial", "place", "raised", "shrunk", "one", "other", "coefficient"] ["polynomial", "place"] (defScope s_with_root) := ⟨rfl, rfl, rfl, by decide +kernel, rfl, by decide +kernel, by decide +kernel⟩
def with_root (polynomial : (List (Int × Int))) (place : (Int × Int)) : Mm (List (Int × Int)) := (guardM ([((0, 1) : (Int × Int))].length + polynomial.length ≤ 100000)).bd fun _ => (guardM (polynomial.length ≤ 50000)).bd fun _ => (mapMm (fun (x13 : (Int × Int)) => (times (x13) (place)).bd fun b32 => Mm.ok b32) polynomial).bd fun b12 => (guardM (b12.length + [((0, 1) : (Int × Int))].length ≤ 100000)).bd fun _ => (guardM ((([((0, 1) : (Int × Int))] ++ polynomial).zip (b12 ++ [((0, 1) : (Int × Int))])).length ≤ 50000)).bd fun _ => (mapMm (fun (x70 : ((Int × Int) × (Int × Int))) => (minus (x70.1) (x70.2)).bd fun b95 => Mm.ok b95) (([((0, 1) : (Int × Int))] ++ polynomial).zip (b12 ++ [((0, 1) : (Int × Int))]))).bd fun b69 => Mm.ok b69
def sp_with_root (K : PySem.W.Frag) : Sp := fun vs H Q _ => ∃ (F : Hp) (v_polynomial : V) (polynomial : (List (Int × Int))) (v_place : V) (place : (Int × Int)), vs = [v_polynomial, v_place] ∧ Ex F H ∧ Dq K F v_polynomial ((eL (e2 PyData.int PyData.int)) polynomial) ∧ Dq K F v_place ((e2 PyData.int PyData.int) place) ∧ Post (with_root polynomial place) (fun r => Ret [] F H (fun F' _ v => Dq K F' v ((eL (e2 PyData.int PyData.int)) r)) Q) (fun _ => False)
theorem ok_with_root {P : Program} {w : World} {K : PySem.W.Frag} {mg : Str → Option Value} {base : Heap} {C f : Addr} {fd : FuncData} (B : Bi mg) (FF : FunD K "with_root" "with_root" (defArgs s_with_root) (defBody s_with_root) (defScope s_with_root) [] [] f fd) (G_times : Kn P w K mg base "times" 2 ["one", "other"] (sp_times K)) (G_minus : Kn P w K mg base "minus" 2 ["one", "other"] (sp_minus K)) {a_NOUGHT : Addr} (c_NOUGHT : mg "NOUGHT" = some (.ref a_NOUGHT)) (d_NOUGHT : ∀ F, Dq K F (.ref a_NOUGHT) ((e2 PyData.int PyData.int) (0, 1))) : FnOk P w K mg base CX0 3 f fd ["polynomial", "place"] (sp_with_root K) := by
  refine FF.ok sc_with_root (fun vs H Q E h => ?_) (fun cdv A outer s H vs Q E hr h => ?_)
  · obtain ⟨F, v_polynomial, polynomial, v_place, place, rfl, _⟩ := h; rfl
  · obtain ⟨F, v_polynomial, polynomial, v_place, place, rfl, e, r_polynomial, r_place, k⟩ := h
    unfold with_root at k
    have g_ := Gm.refl (M := []) e
    refine ⟨_, PSs.nox (pss_cons (ps_set (i := 2) sc_with_root.nd rfl (Or.inl rfl) (pe_q (pe_lst (pa_cons (pe_gref c_NOUGHT) (pa_star (pv 0) pa_nil))))) (pss_cons (ps_set (i := 3) sc_with_root.nd rfl (Or.inl rfl) (pe_q (pe_op op_cat (pe_q (pe_lc (own := [("coefficient", 6)]) (g := gName 6) rfl sc_with_root.nd (pi_list (pv 0)) (blkOk_by (N := ["polynomial", "place", "raised", "shrunk", "one", "other", "coefficient"]) (sc := defScope s_with_root) (by decide +kernel)) (fun _ _ _ _ _ => pg_name (i := 6) sc_with_root.nd rfl (Or.inl rfl)) (fun _ _ _ _ _ => pts_nil) (fun _ _ _ _ _ => pe_kn G_times (hr.mono (by decide)) (pa_cons (pv 6) (pa_cons (pv 1) (pa_nil)))))) (pe_q (pe_lst (pa_cons (pe_gref c_NOUGHT) (pa_nil))))))) (pss_one (ps_ret (pe_q (pe_lc (own := [("one", 4), ("other", 5)]) (g := gTup K 2 (gCons (gName 4) (gCons (gName 5) gNil))) rfl sc_with_root.nd (pi_zip rfl B.zip (pa_cons (pv 2) (pa_cons (pv 3) (pa_nil)))) (blkOk_by (N := ["polynomial", "place", "raised", "shrunk", "one", "other", "coefficient"]) (sc := defScope s_with_root) (by decide +kernel)) (fun _ _ _ _ _ => pg_tup (by rfl) (pgs_cons (pg_name (i := 4) sc_with_root.nd rfl (Or.inl rfl)) (pgs_cons (pg_name (i := 5) sc_with_root.nd rfl (Or.inl rfl)) (pgs_nil)))) (fun _ _ _ _ _ => pts_nil) (fun _ _ _ _ _ => pe_kn G_minus (hr.mono (by decide)) (pa_cons (pv 4) (pa_cons (pv 5) (pa_nil)))))))))), ?_⟩
    refine ⟨_, rfl, ?_⟩
    obtain ⟨p1, xs2, rfl, s3, a4⟩ := dp_lst r_polynomial
    refine ⟨_, _, rfl, .inr (sq_of (e _ _ s3)), ?_⟩
    obtain ⟨h5, k⟩ := post_guard k
    show _ ∧ _
    refine new_star (K := K) (M := []) (en := (e2 PyData.int PyData.int)) (pre := [(V.ref a_NOUGHT)]) (pm := [((0, 1) : (Int × Int))]) (xs := xs2) (l := polynomial) e (.cons (d_NOUGHT F) .nil) a4 h5 fun v10 F6 H7 g8 r9 => ?_
    have eF6 := g8.s
    have gF6 := g_.trans (g8.weak (by simp))
    replace r_polynomial := r_polynomial.up g8.f
    replace r_place := r_place.up g8.f
    replace s3 := g8.f _ _ s3
    replace a4 := a4.up g8.f
    refine ⟨_, rfl, ?_⟩
    refine ⟨_, rfl, ⟨_, (sq_of (eF6 _ _ s3))⟩, ?_⟩
    obtain ⟨h30, k⟩ := post_guard k
    refine lc_map (K := K) (M := []) (wlk_list eF6 s3 a4) (e2 PyData.int PyData.int) k eF6 h30 (fun _ _ => by simp) (fun x13 v28 F21 H22 F23 H24 g25 g26 r27 Q' k11 => ?_) (fun _ z => z) (fun b12 v14 F15 H16 g17 r18 k => ?_) gm_name
    · have g31 := Gm.refl (M := []) g25.s
      replace r_polynomial := r_polynomial.up g25.f
      replace r_place := r_place.up g25.f
      replace s3 := g25.f _ _ s3
      replace a4 := a4.up g25.f
      replace r9 := r9.up g25.f
      replace r_polynomial := r_polynomial.up g26.f
      replace r_place := r_place.up g26.f
      replace s3 := g26.f _ _ s3
      replace a4 := a4.up g26.f
      replace r9 := r9.up g26.f
      have eF23 := g26.s
      have gF23 := g31.trans (g26.weak (by simp))
      refine ⟨rfl, _, rfl, _, rfl, ?_⟩
      refine ⟨F23, _, x13, _, place, rfl, eF23, r27, r_place, (post_bd k11).mono (fun b32 k11 v37 F33 H34 g35 r36 => ?_) (fun _ z => z)⟩
      have eF33 := g35.s
      have gF33 := gF23.trans (g35.weak (by simp))
      replace r_polynomial := r_polynomial.up g35.f
      replace r_place := r_place.up g35.f
      replace s3 := g35.f _ _ s3
      replace a4 := a4.up g35.f
      replace r9 := r9.up g35.f
      replace r27 := r27.up g35.f
      exact k11.h _ _ _ gF33 r36
    have eF15 := g17.s
    have gF15 := gF6.trans (g17.weak (by simp))
    replace r_polynomial := r_polynomial.up g17.f
    replace r_place := r_place.up g17.f
    replace s3 := g17.f _ _ s3
    replace a4 := a4.up g17.f
    replace r9 := r9.up g17.f
    show _ ∧ _
    refine new_lst (K := K) (M := []) eF15 (.cons (d_NOUGHT F15) .nil) (by show 1 ≤ 100000; decide) fun v44 F40 H41 g42 r43 => ?_
    have eF40 := g42.s
    have gF40 := gF15.trans (g42.weak (by simp))
    replace r_polynomial := r_polynomial.up g42.f
    replace r_place := r_place.up g42.f
    replace s3 := g42.f _ _ s3
    replace a4 := a4.up g42.f
    replace r9 := r9.up g42.f
    replace r18 := r18.up g42.f
    replace r43 : Dq K F40 v44 ((eL (e2 PyData.int PyData.int)) [((0, 1) : (Int × Int))]) := r43
    obtain ⟨p45, xs46, rfl, s47, a48⟩ := dp_lst r18
    obtain ⟨p49, xs50, rfl, s51, a52⟩ := dp_lst r43
    obtain ⟨h54, k⟩ := post_guard k
    refine ⟨_, _, _, _, rfl, rfl, eF40 _ _ s47, eF40 _ _ s51, cat_len a48 a52 h54, new_lstC (K := K) (M := []) (en := (e2 PyData.int PyData.int)) (l := b12) (l' := [((0, 1) : (Int × Int))]) eF40 a48 a52 fun v59 F55 H56 g57 r58 => ?_⟩
    have eF55 := g57.s
    have gF55 := gF40.trans (g57.weak (by simp))
    replace r_polynomial := r_polynomial.up g57.f
    replace r_place := r_place.up g57.f
    replace s3 := g57.f _ _ s3
    replace a4 := a4.up g57.f
    replace r9 := r9.up g57.f
    replace r18 := r18.up g57.f
    replace r43 := r43.up g57.f
    replace s47 := g57.f _ _ s47
    replace a48 := a48.up g57.f
    replace s51 := g57.f _ _ s51
    replace a52 := a52.up g57.f
    refine ⟨_, rfl, _, rfl, ?_⟩
    obtain ⟨p60, xs61, rfl, s62, a63⟩ := dp_lst r9
    obtain ⟨p64, xs65, rfl, s66, a67⟩ := dp_lst r58
    refine ⟨_, _, _, _, rfl, (sq_of (eF55 _ _ s62)), (sq_of (eF55 _ _ s66)), ?_⟩
    obtain ⟨h87, k⟩ := post_guard k
    refine lc_map (K := K) (M := []) (wlk_zip eF55 s62 a63 s66 a67) (e2 PyData.int PyData.int) k eF55 h87 (fun _ _ => by simp) (fun x70 v85 F78 H79 F80 H81 g82 g83 r84 Q' k68 => ?_) (fun _ z => z) (fun b69 v71 F72 H73 g74 r75 k => ?_) (gm_tup (gms_cons gm_name (gms_cons gm_name gms_nil)))
    · have g88 := Gm.refl (M := []) g82.s
      replace r_polynomial := r_polynomial.up g82.f
      replace r_place := r_place.up g82.f
      replace s3 := g82.f _ _ s3
      replace a4 := a4.up g82.f
      replace r9 := r9.up g82.f
      replace r18 := r18.up g82.f
      replace r43 := r43.up g82.f
      replace s47 := g82.f _ _ s47
      replace a48 := a48.up g82.f
      replace s51 := g82.f _ _ s51
      replace a52 := a52.up g82.f
      replace r58 := r58.up g82.f
      replace s62 := g82.f _ _ s62
      replace a63 := a63.up g82.f
      replace s66 := g82.f _ _ s66
      replace a67 := a67.up g82.f
      replace r_polynomial := r_polynomial.up g83.f
      replace r_place := r_place.up g83.f
      replace s3 := g83.f _ _ s3
      replace a4 := a4.up g83.f
      replace r9 := r9.up g83.f
      replace r18 := r18.up g83.f
      replace r43 := r43.up g83.f
      replace s47 := g83.f _ _ s47
      replace a48 := a48.up g83.f
      replace s51 := g83.f _ _ s51
      replace a52 := a52.up g83.f
      replace r58 := r58.up g83.f
      replace s62 := g83.f _ _ s62
      replace a63 := a63.up g83.f
      replace s66 := g83.f _ _ s66
      replace a67 := a67.up g83.f
      have eF80 := g83.s
      have gF80 := g88.trans (g83.weak (by simp))
      obtain ⟨p89, x90, x91, rfl, s92, d93, d94⟩ := dp_tup2 r84
      refine ⟨_, _, rfl, ex_t eF80 s92, rfl, _, _, rfl, _, _, rfl, rfl, rfl, _, rfl, _, rfl, ?_⟩
      refine ⟨F80, _, x70.1, _, x70.2, rfl, eF80, d93, d94, (post_bd k68).mono (fun b95 k68 v100 F96 H97 g98 r99 => ?_) (fun _ z => z)⟩
      have eF96 := g98.s
      have gF96 := gF80.trans (g98.weak (by simp))
      replace r_polynomial := r_polynomial.up g98.f
      replace r_place := r_place.up g98.f
      replace s3 := g98.f _ _ s3
      replace a4 := a4.up g98.f
      replace r9 := r9.up g98.f
      replace r18 := r18.up g98.f
      replace r43 := r43.up g98.f
      replace s47 := g98.f _ _ s47
      replace a48 := a48.up g98.f
      replace s51 := g98.f _ _ s51
      replace a52 := a52.up g98.f
      replace r58 := r58.up g98.f
      replace s62 := g98.f _ _ s62
      replace a63 := a63.up g98.f
      replace s66 := g98.f _ _ s66
      replace a67 := a67.up g98.f
      replace r84 := r84.up g98.f
      replace s92 := ex_t g98.f s92
      replace d93 := d93.up g98.f
      replace d94 := d94.up g98.f
      exact k68.h _ _ _ gF96 r99
    have eF72 := g74.s
    have gF72 := gF55.trans (g74.weak (by simp))
    replace r_polynomial := r_polynomial.up g74.f
    replace r_place := r_place.up g74.f
    replace s3 := g74.f _ _ s3
    replace a4 := a4.up g74.f
    replace r9 := r9.up g74.f
    replace r18 := r18.up g74.f
    replace r43 := r43.up g74.f
    replace s47 := g74.f _ _ s47
    replace a48 := a48.up g74.f
    replace s51 := g74.f _ _ s51
    replace a52 := a52.up g74.f
    replace r58 := r58.up g74.f
    replace s62 := g74.f _ _ s62
    replace a63 := a63.up g74.f
    replace s66 := g74.f _ _ s66
    replace a67 := a67.up g74.f
    exact k.h _ _ _ gF72 r75
/-! ### with_roots -/
abbrev s_with_roots : Stmt := top 18
theorem sc_with_roots : FnScope ["places", "result", "place"] ["places"] (defScope s_with_roots) := ⟨rfl, rfl, rfl, by decide +kernel, rfl, by decide +kernel, by decide +kernel⟩
def with_roots (places : (List (Int × Int))) : Mm (List (Int × Int)) := (foldM (fun (b10 : (List (Int × Int))) (x11 : (Int × Int)) => (with_root (b10) (x11)).bd fun b31 => Mm.ok b31) [((1, 1) : (Int × Int))] places).bd fun b27 => Mm.ok b27
def sp_with_roots (K : PySem.W.Frag) : Sp := fun vs H Q _ => ∃ (F : Hp) (v_places : V) (places : (List (Int × Int))), vs = [v_places] ∧ Ex F H ∧ Dq K F v_places ((eL (e2 PyData.int PyData.int)) places) ∧ Post (with_roots places) (fun r => Ret [] F H (fun F' _ v => Dq K F' v ((eL (e2 PyData.int PyData.int)) r)) Q) (fun _ => False)
theorem ok_with_roots {P : Program} {w : World} {K : PySem.W.Frag} {mg : Str → Option Value} {base : Heap} {C f : Addr} {fd : FuncData} (B : Bi mg) (FF : FunD K "with_roots" "with_roots" (defArgs s_with_roots) (defBody s_with_roots) (defScope s_with_roots) [] [] f fd) (G_with_root : Kn P w K mg base "with_root" 3 ["polynomial", "place"] (sp_with_root K)) {a_ONE : Addr} (c_ONE : mg "ONE" = some (.ref a_ONE)) (d_ONE : ∀ F, Dq K F (.ref a_ONE) ((e2 PyData.int PyData.int) (1, 1))) : FnOk P w K mg base CX0 4 f fd ["places"] (sp_with_roots K) := by
  refine FF.ok sc_with_roots (fun vs H Q E h => ?_) (fun cdv A outer s H vs Q E hr h => ?_)
  · obtain ⟨F, v_places, places, rfl, _⟩ := h; rfl
  · obtain ⟨F, v_places, places, rfl, e, r_places, k⟩ := h
    unfold with_roots at k
    have g_ := Gm.refl (M := []) e
    refine ⟨_, PSs.nox (pss_cons (ps_set (i := 1) sc_with_roots.nd rfl (Or.inl rfl) (pe_q (pe_lst (pa_cons (pe_gref c_ONE) (pa_nil))))) (pss_cons (ps_for PassesOwn.never rfl (pi_list (pv 0)) (pg_name (i := 2) sc_with_roots.nd rfl (Or.inl rfl)) (pss_one (ps_set (i := 1) sc_with_roots.nd rfl (Or.inl rfl) (pe_kn G_with_root (hr.mono (by decide)) (pa_cons (pv 1) (pa_cons (pv 2) (pa_nil))))))) (pss_one (ps_ret (pv 1))))), ?_⟩
    show _ ∧ _
    refine new_lst (K := K) (M := []) e (.cons (d_ONE F) .nil) (by show 1 ≤ 100000; decide) fun v5 F1 H2 g3 r4 => ?_
    have eF1 := g3.s
    have gF1 := g_.trans (g3.weak (by simp))
    replace r_places := r_places.up g3.f
    replace r4 : Dq K F1 v5 ((eL (e2 PyData.int PyData.int)) [((1, 1) : (Int × Int))]) := r4
    refine ⟨_, rfl, ?_⟩
    obtain ⟨p6, xs7, rfl, s8, a9⟩ := dp_lst r_places
    refine ⟨_, rfl, ⟨_, (sq_of (eF1 _ _ s8))⟩, ?_⟩
    refine for_m (M := []) (F := F1) (wlk_list eF1 s8 a9) (fun b10 F' H' σ' => ∃ (c1 : V) (u2 : Option V), σ' = [some (V.ref p6), some c1, u2] ∧ Dq K F' c1 ((eL (e2 PyData.int PyData.int)) b10)) k eF1 ⟨_, _, rfl, r4⟩ (fun b10 x11 v19 σ21 F12 H13 F14 H15 g16 i20 g17 r18 nx kfb10 => ?_) (fun b27 σ26 F22 H23 g24 i25 k => ?_)
    · replace r_places := r_places.up g16.f
      replace r4 := r4.up g16.f
      replace s8 := g16.f _ _ s8
      replace a9 := a9.up g16.f
      obtain ⟨c28, u29, rfl, r30⟩ := i20
      replace r_places := r_places.up g17.f
      replace s8 := g17.f _ _ s8
      replace a9 := a9.up g17.f
      replace r30 := r30.up g17.f
      have eF14 := g17.s
      have gF14 := g16.trans (g17.weak (by simp))
      refine ⟨_, rfl, _, rfl, ?_⟩
      refine ⟨F14, _, b10, _, x11, rfl, eF14, r30, r18, (post_bd kfb10).mono (fun b31 kfb10 v36 F32 H33 g34 r35 => ?_) (fun _ z => z)⟩
      have eF32 := g34.s
      have gF32 := gF14.trans (g34.weak (by simp))
      replace r_places := r_places.up g34.f
      replace s8 := g34.f _ _ s8
      replace a9 := a9.up g34.f
      replace r30 := r30.up g34.f
      replace r18 := r18.up g34.f
      exact kfb10.h _ _ _ gF32 ⟨_, _, rfl, r35⟩
    have g38 := gF1.trans (g24.weak (by simp))
    replace r_places := r_places.up g24.f
    replace r4 := r4.up g24.f
    replace s8 := g24.f _ _ s8
    replace a9 := a9.up g24.f
    have eF22 := g24.s
    obtain ⟨c39, u40, rfl, r41⟩ := i25
    refine ⟨_, rfl, ?_⟩
    exact k.h _ _ _ g38 r41
/-! ### worth -/
abbrev s_worth : Stmt := top 19
theorem sc_worth : FnScope ["polynomial", "place", "result", "coefficient"] ["polynomial", "place"] (defScope s_worth) := ⟨rfl, rfl, rfl, by decide +kernel, rfl, by decide +kernel, by decide +kernel⟩
def worth (polynomial : (List (Int × Int))) (place : (Int × Int)) : Mm (Int × Int) := (foldM (fun (b5 : (Int × Int)) (x6 : (Int × Int)) => (times (b5) (place)).bd fun b26 => (plus (b26) (x6)).bd fun b33 => Mm.ok b33) ((0, 1) : (Int × Int)) polynomial.reverse).bd fun b22 => Mm.ok b22
def sp_worth (K : PySem.W.Frag) : Sp := fun vs H Q _ => ∃ (F : Hp) (v_polynomial : V) (polynomial : (List (Int × Int))) (v_place : V) (place : (Int × Int)), vs = [v_polynomial, v_place] ∧ Ex F H ∧ Dq K F v_polynomial ((eL (e2 PyData.int PyData.int)) polynomial) ∧ Dq K F v_place ((e2 PyData.int PyData.int) place) ∧ Post (worth polynomial place) (fun r => Ret [] F H (fun F' _ v => Dq K F' v ((e2 PyData.int PyData.int) r)) Q) (fun _ => False)
theorem ok_worth {P : Program} {w : World} {K : PySem.W.Frag} {mg : Str → Option Value} {base : Heap} {C f : Addr} {fd : FuncData} (B : Bi mg) (FF : FunD K "worth" "worth" (defArgs s_worth) (defBody s_worth) (defScope s_worth) [] [] f fd) (G_plus : Kn P w K mg base "plus" 2 ["one", "other"] (sp_plus K)) (G_times : Kn P w K mg base "times" 2 ["one", "other"] (sp_times K)) {a_NOUGHT : Addr} (c_NOUGHT : mg "NOUGHT" = some (.ref a_NOUGHT)) (d_NOUGHT : ∀ F, Dq K F (.ref a_NOUGHT) ((e2 PyData.int PyData.int) (0, 1))) : FnOk P w K mg base CX0 3 f fd ["polynomial", "place"] (sp_worth K) := by
  refine FF.ok sc_worth (fun vs H Q E h => ?_) (fun cdv A outer s H vs Q E hr h => ?_)
  · obtain ⟨F, v_polynomial, polynomial, v_place, place, rfl, _⟩ := h; rfl
  · obtain ⟨F, v_polynomial, polynomial, v_place, place, rfl, e, r_polynomial, r_place, k⟩ := h
    unfold worth at k
    have g_ := Gm.refl (M := []) e
    refine ⟨_, PSs.nox (pss_cons (ps_set (i := 2) sc_worth.nd rfl (Or.inl rfl) (pe_gref c_NOUGHT)) (pss_cons (ps_for PassesOwn.never rfl (pi_reversed rfl B.reversed (pa_cons (pv 0) pa_nil)) (pg_name (i := 3) sc_worth.nd rfl (Or.inl rfl)) (pss_one (ps_set (i := 2) sc_worth.nd rfl (Or.inl rfl) (pe_kn G_plus (hr.mono (by decide)) (pa_cons (pe_kn G_times (hr.mono (by decide)) (pa_cons (pv 2) (pa_cons (pv 1) (pa_nil)))) (pa_cons (pv 3) (pa_nil))))))) (pss_one (ps_ret (pv 2))))), ?_⟩
    refine ⟨_, rfl, ?_⟩
    obtain ⟨p1, xs2, rfl, s3, a4⟩ := dp_lst r_polynomial
    refine ⟨_, _, rfl, (sq_of (e _ _ s3)), ?_⟩
    refine for_m (M := []) (F := F) (wlk_rev e s3 a4) (fun b5 F' H' σ' => ∃ (c2 : V) (u3 : Option V), σ' = [some (V.ref p1), some v_place, some c2, u3] ∧ Dq K F' c2 ((e2 PyData.int PyData.int) b5)) k e ⟨_, _, rfl, (d_NOUGHT F)⟩ (fun b5 x6 v14 σ16 F7 H8 F9 H10 g11 i15 g12 r13 nx kfb5 => ?_) (fun b22 σ21 F17 H18 g19 i20 k => ?_)
    · replace r_polynomial := r_polynomial.up g11.f
      replace r_place := r_place.up g11.f
      replace s3 := g11.f _ _ s3
      replace a4 := a4.up g11.f
      obtain ⟨c23, u24, rfl, r25⟩ := i15
      replace r_polynomial := r_polynomial.up g12.f
      replace r_place := r_place.up g12.f
      replace s3 := g12.f _ _ s3
      replace a4 := a4.up g12.f
      replace r25 := r25.up g12.f
      have eF9 := g12.s
      have gF9 := g11.trans (g12.weak (by simp))
      refine ⟨_, rfl, _, rfl, ?_⟩
      refine ⟨F9, _, b5, _, place, rfl, eF9, r25, r_place, (post_bd kfb5).mono (fun b26 kfb5 v31 F27 H28 g29 r30 => ?_) (fun _ z => z)⟩
      have eF27 := g29.s
      have gF27 := gF9.trans (g29.weak (by simp))
      replace r_polynomial := r_polynomial.up g29.f
      replace r_place := r_place.up g29.f
      replace s3 := g29.f _ _ s3
      replace a4 := a4.up g29.f
      replace r25 := r25.up g29.f
      replace r13 := r13.up g29.f
      refine ⟨_, rfl, ?_⟩
      refine ⟨F27, _, b26, _, x6, rfl, eF27, r30, r13, (post_bd kfb5).mono (fun b33 kfb5 v38 F34 H35 g36 r37 => ?_) (fun _ z => z)⟩
      have eF34 := g36.s
      have gF34 := gF27.trans (g36.weak (by simp))
      replace r_polynomial := r_polynomial.up g36.f
      replace r_place := r_place.up g36.f
      replace s3 := g36.f _ _ s3
      replace a4 := a4.up g36.f
      replace r25 := r25.up g36.f
      replace r13 := r13.up g36.f
      replace r30 := r30.up g36.f
      exact kfb5.h _ _ _ gF34 ⟨_, _, rfl, r37⟩
    have g40 := g_.trans (g19.weak (by simp))
    replace r_polynomial := r_polynomial.up g19.f
    replace r_place := r_place.up g19.f
    replace s3 := g19.f _ _ s3
    replace a4 := a4.up g19.f
    have eF17 := g19.s
    obtain ⟨c41, u42, rfl, r43⟩ := i20
    refine ⟨_, rfl, ?_⟩
    exact k.h _ _ _ g40 r43
/-! ### only_at -/
abbrev s_only_at : Stmt := top 20
theorem sc_only_at : FnScope ["places", "index", "others", "scale", "coefficient"] ["places", "index"] (defScope s_only_at) := ⟨rfl, rfl, rfl, by decide +kernel, rfl, by decide +kernel, by decide +kernel⟩
def only_at (places : (List (Int × Int))) (index : Int) : Mm (List (Int × Int)) := (guardM ((cutL places none (some index)).length + (cutL places (some (index + (1 : Int))) none).length ≤ 100000)).bd fun _ => (with_roots (((cutL places none (some index)) ++ (cutL places (some (index + (1 : Int))) none)))).bd fun b30 => (getM places index).bd fun i37 => (worth (b30) (i37)).bd fun b42 => (guardM (b30.length ≤ 50000)).bd fun _ => (mapMm (fun (x55 : (Int × Int)) => (over (x55) (b42)).bd fun b74 => Mm.ok b74) b30).bd fun b54 => Mm.ok b54
def sp_only_at (K : PySem.W.Frag) : Sp := fun vs H Q _ => ∃ (F : Hp) (v_places : V) (places : (List (Int × Int))) (index : Int), vs = [v_places, (V.int index)] ∧ Ex F H ∧ Dq K F v_places ((eL (e2 PyData.int PyData.int)) places) ∧ Post (only_at places index) (fun r => Ret [] F H (fun F' _ v => Dq K F' v ((eL (e2 PyData.int PyData.int)) r)) Q) (fun _ => False)
theorem ok_only_at {P : Program} {w : World} {K : PySem.W.Frag} {mg : Str → Option Value} {base : Heap} {C f : Addr} {fd : FuncData} (B : Bi mg) (FF : FunD K "only_at" "only_at" (defArgs s_only_at) (defBody s_only_at) (defScope s_only_at) [] [] f fd) (G_with_roots : Kn P w K mg base "with_roots" 4 ["places"] (sp_with_roots K)) (G_worth : Kn P w K mg base "worth" 3 ["polynomial", "place"] (sp_worth K)) (G_over : Kn P w K mg base "over" 2 ["one", "other"] (sp_over K)) : FnOk P w K mg base CX0 5 f fd ["places", "index"] (sp_only_at K) := by
  refine FF.ok sc_only_at (fun vs H Q E h => ?_) (fun cdv A outer s H vs Q E hr h => ?_)
  · obtain ⟨F, v_places, places, index, rfl, _⟩ := h; rfl
  · obtain ⟨F, v_places, places, index, rfl, e, r_places, k⟩ := h
    unfold only_at at k
    have g_ := Gm.refl (M := []) e
    refine ⟨_, PSs.nox (pss_cons (ps_set (i := 2) sc_only_at.nd rfl (Or.inl rfl) (pe_kn G_with_roots (hr.mono (by decide)) (pa_cons (pe_q (pe_op op_cat (pe_q (pe_slice sl_list (pv 0) po_none (po_some (pv 1)))) (pe_q (pe_slice sl_list (pv 0) (po_some (pe_op op_add (pv 1) (pe_int))) po_none)))) (pa_nil)))) (pss_cons (ps_set (i := 3) sc_only_at.nd rfl (Or.inr rfl) (pe_kn G_worth (hr.mono (by decide)) (pa_cons (pv 2) (pa_cons (pe_ix (r := rIxL K) ix_list (pv 0) (pv 1) (fun _ _ => rfl)) (pa_nil))))) (pss_one (ps_ret (pe_q (pe_lc (own := [("coefficient", 4)]) (g := gName 4) rfl sc_only_at.nd (pi_list (pv 2)) (blkOk_by (N := ["places", "index", "others", "scale", "coefficient"]) (sc := defScope s_only_at) (by decide +kernel)) (fun _ _ _ _ _ => pg_name (i := 4) sc_only_at.nd rfl (Or.inl rfl)) (fun _ _ _ _ _ => pts_nil) (fun _ _ _ _ _ => pe_kn G_over (hr.mono (by decide)) (pa_cons (pv 4) (pa_cons (pv 3) (pa_nil)))))))))), ?_⟩
    refine ⟨_, rfl, _, rfl, _, rfl, ?_⟩
    obtain ⟨p1, xs2, rfl, s3, a4⟩ := dp_lst r_places
    refine cut_lst (K := K) (M := []) e s3 a4 fun v9 F5 H6 g7 r8 => ?_
    have eF5 := g7.s
    have gF5 := g_.trans (g7.weak (by simp))
    replace r_places := r_places.up g7.f
    replace s3 := g7.f _ _ s3
    replace a4 := a4.up g7.f
    refine ⟨_, rfl, _, rfl, _, _, rfl, rfl, _, rfl, ?_⟩
    refine cut_lst (K := K) (M := []) eF5 s3 a4 fun v14 F10 H11 g12 r13 => ?_
    have eF10 := g12.s
    have gF10 := gF5.trans (g12.weak (by simp))
    replace r_places := r_places.up g12.f
    replace s3 := g12.f _ _ s3
    replace a4 := a4.up g12.f
    replace r8 := r8.up g12.f
    obtain ⟨p15, xs16, rfl, s17, a18⟩ := dp_lst r8
    obtain ⟨p19, xs20, rfl, s21, a22⟩ := dp_lst r13
    obtain ⟨h24, k⟩ := post_guard k
    refine ⟨_, _, _, _, rfl, rfl, eF10 _ _ s17, eF10 _ _ s21, cat_len a18 a22 h24, new_lstC (K := K) (M := []) (en := (e2 PyData.int PyData.int)) (l := (cutL places none (some index))) (l' := (cutL places (some (index + (1 : Int))) none)) eF10 a18 a22 fun v29 F25 H26 g27 r28 => ?_⟩
    have eF25 := g27.s
    have gF25 := gF10.trans (g27.weak (by simp))
    replace r_places := r_places.up g27.f
    replace s3 := g27.f _ _ s3
    replace a4 := a4.up g27.f
    replace r8 := r8.up g27.f
    replace r13 := r13.up g27.f
    replace s17 := g27.f _ _ s17
    replace a18 := a18.up g27.f
    replace s21 := g27.f _ _ s21
    replace a22 := a22.up g27.f
    refine ⟨F25, _, ((cutL places none (some index)) ++ (cutL places (some (index + (1 : Int))) none)), rfl, eF25, r28, (post_bd k).mono (fun b30 k v35 F31 H32 g33 r34 => ?_) (fun _ z => z)⟩
    have eF31 := g33.s
    have gF31 := gF25.trans (g33.weak (by simp))
    replace r_places := r_places.up g33.f
    replace s3 := g33.f _ _ s3
    replace a4 := a4.up g33.f
    replace r8 := r8.up g33.f
    replace r13 := r13.up g33.f
    replace s17 := g33.f _ _ s17
    replace a18 := a18.up g33.f
    replace s21 := g33.f _ _ s21
    replace a22 := a22.up g33.f
    replace r28 := r28.up g33.f
    refine ⟨_, rfl, _, rfl, _, rfl, ?_⟩
    obtain ⟨i37, h38, k⟩ := post_get k
    obtain ⟨v39, h40, r41⟩ := dq_at a4 h38
    refine ⟨_, _, _, _, rfl, rfl, (sq_of (eF31 _ _ s3)), h40, ?_⟩
    refine ⟨F31, _, b30, _, i37, rfl, eF31, r34, r41, (post_bd k).mono (fun b42 k v47 F43 H44 g45 r46 => ?_) (fun _ z => z)⟩
    have eF43 := g45.s
    have gF43 := gF31.trans (g45.weak (by simp))
    replace r_places := r_places.up g45.f
    replace s3 := g45.f _ _ s3
    replace a4 := a4.up g45.f
    replace r8 := r8.up g45.f
    replace r13 := r13.up g45.f
    replace s17 := g45.f _ _ s17
    replace a18 := a18.up g45.f
    replace s21 := g45.f _ _ s21
    replace a22 := a22.up g45.f
    replace r28 := r28.up g45.f
    replace r34 := r34.up g45.f
    replace r41 := r41.up g45.f
    refine ⟨_, rfl, ?_⟩
    obtain ⟨p49, xs50, rfl, s51, a52⟩ := dp_lst r34
    refine ⟨_, rfl, ⟨_, (sq_of (eF43 _ _ s51))⟩, ?_⟩
    obtain ⟨h72, k⟩ := post_guard k
    refine lc_map (K := K) (M := []) (wlk_list eF43 s51 a52) (e2 PyData.int PyData.int) k eF43 h72 (fun _ _ => by simp) (fun x55 v70 F63 H64 F65 H66 g67 g68 r69 Q' k53 => ?_) (fun _ z => z) (fun b54 v56 F57 H58 g59 r60 k => ?_) gm_name
    · have g73 := Gm.refl (M := []) g67.s
      replace r_places := r_places.up g67.f
      replace s3 := g67.f _ _ s3
      replace a4 := a4.up g67.f
      replace r8 := r8.up g67.f
      replace r13 := r13.up g67.f
      replace s17 := g67.f _ _ s17
      replace a18 := a18.up g67.f
      replace s21 := g67.f _ _ s21
      replace a22 := a22.up g67.f
      replace r28 := r28.up g67.f
      replace r34 := r34.up g67.f
      replace r41 := r41.up g67.f
      replace r46 := r46.up g67.f
      replace s51 := g67.f _ _ s51
      replace a52 := a52.up g67.f
      replace r_places := r_places.up g68.f
      replace s3 := g68.f _ _ s3
      replace a4 := a4.up g68.f
      replace r8 := r8.up g68.f
      replace r13 := r13.up g68.f
      replace s17 := g68.f _ _ s17
      replace a18 := a18.up g68.f
      replace s21 := g68.f _ _ s21
      replace a22 := a22.up g68.f
      replace r28 := r28.up g68.f
      replace r34 := r34.up g68.f
      replace r41 := r41.up g68.f
      replace r46 := r46.up g68.f
      replace s51 := g68.f _ _ s51
      replace a52 := a52.up g68.f
      have eF65 := g68.s
      have gF65 := g73.trans (g68.weak (by simp))
      refine ⟨rfl, _, rfl, _, rfl, ?_⟩
      refine ⟨F65, _, x55, _, b42, rfl, eF65, r69, r46, (post_bd k53).mono (fun b74 k53 v79 F75 H76 g77 r78 => ?_) (fun _ z => z)⟩
      have eF75 := g77.s
      have gF75 := gF65.trans (g77.weak (by simp))
      replace r_places := r_places.up g77.f
      replace s3 := g77.f _ _ s3
      replace a4 := a4.up g77.f
      replace r8 := r8.up g77.f
      replace r13 := r13.up g77.f
      replace s17 := g77.f _ _ s17
      replace a18 := a18.up g77.f
      replace s21 := g77.f _ _ s21
      replace a22 := a22.up g77.f
      replace r28 := r28.up g77.f
      replace r34 := r34.up g77.f
      replace r41 := r41.up g77.f
      replace r46 := r46.up g77.f
      replace s51 := g77.f _ _ s51
      replace a52 := a52.up g77.f
      replace r69 := r69.up g77.f
      exact k53.h _ _ _ gF75 r78
    have eF57 := g59.s
    have gF57 := gF43.trans (g59.weak (by simp))
    replace r_places := r_places.up g59.f
    replace s3 := g59.f _ _ s3
    replace a4 := a4.up g59.f
    replace r8 := r8.up g59.f
    replace r13 := r13.up g59.f
    replace s17 := g59.f _ _ s17
    replace a18 := a18.up g59.f
    replace s21 := g59.f _ _ s21
    replace a22 := a22.up g59.f
    replace r28 := r28.up g59.f
    replace r34 := r34.up g59.f
    replace r41 := r41.up g59.f
    replace r46 := r46.up g59.f
    replace s51 := g59.f _ _ s51
    replace a52 := a52.up g59.f
    exact k.h _ _ _ gF57 r60
/-! ### trimmed -/
abbrev s_trimmed : Stmt := top 21
theorem sc_trimmed : FnScope ["polynomial", "length"] ["polynomial"] (defScope s_trimmed) := ⟨rfl, rfl, rfl, by decide +kernel, rfl, by decide +kernel, by decide +kernel⟩
def trimmed (polynomial : (List (Int × Int))) : Mm (List (Int × Int)) := (foldW (fun (b5 : Int) => (cond (decide (b5 > (0 : Int))) ((getM polynomial (b5 - (1 : Int))).bd fun i27 => Mm.ok (decide (i27 = ((0, 1) : (Int × Int))))) (Mm.ok false)).bd fun b23 => Mm.ok b23) (fun (b6 : Int) => Mm.ok (b6 - (1 : Int))) ((polynomial.length : Int).toNat + 1) (polynomial.length : Int)).bd fun b7 => Mm.ok (cutL polynomial none (some b7))
def sp_trimmed (K : PySem.W.Frag) : Sp := fun vs H Q _ => ∃ (F : Hp) (v_polynomial : V) (polynomial : (List (Int × Int))), vs = [v_polynomial] ∧ Ex F H ∧ Dq K F v_polynomial ((eL (e2 PyData.int PyData.int)) polynomial) ∧ Post (trimmed polynomial) (fun r => Ret [] F H (fun F' _ v => Dq K F' v ((eL (e2 PyData.int PyData.int)) r)) Q) (fun _ => False)
theorem ok_trimmed {P : Program} {w : World} {K : PySem.W.Frag} {mg : Str → Option Value} {base : Heap} {C f : Addr} {fd : FuncData} (B : Bi mg) (FF : FunD K "trimmed" "trimmed" (defArgs s_trimmed) (defBody s_trimmed) (defScope s_trimmed) [] [] f fd) {a_NOUGHT : Addr} (c_NOUGHT : mg "NOUGHT" = some (.ref a_NOUGHT)) (d_NOUGHT : ∀ F, Dq K F (.ref a_NOUGHT) ((e2 PyData.int PyData.int) (0, 1))) : FnOk P w K mg base CX0 1 f fd ["polynomial"] (sp_trimmed K) := by
  refine FF.ok sc_trimmed (fun vs H Q E h => ?_) (fun cdv A outer s H vs Q E hr h => ?_)
  · obtain ⟨F, v_polynomial, polynomial, rfl, _⟩ := h; rfl
  · obtain ⟨F, v_polynomial, polynomial, rfl, e, r_polynomial, k⟩ := h
    unfold trimmed at k
    have g_ := Gm.refl (M := []) e
    refine ⟨_, PSs.nox (pss_cons (ps_set (i := 1) sc_trimmed.nd rfl (Or.inl rfl) (pe_callB call_lenM (by rfl) B.len (by decide +kernel) (pa_cons (pv 0) pa_nil))) (pss_cons (ps_while PassesOwn.never (PW.pt (pw_and (pt_cmpR op_gt (pv 1) (pe_int) (nomark _)) (pw_and1 (pt_cmpR (r := rEqM K (e2 PyData.int PyData.int)) (op_eqM (sh_e2 sh_int sh_int) (units_of hr)) (pe_ix (r := rIxL K) ix_list (pv 0) (pe_op op_sub (pv 1) (pe_int)) (fun _ _ => rfl)) (pe_gref c_NOUGHT) (nomark _))))) (pss_one (ps_aug (i := 1) sc_trimmed.nd rfl (Or.inl rfl) (pe_int) ip_sub))) (pss_one (ps_ret (pe_q (pe_slice sl_list (pv 0) po_none (po_some (pv 1)))))))), ?_⟩
    refine ⟨_, rfl, ?_⟩
    obtain ⟨p1, xs2, rfl, s3, a4⟩ := dp_lst r_polynomial
    refine ⟨_, _, _, rfl, .inl (sq_of (e _ _ s3)), len_all a4, ?_⟩
    refine while_mir (M := []) (F := F) (N := (polynomial.length : Int).toNat + 1) (fun b5 F' H' σ' => σ' = [some (V.ref p1), some (V.int b5)]) k e rfl (fun b5 σ12 F8 H9 g10 i11 Q' kcb5 => ?_) (fun b6 σ17 F13 H14 g15 i16 nx kwb5 => ?_) (fun b7 σ22 F18 H19 g20 i21 k => ?_)
    · replace r_polynomial := r_polynomial.up g10.f
      replace s3 := g10.f _ _ s3
      replace a4 := a4.up g10.f
      obtain rfl := i11
      have eF8 := g10.s
      refine ⟨_, rfl, _, _, rfl, rfl, _, rfl, ?_⟩
      refine and_jM (M := []) eF8 kcb5 (fun _ Q' kcb5tb23 => ?_) (fun b23 F24 H25 g26 kcb5 => ?_)
      · have gF8_ := Gm.refl (M := []) eF8
        refine ⟨_, rfl, _, rfl, _, _, rfl, rfl, ?_⟩
        obtain ⟨i27, h28, kcb5tb23⟩ := post_get kcb5tb23
        obtain ⟨v29, h30, r31⟩ := dq_at a4 h28
        refine ⟨_, _, _, _, rfl, rfl, (sq_of (eF8 _ _ s3)), h30, ?_⟩
        refine ⟨i27, ((0, 1) : (Int × Int)), r31.dp eF8, (d_NOUGHT F8).dp eF8, ?_⟩
        refine ⟨_, rfl, ?_⟩
        exact kcb5tb23.h _ _ gF8_
      have eF24 := g26.s
      have gF24 := g10.trans (g26.weak (by simp))
      replace r_polynomial := r_polynomial.up g26.f
      replace s3 := g26.f _ _ s3
      replace a4 := a4.up g26.f
      exact kcb5.h _ _ gF24 rfl
    · replace r_polynomial := r_polynomial.up g15.f
      replace s3 := g15.f _ _ s3
      replace a4 := a4.up g15.f
      obtain rfl := i16
      have eF13 := g15.s
      refine ⟨_, rfl, _, _, rfl, rfl, ?_⟩
      exact kwb5.h _ _ _ g15 rfl
    have g32 := g_.trans (g20.weak (by simp))
    replace r_polynomial := r_polynomial.up g20.f
    replace s3 := g20.f _ _ s3
    replace a4 := a4.up g20.f
    have eF18 := g20.s
    obtain rfl := i21
    refine ⟨_, rfl, _, rfl, _, rfl, ?_⟩
    refine cut_lst (K := K) (M := []) eF18 s3 a4 fun v37 F33 H34 g35 r36 => ?_
    have eF33 := g35.s
    have gF33 := g32.trans (g35.weak (by simp))
    replace r_polynomial := r_polynomial.up g35.f
    replace s3 := g35.f _ _ s3
    replace a4 := a4.up g35.f
    exact k.h _ _ _ gF33 r36
/-! ### ascending_places -/
abbrev s_ascending_places : Stmt := top 24
theorem sc_ascending_places : FnScope ["places", "most", "checked", "index", "top", "bottom", "place"] ["places", "most"] (defScope s_ascending_places) := ⟨rfl, rfl, rfl, by decide +kernel, rfl, by decide +kernel, by decide +kernel⟩
def ascending_places (places : (List (Int × Int))) (most : Int) : Mm (List (Int × Int)) := (foldM (fun (b12 : (List (Int × Int))) (x13 : (Int × (Int × Int))) => cond ((decide (x13.1 = most)) || (decide (x13.2.2 = (0 : Int)))) (Mm.bad) ((lowest (x13.2.1) (x13.2.2)).bd fun b49 => (cond (decide (x13.1 > (0 : Int))) ((getM b12 (-(1 : Int))).bd fun i60 => (is_less (i60) (b49)).bd fun b65 => Mm.ok (!b65)) (Mm.ok false)).bd fun b56 => cond b56 (Mm.bad) ((guardM (b12.length < 100000)).bd fun _ => Mm.ok (b12 ++ [b49])))) [] (enumL places)).bd fun b29 => Mm.ok b29
def sp_ascending_places (K : PySem.W.Frag) : Sp := fun vs H Q _ => ∃ (F : Hp) (v_places : V) (places : (List (Int × Int))) (most : Int), vs = [v_places, (V.int most)] ∧ Ex F H ∧ Dq K F v_places ((eV (e2 PyData.int PyData.int)) places) ∧ Post (ascending_places places most) (fun r => Ret [] F H (fun F' _ v => Dq K F' v ((eL (e2 PyData.int PyData.int)) r)) Q) (fun _ => False)
theorem ok_ascending_places {P : Program} {w : World} {K : PySem.W.Frag} {mg : Str → Option Value} {base : Heap} {C f : Addr} {fd : FuncData} (B : Bi mg) (FF : FunD K "ascending_places" "ascending_places" (defArgs s_ascending_places) (defBody s_ascending_places) (defScope s_ascending_places) [] [] f fd) (G_lowest : Kn P w K mg base "lowest" 1 ["top", "bottom"] (sp_lowest K)) (G_is_less : Kn P w K mg base "is_less" 1 ["one", "other"] (sp_is_less K)) : FnOk P w K mg base CX0 2 f fd ["places", "most"] (sp_ascending_places K) := by
  refine FF.ok sc_ascending_places (fun vs H Q E h => ?_) (fun cdv A outer s H vs Q E hr h => ?_)
  · obtain ⟨F, v_places, places, most, rfl, _⟩ := h; rfl
  · obtain ⟨F, v_places, places, most, rfl, e, r_places, k⟩ := h
    unfold ascending_places at k
    have g_ := Gm.refl (M := []) e
    refine ⟨_, PSs.nox (pss_cons (ps_set (i := 2) sc_ascending_places.nd rfl (Or.inl rfl) (pe_q (pe_lst (pa_nil)))) (pss_cons (ps_for PassesOwn.never rfl (pi_enumT rfl B.enumerate (pa_cons (pv 0) pa_nil)) (pg_tup (by rfl) (pgs_cons (pg_name (i := 3) sc_ascending_places.nd rfl (Or.inl rfl)) (pgs_cons (pg_tup (by rfl) (pgs_cons (pg_name (i := 4) sc_ascending_places.nd rfl (Or.inl rfl)) (pgs_cons (pg_name (i := 5) sc_ascending_places.nd rfl (Or.inl rfl)) (pgs_nil)))) (pgs_nil)))) (pss_cons (ps_if (PW.pt (pw_or (pt_cmpR op_eq (pv 3) (pv 1) (nomark _)) (pw_or1 (pt_cmpR op_eq (pv 5) (pe_int) (nomark _))))) (pss_one ps_never) pss_nil) (pss_cons (ps_set (i := 6) sc_ascending_places.nd rfl (Or.inl rfl) (pe_kn G_lowest (hr.mono (by decide)) (pa_cons (pv 4) (pa_cons (pv 5) (pa_nil))))) (pss_cons (ps_if (PW.pt (pw_and (pt_cmpR op_gt (pv 3) (pe_int) (nomark _)) (pw_and1 (pt_not (pt_val (pe_kn G_is_less (hr.mono (by decide)) (pa_cons (pe_ix (r := rIxL K) ix_list (pv 2) (pe_un un_neg (pe_int)) (fun _ _ => rfl)) (pa_cons (pv 6) (pa_nil))))))))) (pss_one ps_never) pss_nil) (pss_one (ps_expr (pe_bm PySem.F.plainAttrs_list PySem.F.slot_list_append PySem.F.type_list_append mt_append (pv 2) (pa_cons (pv 6) pa_nil)))))))) (pss_one (ps_ret (pv 2))))), ?_⟩
    show _ ∧ _
    refine new_own (K := K) e .nil (by show 0 ≤ 100000; decide) fun p1 H2 g3 y4 o5 => ?_
    have a6 : DqAll K F [] (List.map (e2 PyData.int PyData.int) []) := .nil
    have zp1 := g_.fresh y4
    have eH2 := g3.s
    have gH2 := g_.trans (g3.weak (by simp))
    refine ⟨_, rfl, ?_⟩
    obtain ⟨p8, xs9, rfl, s10, a11⟩ := dp_tup r_places
    refine ⟨_, _, rfl, (ex_t eH2 s10), ?_⟩
    refine for_m (M := [p1]) (F := F) (wlk_enumT eH2 s10 a11) (fun b12 F' H' σ' => ∃ (u3 : Option V) (u4 : Option V) (u5 : Option V) (u6 : Option V) (xs2 : List V), σ' = [some (V.ref p8), some (V.int most), some (V.ref p1), u3, u4, u5, u6] ∧ (H' p1 = some (.lst xs2) ∧ F' p1 = none) ∧ DqAll K F' xs2 (List.map (e2 PyData.int PyData.int) b12)) k eH2 ⟨_, _, _, _, _, rfl, o5, a6⟩ (fun b12 x13 v21 σ23 F14 H15 F16 H17 g18 i22 g19 r20 nx kfb12 => ?_) (fun b29 σ28 F24 H25 g26 i27 k => ?_)
    · replace r_places := r_places.up g18.f
      replace s10 := ex_t g18.f s10
      replace a11 := a11.up g18.f
      obtain ⟨u30, u31, u32, u33, xs34, rfl, o35, a36⟩ := i22
      replace r_places := r_places.up g19.f
      replace s10 := ex_t g19.f s10
      replace a11 := a11.up g19.f
      replace o35 := g19.own (by simp [*]) o35.1 o35.2
      replace a36 := a36.up g19.f
      have eF16 := g19.s
      have gF16 := g18.trans (g19.weak (by simp))
      obtain ⟨p37, x38, x39, rfl, s40, d41, d42⟩ := dp_tup2 r20
      obtain rfl := dp_int d41
      refine ⟨_, _, rfl, ex_t eF16 s40, rfl, _, _, rfl, _, _, rfl, ?_⟩
      obtain ⟨p43, x44, x45, rfl, s46, d47, d48⟩ := dp_tup2 d42
      obtain rfl := dp_int d47
      obtain rfl := dp_int d48
      refine ⟨_, _, rfl, ex_t eF16 s46, rfl, _, _, rfl, _, _, rfl, rfl, rfl, ?_⟩
      refine ⟨_, rfl, _, rfl, rfl, ?_⟩
      rw [decV_int]
      refine ⟨_, rfl, ?_⟩
      refine or_j (b := (decide (x13.2.2 = (0 : Int)))) (fun _ Q' q => ?_) ?_
      · refine ⟨_, rfl, rfl, ?_⟩
        rw [decV_int]
        refine ⟨_, rfl, ?_⟩
        exact q
      refine cs kfb12 (fun _ kfb12 => ?_) (fun _ kfb12 => ?_)
      · exact kfb12.elim
      · refine ⟨_, rfl, _, rfl, ?_⟩
        refine ⟨F16, x13.2.1, x13.2.2, rfl, eF16, (post_bd kfb12).mono (fun b49 kfb12 v54 F50 H51 g52 r53 => ?_) (fun _ z => z)⟩
        have eF50 := g52.s
        have gF50 := gF16.trans (g52.weak (by simp))
        replace r_places := r_places.up g52.f
        replace s10 := ex_t g52.f s10
        replace a11 := a11.up g52.f
        replace o35 := g52.own (by simp [*]) o35.1 o35.2
        replace a36 := a36.up g52.f
        replace r20 := r20.up g52.f
        replace s40 := ex_t g52.f s40
        replace d42 := d42.up g52.f
        replace s46 := ex_t g52.f s46
        refine ⟨_, rfl, _, _, rfl, rfl, _, rfl, ?_⟩
        refine and_jM (M := []) eF50 kfb12 (fun _ Q' kfb12tb56 => ?_) (fun b56 F57 H58 g59 kfb12 => ?_)
        · have gF50_ := Gm.refl (M := []) eF50
          refine ⟨_, rfl, _, rfl, ?_⟩
          obtain ⟨i60, h61, kfb12tb56⟩ := post_get kfb12tb56
          obtain ⟨v62, h63, r64⟩ := dq_at a36 h61
          refine ⟨_, _, _, _, rfl, rfl, (sq_of o35.1), h63, ?_⟩
          refine ⟨_, rfl, ?_⟩
          refine ⟨F50, _, i60, _, b49, rfl, eF50, r64, r53, (post_bd kfb12tb56).mono (fun b65 kfb12tb56 v70 F66 H67 g68 r69 => ?_) (fun _ z => z)⟩
          have eF66 := g68.s
          have gF66 := gF50_.trans (g68.weak (by simp))
          replace r_places := r_places.up g68.f
          replace s10 := ex_t g68.f s10
          replace a11 := a11.up g68.f
          replace o35 := g68.own (by simp [*]) o35.1 o35.2
          replace a36 := a36.up g68.f
          replace r20 := r20.up g68.f
          replace s40 := ex_t g68.f s40
          replace d42 := d42.up g68.f
          replace s46 := ex_t g68.f s46
          replace r53 := r53.up g68.f
          replace r64 := r64.up g68.f
          subst r69
          refine ⟨_, rfl, ?_⟩
          exact kfb12tb56.h _ _ gF66
        have eF57 := g59.s
        have gF57 := gF50.trans (g59.weak (by simp))
        replace r_places := r_places.up g59.f
        replace s10 := ex_t g59.f s10
        replace a11 := a11.up g59.f
        replace o35 := g59.own (by simp [*]) o35.1 o35.2
        replace a36 := a36.up g59.f
        replace r20 := r20.up g59.f
        replace s40 := ex_t g59.f s40
        replace d42 := d42.up g59.f
        replace s46 := ex_t g59.f s46
        replace r53 := r53.up g59.f
        refine cs kfb12 (fun _ kfb12 => ?_) (fun _ kfb12 => ?_)
        · exact kfb12.elim
        · refine ⟨_, rfl, .inl ⟨rfl, _, sq_of o35.1⟩, _, rfl, ?_⟩
          obtain ⟨h72, kfb12⟩ := post_guard kfb12
          refine ⟨_, _, _, rfl, rfl, o35.1, own_sz a36 h72, ?_⟩
          have g73 := gF57.putOr (o := .lst (xs34 ++ [v54])) (.inl (by simp)) o35.1 o35.2
          replace o35 : (upd H58 p1 (.lst (xs34 ++ [v54]))) p1 = some (.lst (xs34 ++ [v54])) ∧ F57 p1 = none := ⟨upd_same, o35.2⟩
          replace a36 : DqAll K F57 (xs34 ++ [v54]) (List.map (e2 PyData.int PyData.int) (b12 ++ [b49])) := by rw [List.map_append]; exact a36.app (.cons r53 .nil)
          have e74 := g73.s
          exact kfb12.h _ _ _ g73 ⟨_, _, _, _, _, rfl, o35, a36⟩
    have hy76 : ∀ q ∈ [p1], q ∈ [] ∨ H q = none := by intro q hq; simp only [List.mem_cons, List.not_mem_nil, or_false] at hq; rcases hq with rfl; exact (.inr zp1)
    have g75 := Gm.outs [p1] hy76 gH2 (g26.weak (by simp))
    replace r_places := r_places.up g26.f
    replace s10 := ex_t g26.f s10
    replace a11 := a11.up g26.f
    have eF24 := g26.s
    obtain ⟨u77, u78, u79, u80, xs81, rfl, o82, a83⟩ := i27
    refine ⟨_, rfl, ?_⟩
    have g84 := g75.fix o82.1 o82.2 zp1
    have ur85 : Ex F24 (upd F24 p1 (.lst xs81)) := Ex.new o82.2
    have r85 : Dq K (upd F24 p1 (.lst xs81)) (.ref p1) (eL (e2 PyData.int PyData.int) b29) := .lst upd_same (a83.up ur85)
    have s87 : (upd F24 p1 (.lst xs81)) p1 = some (.lst xs81) := upd_same
    have a88 := a83.up ur85
    replace r_places := r_places.up ur85
    replace s10 := ex_t ur85 s10
    replace a11 := a11.up ur85
    have e89 := g84.s
    exact k.h _ _ _ g84 r85
/-! ### checked_places -/
abbrev s_checked_places : Stmt := top 25
theorem sc_checked_places : FnScope ["places"] ["places"] (defScope s_checked_places) := ⟨rfl, rfl, rfl, by decide +kernel, rfl, by decide +kernel, by decide +kernel⟩
def checked_places (places : (List (Int × Int))) : Mm (List (Int × Int)) := cond (decide ((places.length : Int) = (0 : Int))) (Mm.bad) ((ascending_places (places) ((6 : Int))).bd fun b5 => Mm.ok b5)
def sp_checked_places (K : PySem.W.Frag) : Sp := fun vs H Q _ => ∃ (F : Hp) (v_places : V) (places : (List (Int × Int))), vs = [v_places] ∧ Ex F H ∧ Dq K F v_places ((eV (e2 PyData.int PyData.int)) places) ∧ Post (checked_places places) (fun r => Ret [] F H (fun F' _ v => Dq K F' v ((eL (e2 PyData.int PyData.int)) r)) Q) (fun _ => False)
theorem ok_checked_places {P : Program} {w : World} {K : PySem.W.Frag} {mg : Str → Option Value} {base : Heap} {C f : Addr} {fd : FuncData} (B : Bi mg) (FF : FunD K "checked_places" "checked_places" (defArgs s_checked_places) (defBody s_checked_places) (defScope s_checked_places) [] [] f fd) (G_ascending_places : Kn P w K mg base "ascending_places" 2 ["places", "most"] (sp_ascending_places K)) (c_MOST_PLACES : ∃ t, mg "MOST_PLACES" = some (.int 6 t)) : FnOk P w K mg base CX0 3 f fd ["places"] (sp_checked_places K) := by
  refine FF.ok sc_checked_places (fun vs H Q E h => ?_) (fun cdv A outer s H vs Q E hr h => ?_)
  · obtain ⟨F, v_places, places, rfl, _⟩ := h; rfl
  · obtain ⟨F, v_places, places, rfl, e, r_places, k⟩ := h
    unfold checked_places at k
    have g_ := Gm.refl (M := []) e
    refine ⟨_, PSs.nox (pss_cons (ps_if (pt_cmpR op_eq (pe_callB call_lenM (by rfl) B.len (by decide +kernel) (pa_cons (pv 0) pa_nil)) (pe_int) (nomark _)) (pss_one ps_never) pss_nil) (pss_one (ps_ret (pe_kn G_ascending_places (hr.mono (by decide)) (pa_cons (pv 0) (pa_cons (pe_gint c_MOST_PLACES) (pa_nil))))))), ?_⟩
    refine ⟨_, rfl, ?_⟩
    obtain ⟨p1, xs2, rfl, s3, a4⟩ := dp_tup r_places
    refine ⟨_, _, _, rfl, .inr (ex_t e s3), len_all a4, rfl, ?_⟩
    rw [decV_int]
    refine ⟨_, rfl, ?_⟩
    refine cs k (fun _ k => ?_) (fun _ k => ?_)
    · exact k.elim
    · refine ⟨_, rfl, ?_⟩
      refine ⟨F, _, places, (6 : Int), rfl, e, r_places, (post_bd k).mono (fun b5 k v10 F6 H7 g8 r9 => ?_) (fun _ z => z)⟩
      have eF6 := g8.s
      have gF6 := g_.trans (g8.weak (by simp))
      replace r_places := r_places.up g8.f
      replace s3 := ex_t g8.f s3
      replace a4 := a4.up g8.f
      exact k.h _ _ _ gF6 r9
/-! ### checked_readings -/
abbrev s_checked_readings : Stmt := top 28
theorem sc_checked_readings : FnScope ["readings", "count", "index", "_", "bottom", "top"] ["readings", "count"] (defScope s_checked_readings) := ⟨rfl, rfl, rfl, by decide +kernel, rfl, by decide +kernel, by decide +kernel⟩
def checked_readings (readings : (List (Int × Int))) (count : Int) : Mm (List (Int × Int)) := (foldM (fun (b5 : Unit) (x6 : (Int × (Int × Int))) => cond (decide (x6.2.2 = (0 : Int))) (Mm.bad) (Mm.ok ())) () (enumL readings)).bd fun b22 => cond (!(decide ((readings.length : Int) = count))) (Mm.bad) ((guardM (readings.length ≤ 50000)).bd fun _ => (mapMm (fun (x46 : (Int × Int)) => (lowest (x46.1) (x46.2)).bd fun b71 => Mm.ok b71) readings).bd fun b45 => Mm.ok b45)
def sp_checked_readings (K : PySem.W.Frag) : Sp := fun vs H Q _ => ∃ (F : Hp) (v_readings : V) (readings : (List (Int × Int))) (count : Int), vs = [v_readings, (V.int count)] ∧ Ex F H ∧ Dq K F v_readings ((eV (e2 PyData.int PyData.int)) readings) ∧ Post (checked_readings readings count) (fun r => Ret [] F H (fun F' _ v => Dq K F' v ((eL (e2 PyData.int PyData.int)) r)) Q) (fun _ => False)
theorem ok_checked_readings {P : Program} {w : World} {K : PySem.W.Frag} {mg : Str → Option Value} {base : Heap} {C f : Addr} {fd : FuncData} (B : Bi mg) (FF : FunD K "checked_readings" "checked_readings" (defArgs s_checked_readings) (defBody s_checked_readings) (defScope s_checked_readings) [] [] f fd) (G_lowest : Kn P w K mg base "lowest" 1 ["top", "bottom"] (sp_lowest K)) : FnOk P w K mg base CX0 2 f fd ["readings", "count"] (sp_checked_readings K) := by
  refine FF.ok sc_checked_readings (fun vs H Q E h => ?_) (fun cdv A outer s H vs Q E hr h => ?_)
  · obtain ⟨F, v_readings, readings, count, rfl, _⟩ := h; rfl
  · obtain ⟨F, v_readings, readings, count, rfl, e, r_readings, k⟩ := h
    unfold checked_readings at k
    have g_ := Gm.refl (M := []) e
    refine ⟨_, PSs.nox (pss_cons (ps_for PassesOwn.never rfl (pi_enumT rfl B.enumerate (pa_cons (pv 0) pa_nil)) (pg_tup (by rfl) (pgs_cons (pg_name (i := 2) sc_checked_readings.nd rfl (Or.inl rfl)) (pgs_cons (pg_tup (by rfl) (pgs_cons (pg_name (i := 3) sc_checked_readings.nd rfl (Or.inl rfl)) (pgs_cons (pg_name (i := 4) sc_checked_readings.nd rfl (Or.inl rfl)) (pgs_nil)))) (pgs_nil)))) (pss_one (ps_if (pt_cmpR op_eq (pv 4) (pe_int) (nomark _)) (pss_one ps_never) pss_nil))) (pss_cons (ps_if (pt_cmpR op_ne (pe_callB call_lenM (by rfl) B.len (by decide +kernel) (pa_cons (pv 0) pa_nil)) (pv 1) (nomark _)) (pss_one ps_never) pss_nil) (pss_one (ps_ret (pe_q (pe_lc (own := [("top", 5), ("bottom", 4)]) (g := gTup K 2 (gCons (gName 5) (gCons (gName 4) gNil))) rfl sc_checked_readings.nd (pi_tup (pv 0)) (blkOk_by (N := ["readings", "count", "index", "_", "bottom", "top"]) (sc := defScope s_checked_readings) (by decide +kernel)) (fun _ _ _ _ _ => pg_tup (by rfl) (pgs_cons (pg_name (i := 5) sc_checked_readings.nd rfl (Or.inl rfl)) (pgs_cons (pg_name (i := 4) sc_checked_readings.nd rfl (Or.inl rfl)) (pgs_nil)))) (fun _ _ _ _ _ => pts_nil) (fun _ _ _ _ _ => pe_kn G_lowest (hr.mono (by decide)) (pa_cons (pv 5) (pa_cons (pv 4) (pa_nil)))))))))), ?_⟩
    refine ⟨_, rfl, ?_⟩
    obtain ⟨p1, xs2, rfl, s3, a4⟩ := dp_tup r_readings
    refine ⟨_, _, rfl, (ex_t e s3), ?_⟩
    refine for_m (M := []) (F := F) (wlk_enumT e s3 a4) (fun b5 F' H' σ' => ∃ (u2 : Option V) (u3 : Option V) (u4 : Option V) (u5 : Option V), σ' = [some (V.ref p1), some (V.int count), u2, u3, u4, u5]) k e ⟨_, _, _, _, rfl⟩ (fun b5 x6 v14 σ16 F7 H8 F9 H10 g11 i15 g12 r13 nx kfb5 => ?_) (fun b22 σ21 F17 H18 g19 i20 k => ?_)
    · replace r_readings := r_readings.up g11.f
      replace s3 := ex_t g11.f s3
      replace a4 := a4.up g11.f
      obtain ⟨u23, u24, u25, u26, rfl⟩ := i15
      replace r_readings := r_readings.up g12.f
      replace s3 := ex_t g12.f s3
      replace a4 := a4.up g12.f
      have eF9 := g12.s
      have gF9 := g11.trans (g12.weak (by simp))
      obtain ⟨p27, x28, x29, rfl, s30, d31, d32⟩ := dp_tup2 r13
      obtain rfl := dp_int d31
      refine ⟨_, _, rfl, ex_t eF9 s30, rfl, _, _, rfl, _, _, rfl, ?_⟩
      obtain ⟨p33, x34, x35, rfl, s36, d37, d38⟩ := dp_tup2 d32
      obtain rfl := dp_int d37
      obtain rfl := dp_int d38
      refine ⟨_, _, rfl, ex_t eF9 s36, rfl, _, _, rfl, _, _, rfl, rfl, rfl, ?_⟩
      refine ⟨_, rfl, rfl, ?_⟩
      rw [decV_int]
      refine ⟨_, rfl, ?_⟩
      refine cs kfb5 (fun _ kfb5 => ?_) (fun _ kfb5 => ?_)
      · exact kfb5.elim
      · exact kfb5.h _ _ _ gF9 ⟨_, _, _, _, rfl⟩
    have g39 := g_.trans (g19.weak (by simp))
    replace r_readings := r_readings.up g19.f
    replace s3 := ex_t g19.f s3
    replace a4 := a4.up g19.f
    have eF17 := g19.s
    obtain ⟨u40, u41, u42, u43, rfl⟩ := i20
    refine ⟨_, rfl, ?_⟩
    refine ⟨_, _, _, rfl, .inr (ex_t eF17 s3), len_all a4, _, rfl, rfl, ?_⟩
    rw [decV_int]
    refine ⟨_, rfl, ?_⟩
    refine cs k (fun _ k => ?_) (fun _ k => ?_)
    · exact k.elim
    · refine ⟨_, rfl, ?_⟩
      refine ⟨_, rfl, ⟨_, (ex_t eF17 s3)⟩, ?_⟩
      obtain ⟨h63, k⟩ := post_guard k
      refine lc_map (K := K) (M := []) (wlk_tup eF17 s3 a4) (e2 PyData.int PyData.int) k eF17 h63 (fun _ _ => by simp) (fun x46 v61 F54 H55 F56 H57 g58 g59 r60 Q' k44 => ?_) (fun _ z => z) (fun b45 v47 F48 H49 g50 r51 k => ?_) (gm_tup (gms_cons gm_name (gms_cons gm_name gms_nil)))
      · have g64 := Gm.refl (M := []) g58.s
        replace r_readings := r_readings.up g58.f
        replace s3 := ex_t g58.f s3
        replace a4 := a4.up g58.f
        replace r_readings := r_readings.up g59.f
        replace s3 := ex_t g59.f s3
        replace a4 := a4.up g59.f
        have eF56 := g59.s
        have gF56 := g64.trans (g59.weak (by simp))
        obtain ⟨p65, x66, x67, rfl, s68, d69, d70⟩ := dp_tup2 r60
        obtain rfl := dp_int d69
        obtain rfl := dp_int d70
        refine ⟨_, _, rfl, ex_t eF56 s68, rfl, _, _, rfl, _, _, rfl, rfl, rfl, _, rfl, _, rfl, ?_⟩
        refine ⟨F56, x46.1, x46.2, rfl, eF56, (post_bd k44).mono (fun b71 k44 v76 F72 H73 g74 r75 => ?_) (fun _ z => z)⟩
        have eF72 := g74.s
        have gF72 := gF56.trans (g74.weak (by simp))
        replace r_readings := r_readings.up g74.f
        replace s3 := ex_t g74.f s3
        replace a4 := a4.up g74.f
        replace r60 := r60.up g74.f
        replace s68 := ex_t g74.f s68
        exact k44.h _ _ _ gF72 r75
      have eF48 := g50.s
      have gF48 := g39.trans (g50.weak (by simp))
      replace r_readings := r_readings.up g50.f
      replace s3 := ex_t g50.f s3
      replace a4 := a4.up g50.f
      exact k.h _ _ _ gF48 r51
/-! ### polynomial_through -/
abbrev s_polynomial_through : Stmt := top 29
theorem sc_polynomial_through : FnScope ["found", "worths", "result", "index", "one", "part", "coefficient", "left", "right"] ["found", "worths"] (defScope s_polynomial_through) := ⟨rfl, rfl, rfl, by decide +kernel, rfl, by decide +kernel, by decide +kernel⟩
def polynomial_through (found : (List (Int × Int))) (worths : (List (Int × Int))) : Mm (List (Int × Int)) := (repM [((0, 1) : (Int × Int))] (found.length : Int)).bd fun m14 => (foldM (fun (b26 : (List (Int × Int))) (x27 : (Int × (Int × Int))) => (only_at (found) (x27.1)).bd fun b58 => (guardM (b58.length ≤ 50000)).bd fun _ => (mapMm (fun (x71 : (Int × Int)) => (times (x27.2) (x71)).bd fun b90 => Mm.ok b90) b58).bd fun b70 => (guardM ((b26.zip b70).length ≤ 50000)).bd fun _ => (mapMm (fun (x108 : ((Int × Int) × (Int × Int))) => (plus (x108.1) (x108.2)).bd fun b133 => Mm.ok b133) (b26.zip b70)).bd fun b107 => Mm.ok b107) m14 (enumL worths)).bd fun b43 => (trimmed (b43)).bd fun b150 => Mm.ok b150
def sp_polynomial_through (K : PySem.W.Frag) : Sp := fun vs H Q _ => ∃ (F : Hp) (v_found : V) (found : (List (Int × Int))) (v_worths : V) (worths : (List (Int × Int))), vs = [v_found, v_worths] ∧ Ex F H ∧ Dq K F v_found ((eL (e2 PyData.int PyData.int)) found) ∧ Dq K F v_worths ((eL (e2 PyData.int PyData.int)) worths) ∧ Post (polynomial_through found worths) (fun r => Ret [] F H (fun F' _ v => Dq K F' v ((eL (e2 PyData.int PyData.int)) r)) Q) (fun _ => False)
theorem ok_polynomial_through {P : Program} {w : World} {K : PySem.W.Frag} {mg : Str → Option Value} {base : Heap} {C f : Addr} {fd : FuncData} (B : Bi mg) (FF : FunD K "polynomial_through" "polynomial_through" (defArgs s_polynomial_through) (defBody s_polynomial_through) (defScope s_polynomial_through) [] [] f fd) (G_only_at : Kn P w K mg base "only_at" 5 ["places", "index"] (sp_only_at K)) (G_times : Kn P w K mg base "times" 2 ["one", "other"] (sp_times K)) (G_plus : Kn P w K mg base "plus" 2 ["one", "other"] (sp_plus K)) (G_trimmed : Kn P w K mg base "trimmed" 1 ["polynomial"] (sp_trimmed K)) {a_NOUGHT : Addr} (c_NOUGHT : mg "NOUGHT" = some (.ref a_NOUGHT)) (d_NOUGHT : ∀ F, Dq K F (.ref a_NOUGHT) ((e2 PyData.int PyData.int) (0, 1))) : FnOk P w K mg base CX0 6 f fd ["found", "worths"] (sp_polynomial_through K) := by
  refine FF.ok sc_polynomial_through (fun vs H Q E h => ?_) (fun cdv A outer s H vs Q E hr h => ?_)
  · obtain ⟨F, v_found, found, v_worths, worths, rfl, _⟩ := h; rfl
  · obtain ⟨F, v_found, found, v_worths, worths, rfl, e, r_found, r_worths, k⟩ := h
    unfold polynomial_through at k
    have g_ := Gm.refl (M := []) e
    refine ⟨_, PSs.nox (pss_cons (ps_set (i := 2) sc_polynomial_through.nd rfl (Or.inl rfl) (pe_q (pe_op op_rep (pe_q (pe_lst (pa_cons (pe_gref c_NOUGHT) (pa_nil)))) (pe_callB call_lenM (by rfl) B.len (by decide +kernel) (pa_cons (pv 0) pa_nil))))) (pss_cons (ps_for PassesOwn.never rfl (pi_enum rfl B.enumerate (pa_cons (pv 1) pa_nil)) (pg_tup (by rfl) (pgs_cons (pg_name (i := 3) sc_polynomial_through.nd rfl (Or.inl rfl)) (pgs_cons (pg_name (i := 4) sc_polynomial_through.nd rfl (Or.inr rfl)) (pgs_nil)))) (pss_cons (ps_q (ps_setLc (i := 5) (own := [("coefficient", 6)]) (g := gName 6) rfl sc_polynomial_through.nd rfl rfl (sw_true rfl rfl rfl (by decide +kernel)) (pi_list (pe_kn G_only_at (hr.mono (by decide)) (pa_cons (pv 0) (pa_cons (pv 3) (pa_nil))))) (blkOk_by (N := ["found", "worths", "result", "index", "one", "part", "coefficient", "left", "right"]) (sc := defScope s_polynomial_through) (by decide +kernel)) (fun _ _ _ _ _ => pg_name (i := 6) sc_polynomial_through.nd rfl (Or.inl rfl)) (fun _ _ _ _ _ => pts_nil) (fun _ _ _ _ _ => pe_kn G_times (hr.mono (by decide)) (pa_cons (pv 4) (pa_cons (pv 6) (pa_nil)))))) (pss_one (ps_q (ps_setLc (i := 2) (own := [("left", 7), ("right", 8)]) (g := gTup K 2 (gCons (gName 7) (gCons (gName 8) gNil))) rfl sc_polynomial_through.nd rfl rfl (sw_true rfl rfl rfl (by decide +kernel)) (pi_zip rfl B.zip (pa_cons (pv 2) (pa_cons (pv 5) (pa_nil)))) (blkOk_by (N := ["found", "worths", "result", "index", "one", "part", "coefficient", "left", "right"]) (sc := defScope s_polynomial_through) (by decide +kernel)) (fun _ _ _ _ _ => pg_tup (by rfl) (pgs_cons (pg_name (i := 7) sc_polynomial_through.nd rfl (Or.inl rfl)) (pgs_cons (pg_name (i := 8) sc_polynomial_through.nd rfl (Or.inl rfl)) (pgs_nil)))) (fun _ _ _ _ _ => pts_nil) (fun _ _ _ _ _ => pe_kn G_plus (hr.mono (by decide)) (pa_cons (pv 7) (pa_cons (pv 8) (pa_nil))))))))) (pss_one (ps_ret (pe_kn G_trimmed (hr.mono (by decide)) (pa_cons (pv 2) (pa_nil))))))), ?_⟩
    show _ ∧ _
    refine new_lst (K := K) (M := []) e (.cons (d_NOUGHT F) .nil) (by show 1 ≤ 100000; decide) fun v5 F1 H2 g3 r4 => ?_
    have eF1 := g3.s
    have gF1 := g_.trans (g3.weak (by simp))
    replace r_found := r_found.up g3.f
    replace r_worths := r_worths.up g3.f
    replace r4 : Dq K F1 v5 ((eL (e2 PyData.int PyData.int)) [((0, 1) : (Int × Int))]) := r4
    refine ⟨_, rfl, ?_⟩
    obtain ⟨p6, xs7, rfl, s8, a9⟩ := dp_lst r_found
    refine ⟨_, _, _, rfl, .inl (sq_of (eF1 _ _ s8)), len_all a9, ?_⟩
    obtain ⟨p10, xs11, rfl, s12, a13⟩ := dp_lst r4
    obtain ⟨m14, c15, q16, k⟩ := post_rep k
    refine rep_lst (K := K) (M := []) (en := (e2 PyData.int PyData.int)) eF1 (eF1 _ _ s12) a13 c15 q16 fun v21 F17 H18 g19 r20 => ?_
    have eF17 := g19.s
    have gF17 := gF1.trans (g19.weak (by simp))
    replace r_found := r_found.up g19.f
    replace r_worths := r_worths.up g19.f
    replace r4 := r4.up g19.f
    replace s8 := g19.f _ _ s8
    replace a9 := a9.up g19.f
    replace s12 := g19.f _ _ s12
    replace a13 := a13.up g19.f
    refine ⟨_, rfl, ?_⟩
    obtain ⟨p22, xs23, rfl, s24, a25⟩ := dp_lst r_worths
    refine ⟨_, _, rfl, (sq_of (eF17 _ _ s24)), ?_⟩
    refine for_m (M := []) (F := F17) (wlk_enum eF17 s24 a25) (fun b26 F' H' σ' => ∃ (c2 : V) (u3 : Option V) (u4 : Option V) (u5 : Option V) (u6 : Option V) (u7 : Option V) (u8 : Option V), σ' = [some (V.ref p6), some (V.ref p22), some c2, u3, u4, u5, u6, u7, u8] ∧ Dq K F' c2 ((eL (e2 PyData.int PyData.int)) b26)) k eF17 ⟨_, _, _, _, _, _, _, rfl, r20⟩ (fun b26 x27 v35 σ37 F28 H29 F30 H31 g32 i36 g33 r34 nx kfb26 => ?_) (fun b43 σ42 F38 H39 g40 i41 k => ?_)
    · replace r_found := r_found.up g32.f
      replace r_worths := r_worths.up g32.f
      replace r4 := r4.up g32.f
      replace s8 := g32.f _ _ s8
      replace a9 := a9.up g32.f
      replace s12 := g32.f _ _ s12
      replace a13 := a13.up g32.f
      replace r20 := r20.up g32.f
      replace s24 := g32.f _ _ s24
      replace a25 := a25.up g32.f
      obtain ⟨c44, u45, u46, u47, u48, u49, u50, rfl, r51⟩ := i36
      replace r_found := r_found.up g33.f
      replace r_worths := r_worths.up g33.f
      replace r4 := r4.up g33.f
      replace s8 := g33.f _ _ s8
      replace a9 := a9.up g33.f
      replace s12 := g33.f _ _ s12
      replace a13 := a13.up g33.f
      replace s24 := g33.f _ _ s24
      replace a25 := a25.up g33.f
      replace r51 := r51.up g33.f
      have eF30 := g33.s
      have gF30 := g32.trans (g33.weak (by simp))
      obtain ⟨p52, x53, x54, rfl, s55, d56, d57⟩ := dp_tup2 r34
      obtain rfl := dp_int d56
      refine ⟨_, _, rfl, ex_t eF30 s55, rfl, _, _, rfl, _, _, rfl, rfl, ?_⟩
      refine ⟨_, rfl, _, rfl, ?_⟩
      refine ⟨F30, _, found, x27.1, rfl, eF30, r_found, (post_bd kfb26).mono (fun b58 kfb26 v63 F59 H60 g61 r62 => ?_) (fun _ z => z)⟩
      have eF59 := g61.s
      have gF59 := gF30.trans (g61.weak (by simp))
      replace r_found := r_found.up g61.f
      replace r_worths := r_worths.up g61.f
      replace r4 := r4.up g61.f
      replace s8 := g61.f _ _ s8
      replace a9 := a9.up g61.f
      replace s12 := g61.f _ _ s12
      replace a13 := a13.up g61.f
      replace s24 := g61.f _ _ s24
      replace a25 := a25.up g61.f
      replace r51 := r51.up g61.f
      replace r34 := r34.up g61.f
      replace s55 := ex_t g61.f s55
      replace d57 := d57.up g61.f
      obtain ⟨p65, xs66, rfl, s67, a68⟩ := dp_lst r62
      refine ⟨_, rfl, ⟨_, (sq_of (eF59 _ _ s67))⟩, ?_⟩
      obtain ⟨h88, kfb26⟩ := post_guard kfb26
      refine lc_map (K := K) (M := []) (wlk_list eF59 s67 a68) (e2 PyData.int PyData.int) kfb26 eF59 h88 (fun _ _ => by simp) (fun x71 v86 F79 H80 F81 H82 g83 g84 r85 Q' k69 => ?_) (fun _ z => z) (fun b70 v72 F73 H74 g75 r76 kfb26 => ?_) gm_name
      · have g89 := Gm.refl (M := []) g83.s
        replace r_found := r_found.up g83.f
        replace r_worths := r_worths.up g83.f
        replace r4 := r4.up g83.f
        replace s8 := g83.f _ _ s8
        replace a9 := a9.up g83.f
        replace s12 := g83.f _ _ s12
        replace a13 := a13.up g83.f
        replace s24 := g83.f _ _ s24
        replace a25 := a25.up g83.f
        replace r51 := r51.up g83.f
        replace r34 := r34.up g83.f
        replace s55 := ex_t g83.f s55
        replace d57 := d57.up g83.f
        replace r62 := r62.up g83.f
        replace s67 := g83.f _ _ s67
        replace a68 := a68.up g83.f
        replace r_found := r_found.up g84.f
        replace r_worths := r_worths.up g84.f
        replace r4 := r4.up g84.f
        replace s8 := g84.f _ _ s8
        replace a9 := a9.up g84.f
        replace s12 := g84.f _ _ s12
        replace a13 := a13.up g84.f
        replace s24 := g84.f _ _ s24
        replace a25 := a25.up g84.f
        replace r51 := r51.up g84.f
        replace r34 := r34.up g84.f
        replace s55 := ex_t g84.f s55
        replace d57 := d57.up g84.f
        replace r62 := r62.up g84.f
        replace s67 := g84.f _ _ s67
        replace a68 := a68.up g84.f
        have eF81 := g84.s
        have gF81 := g89.trans (g84.weak (by simp))
        refine ⟨rfl, _, rfl, _, rfl, ?_⟩
        refine ⟨F81, _, x27.2, _, x71, rfl, eF81, d57, r85, (post_bd k69).mono (fun b90 k69 v95 F91 H92 g93 r94 => ?_) (fun _ z => z)⟩
        have eF91 := g93.s
        have gF91 := gF81.trans (g93.weak (by simp))
        replace r_found := r_found.up g93.f
        replace r_worths := r_worths.up g93.f
        replace r4 := r4.up g93.f
        replace s8 := g93.f _ _ s8
        replace a9 := a9.up g93.f
        replace s12 := g93.f _ _ s12
        replace a13 := a13.up g93.f
        replace s24 := g93.f _ _ s24
        replace a25 := a25.up g93.f
        replace r51 := r51.up g93.f
        replace r34 := r34.up g93.f
        replace s55 := ex_t g93.f s55
        replace d57 := d57.up g93.f
        replace r62 := r62.up g93.f
        replace s67 := g93.f _ _ s67
        replace a68 := a68.up g93.f
        replace r85 := r85.up g93.f
        exact k69.h _ _ _ gF91 r94
      have eF73 := g75.s
      have gF73 := gF59.trans (g75.weak (by simp))
      replace r_found := r_found.up g75.f
      replace r_worths := r_worths.up g75.f
      replace r4 := r4.up g75.f
      replace s8 := g75.f _ _ s8
      replace a9 := a9.up g75.f
      replace s12 := g75.f _ _ s12
      replace a13 := a13.up g75.f
      replace s24 := g75.f _ _ s24
      replace a25 := a25.up g75.f
      replace r51 := r51.up g75.f
      replace r34 := r34.up g75.f
      replace s55 := ex_t g75.f s55
      replace d57 := d57.up g75.f
      replace r62 := r62.up g75.f
      replace s67 := g75.f _ _ s67
      replace a68 := a68.up g75.f
      refine ⟨_, rfl, _, rfl, ?_⟩
      obtain ⟨p98, xs99, rfl, s100, a101⟩ := dp_lst r51
      obtain ⟨p102, xs103, rfl, s104, a105⟩ := dp_lst r76
      refine ⟨_, _, _, _, rfl, (sq_of (eF73 _ _ s100)), (sq_of (eF73 _ _ s104)), ?_⟩
      obtain ⟨h125, kfb26⟩ := post_guard kfb26
      refine lc_map (K := K) (M := []) (wlk_zip eF73 s100 a101 s104 a105) (e2 PyData.int PyData.int) kfb26 eF73 h125 (fun _ _ => by simp) (fun x108 v123 F116 H117 F118 H119 g120 g121 r122 Q' k106 => ?_) (fun _ z => z) (fun b107 v109 F110 H111 g112 r113 kfb26 => ?_) (gm_tup (gms_cons gm_name (gms_cons gm_name gms_nil)))
      · have g126 := Gm.refl (M := []) g120.s
        replace r_found := r_found.up g120.f
        replace r_worths := r_worths.up g120.f
        replace r4 := r4.up g120.f
        replace s8 := g120.f _ _ s8
        replace a9 := a9.up g120.f
        replace s12 := g120.f _ _ s12
        replace a13 := a13.up g120.f
        replace s24 := g120.f _ _ s24
        replace a25 := a25.up g120.f
        replace r51 := r51.up g120.f
        replace r34 := r34.up g120.f
        replace s55 := ex_t g120.f s55
        replace d57 := d57.up g120.f
        replace r62 := r62.up g120.f
        replace s67 := g120.f _ _ s67
        replace a68 := a68.up g120.f
        replace r76 := r76.up g120.f
        replace s100 := g120.f _ _ s100
        replace a101 := a101.up g120.f
        replace s104 := g120.f _ _ s104
        replace a105 := a105.up g120.f
        replace r_found := r_found.up g121.f
        replace r_worths := r_worths.up g121.f
        replace r4 := r4.up g121.f
        replace s8 := g121.f _ _ s8
        replace a9 := a9.up g121.f
        replace s12 := g121.f _ _ s12
        replace a13 := a13.up g121.f
        replace s24 := g121.f _ _ s24
        replace a25 := a25.up g121.f
        replace r51 := r51.up g121.f
        replace r34 := r34.up g121.f
        replace s55 := ex_t g121.f s55
        replace d57 := d57.up g121.f
        replace r62 := r62.up g121.f
        replace s67 := g121.f _ _ s67
        replace a68 := a68.up g121.f
        replace r76 := r76.up g121.f
        replace s100 := g121.f _ _ s100
        replace a101 := a101.up g121.f
        replace s104 := g121.f _ _ s104
        replace a105 := a105.up g121.f
        have eF118 := g121.s
        have gF118 := g126.trans (g121.weak (by simp))
        obtain ⟨p127, x128, x129, rfl, s130, d131, d132⟩ := dp_tup2 r122
        refine ⟨_, _, rfl, ex_t eF118 s130, rfl, _, _, rfl, _, _, rfl, rfl, rfl, _, rfl, _, rfl, ?_⟩
        refine ⟨F118, _, x108.1, _, x108.2, rfl, eF118, d131, d132, (post_bd k106).mono (fun b133 k106 v138 F134 H135 g136 r137 => ?_) (fun _ z => z)⟩
        have eF134 := g136.s
        have gF134 := gF118.trans (g136.weak (by simp))
        replace r_found := r_found.up g136.f
        replace r_worths := r_worths.up g136.f
        replace r4 := r4.up g136.f
        replace s8 := g136.f _ _ s8
        replace a9 := a9.up g136.f
        replace s12 := g136.f _ _ s12
        replace a13 := a13.up g136.f
        replace s24 := g136.f _ _ s24
        replace a25 := a25.up g136.f
        replace r51 := r51.up g136.f
        replace r34 := r34.up g136.f
        replace s55 := ex_t g136.f s55
        replace d57 := d57.up g136.f
        replace r62 := r62.up g136.f
        replace s67 := g136.f _ _ s67
        replace a68 := a68.up g136.f
        replace r76 := r76.up g136.f
        replace s100 := g136.f _ _ s100
        replace a101 := a101.up g136.f
        replace s104 := g136.f _ _ s104
        replace a105 := a105.up g136.f
        replace r122 := r122.up g136.f
        replace s130 := ex_t g136.f s130
        replace d131 := d131.up g136.f
        replace d132 := d132.up g136.f
        exact k106.h _ _ _ gF134 r137
      have eF110 := g112.s
      have gF110 := gF73.trans (g112.weak (by simp))
      replace r_found := r_found.up g112.f
      replace r_worths := r_worths.up g112.f
      replace r4 := r4.up g112.f
      replace s8 := g112.f _ _ s8
      replace a9 := a9.up g112.f
      replace s12 := g112.f _ _ s12
      replace a13 := a13.up g112.f
      replace s24 := g112.f _ _ s24
      replace a25 := a25.up g112.f
      replace r51 := r51.up g112.f
      replace r34 := r34.up g112.f
      replace s55 := ex_t g112.f s55
      replace d57 := d57.up g112.f
      replace r62 := r62.up g112.f
      replace s67 := g112.f _ _ s67
      replace a68 := a68.up g112.f
      replace r76 := r76.up g112.f
      replace s100 := g112.f _ _ s100
      replace a101 := a101.up g112.f
      replace s104 := g112.f _ _ s104
      replace a105 := a105.up g112.f
      exact kfb26.h _ _ _ gF110 ⟨_, _, _, _, _, _, _, rfl, r113⟩
    have g141 := gF17.trans (g40.weak (by simp))
    replace r_found := r_found.up g40.f
    replace r_worths := r_worths.up g40.f
    replace r4 := r4.up g40.f
    replace s8 := g40.f _ _ s8
    replace a9 := a9.up g40.f
    replace s12 := g40.f _ _ s12
    replace a13 := a13.up g40.f
    replace r20 := r20.up g40.f
    replace s24 := g40.f _ _ s24
    replace a25 := a25.up g40.f
    have eF38 := g40.s
    obtain ⟨c142, u143, u144, u145, u146, u147, u148, rfl, r149⟩ := i41
    refine ⟨_, rfl, ?_⟩
    refine ⟨F38, _, b43, rfl, eF38, r149, (post_bd k).mono (fun b150 k v155 F151 H152 g153 r154 => ?_) (fun _ z => z)⟩
    have eF151 := g153.s
    have gF151 := g141.trans (g153.weak (by simp))
    replace r_found := r_found.up g153.f
    replace r_worths := r_worths.up g153.f
    replace r4 := r4.up g153.f
    replace s8 := g153.f _ _ s8
    replace a9 := a9.up g153.f
    replace s12 := g153.f _ _ s12
    replace a13 := a13.up g153.f
    replace s24 := g153.f _ _ s24
    replace a25 := a25.up g153.f
    replace r149 := r149.up g153.f
    exact k.h _ _ _ gF151 r154
/-! ### polynomial_by -/
abbrev s_polynomial_by : Stmt := top 30
theorem sc_polynomial_by : FnScope ["places", "readings", "found"] ["places", "readings"] (defScope s_polynomial_by) := ⟨rfl, rfl, rfl, by decide +kernel, rfl, by decide +kernel, by decide +kernel⟩
def polynomial_by (places : (List (Int × Int))) (readings : (List (Int × Int))) : Mm (List (Int × Int)) := (checked_places (places)).bd fun b1 => (checked_readings (readings) ((b1.length : Int))).bd fun b12 => (polynomial_through (b1) (b12)).bd fun b19 => Mm.ok b19
def sp_polynomial_by (K : PySem.W.Frag) : Sp := fun vs H Q _ => ∃ (F : Hp) (v_places : V) (places : (List (Int × Int))) (v_readings : V) (readings : (List (Int × Int))), vs = [v_places, v_readings] ∧ Ex F H ∧ Dq K F v_places ((eV (e2 PyData.int PyData.int)) places) ∧ Dq K F v_readings ((eV (e2 PyData.int PyData.int)) readings) ∧ Post (polynomial_by places readings) (fun r => Ret [] F H (fun F' _ v => Dq K F' v ((eV (e2 PyData.int PyData.int)) r)) Q) (fun _ => False)
theorem ok_polynomial_by {P : Program} {w : World} {K : PySem.W.Frag} {mg : Str → Option Value} {base : Heap} {C f : Addr} {fd : FuncData} (B : Bi mg) (FF : FunD K "polynomial_by" "polynomial_by" (defArgs s_polynomial_by) (defBody s_polynomial_by) (defScope s_polynomial_by) [] [] f fd) (G_checked_places : Kn P w K mg base "checked_places" 3 ["places"] (sp_checked_places K)) (G_polynomial_through : Kn P w K mg base "polynomial_through" 6 ["found", "worths"] (sp_polynomial_through K)) (G_checked_readings : Kn P w K mg base "checked_readings" 2 ["readings", "count"] (sp_checked_readings K)) : FnOk P w K mg base CX0 7 f fd ["places", "readings"] (sp_polynomial_by K) := by
  refine FF.ok sc_polynomial_by (fun vs H Q E h => ?_) (fun cdv A outer s H vs Q E hr h => ?_)
  · obtain ⟨F, v_places, places, v_readings, readings, rfl, _⟩ := h; rfl
  · obtain ⟨F, v_places, places, v_readings, readings, rfl, e, r_places, r_readings, k⟩ := h
    unfold polynomial_by at k
    have g_ := Gm.refl (M := []) e
    refine ⟨_, PSs.nox (pss_cons (ps_set (i := 2) sc_polynomial_by.nd rfl (Or.inl rfl) (pe_kn G_checked_places (hr.mono (by decide)) (pa_cons (pv 0) (pa_nil)))) (pss_one (ps_ret (pe_q (pe_callTy call_tuple_of (by rfl) B.tuple (by decide +kernel) (pa_cons (pe_kn G_polynomial_through (hr.mono (by decide)) (pa_cons (pv 2) (pa_cons (pe_kn G_checked_readings (hr.mono (by decide)) (pa_cons (pv 1) (pa_cons (pe_callB call_lenM (by rfl) B.len (by decide +kernel) (pa_cons (pv 2) pa_nil)) (pa_nil)))) (pa_nil)))) pa_nil)))))), ?_⟩
    refine ⟨_, rfl, ?_⟩
    refine ⟨F, _, places, rfl, e, r_places, (post_bd k).mono (fun b1 k v6 F2 H3 g4 r5 => ?_) (fun _ z => z)⟩
    have eF2 := g4.s
    have gF2 := g_.trans (g4.weak (by simp))
    replace r_places := r_places.up g4.f
    replace r_readings := r_readings.up g4.f
    refine ⟨_, rfl, _, rfl, _, rfl, ?_⟩
    obtain ⟨p8, xs9, rfl, s10, a11⟩ := dp_lst r5
    refine ⟨_, _, _, rfl, .inl (sq_of (eF2 _ _ s10)), len_all a11, ?_⟩
    refine ⟨F2, _, readings, (b1.length : Int), rfl, eF2, r_readings, (post_bd k).mono (fun b12 k v17 F13 H14 g15 r16 => ?_) (fun _ z => z)⟩
    have eF13 := g15.s
    have gF13 := gF2.trans (g15.weak (by simp))
    replace r_places := r_places.up g15.f
    replace r_readings := r_readings.up g15.f
    replace r5 := r5.up g15.f
    replace s10 := g15.f _ _ s10
    replace a11 := a11.up g15.f
    refine ⟨F13, _, b1, _, b12, rfl, eF13, r5, r16, (post_bd k).mono (fun b19 k v24 F20 H21 g22 r23 => ?_) (fun _ z => z)⟩
    have eF20 := g22.s
    have gF20 := gF13.trans (g22.weak (by simp))
    replace r_places := r_places.up g22.f
    replace r_readings := r_readings.up g22.f
    replace r5 := r5.up g22.f
    replace s10 := g22.f _ _ s10
    replace a11 := a11.up g22.f
    replace r16 := r16.up g22.f
    obtain ⟨p26, xs27, rfl, s28, a29⟩ := dp_lst r23
    refine to_VL (K := K) (M := []) eF20 s28 a29 (en := (e2 PyData.int PyData.int)) (l := b19) fun v34 F30 H31 g32 r33 => ?_
    have eF30 := g32.s
    have gF30 := gF20.trans (g32.weak (by simp))
    replace r_places := r_places.up g32.f
    replace r_readings := r_readings.up g32.f
    replace r5 := r5.up g32.f
    replace s10 := g32.f _ _ s10
    replace a11 := a11.up g32.f
    replace r16 := r16.up g32.f
    replace r23 := r23.up g32.f
    replace s28 := g32.f _ _ s28
    replace a29 := a29.up g32.f
    exact k.h _ _ _ gF30 r33
/-! ### without -/
abbrev s_without : Stmt := top 31
theorem sc_without : FnScope ["listed", "index"] ["listed", "index"] (defScope s_without) := ⟨rfl, rfl, rfl, by decide +kernel, rfl, by decide +kernel, by decide +kernel⟩
def without (listed : (List (Int × Int))) (index : Int) : Mm (List (Int × Int)) := (guardM ((cutL listed none (some index)).length + (cutL listed (some (index + (1 : Int))) none).length ≤ 100000)).bd fun _ => Mm.ok ((cutL listed none (some index)) ++ (cutL listed (some (index + (1 : Int))) none))
def sp_without (K : PySem.W.Frag) : Sp := fun vs H Q _ => ∃ (F : Hp) (v_listed : V) (listed : (List (Int × Int))) (index : Int), vs = [v_listed, (V.int index)] ∧ Ex F H ∧ Dq K F v_listed ((eL (e2 PyData.int PyData.int)) listed) ∧ Post (without listed index) (fun r => Ret [] F H (fun F' _ v => Dq K F' v ((eL (e2 PyData.int PyData.int)) r)) Q) (fun _ => False)
theorem ok_without {P : Program} {w : World} {K : PySem.W.Frag} {mg : Str → Option Value} {base : Heap} {C f : Addr} {fd : FuncData} (B : Bi mg) (FF : FunD K "without" "without" (defArgs s_without) (defBody s_without) (defScope s_without) [] [] f fd) : FnOk P w K mg base CX0 1 f fd ["listed", "index"] (sp_without K) := by
  refine FF.ok sc_without (fun vs H Q E h => ?_) (fun cdv A outer s H vs Q E hr h => ?_)
  · obtain ⟨F, v_listed, listed, index, rfl, _⟩ := h; rfl
  · obtain ⟨F, v_listed, listed, index, rfl, e, r_listed, k⟩ := h
    unfold without at k
    have g_ := Gm.refl (M := []) e
    refine ⟨_, PSs.nox (pss_one (ps_ret (pe_q (pe_op op_cat (pe_q (pe_slice sl_list (pv 0) po_none (po_some (pv 1)))) (pe_q (pe_slice sl_list (pv 0) (po_some (pe_op op_add (pv 1) (pe_int))) po_none)))))), ?_⟩
    refine ⟨_, rfl, _, rfl, _, rfl, ?_⟩
    obtain ⟨p1, xs2, rfl, s3, a4⟩ := dp_lst r_listed
    refine cut_lst (K := K) (M := []) e s3 a4 fun v9 F5 H6 g7 r8 => ?_
    have eF5 := g7.s
    have gF5 := g_.trans (g7.weak (by simp))
    replace r_listed := r_listed.up g7.f
    replace s3 := g7.f _ _ s3
    replace a4 := a4.up g7.f
    refine ⟨_, rfl, _, rfl, _, _, rfl, rfl, _, rfl, ?_⟩
    refine cut_lst (K := K) (M := []) eF5 s3 a4 fun v14 F10 H11 g12 r13 => ?_
    have eF10 := g12.s
    have gF10 := gF5.trans (g12.weak (by simp))
    replace r_listed := r_listed.up g12.f
    replace s3 := g12.f _ _ s3
    replace a4 := a4.up g12.f
    replace r8 := r8.up g12.f
    obtain ⟨p15, xs16, rfl, s17, a18⟩ := dp_lst r8
    obtain ⟨p19, xs20, rfl, s21, a22⟩ := dp_lst r13
    obtain ⟨h24, k⟩ := post_guard k
    refine ⟨_, _, _, _, rfl, rfl, eF10 _ _ s17, eF10 _ _ s21, cat_len a18 a22 h24, new_lstC (K := K) (M := []) (en := (e2 PyData.int PyData.int)) (l := (cutL listed none (some index))) (l' := (cutL listed (some (index + (1 : Int))) none)) eF10 a18 a22 fun v29 F25 H26 g27 r28 => ?_⟩
    have eF25 := g27.s
    have gF25 := gF10.trans (g27.weak (by simp))
    replace r_listed := r_listed.up g27.f
    replace s3 := g27.f _ _ s3
    replace a4 := a4.up g27.f
    replace r8 := r8.up g27.f
    replace r13 := r13.up g27.f
    replace s17 := g27.f _ _ s17
    replace a18 := a18.up g27.f
    replace s21 := g27.f _ _ s21
    replace a22 := a22.up g27.f
    exact k.h _ _ _ gF25 r28
/-! ### fits -/
abbrev s_fits : Stmt := top 32
theorem sc_fits : FnScope ["found", "worths", "degree"] ["found", "worths", "degree"] (defScope s_fits) := ⟨rfl, rfl, rfl, by decide +kernel, rfl, by decide +kernel, by decide +kernel⟩
def fits (found : (List (Int × Int))) (worths : (List (Int × Int))) (degree : Int) : Mm Bool := (polynomial_through (found) (worths)).bd fun b1 => Mm.ok (decide ((b1.length : Int) ≤ (degree + (1 : Int))))
def sp_fits (K : PySem.W.Frag) : Sp := fun vs H Q _ => ∃ (F : Hp) (v_found : V) (found : (List (Int × Int))) (v_worths : V) (worths : (List (Int × Int))) (degree : Int), vs = [v_found, v_worths, (V.int degree)] ∧ Ex F H ∧ Dq K F v_found ((eL (e2 PyData.int PyData.int)) found) ∧ Dq K F v_worths ((eL (e2 PyData.int PyData.int)) worths) ∧ Post (fits found worths degree) (fun r => Ret [] F H (fun F' _ v => v = V.bl r) Q) (fun _ => False)
theorem ok_fits {P : Program} {w : World} {K : PySem.W.Frag} {mg : Str → Option Value} {base : Heap} {C f : Addr} {fd : FuncData} (B : Bi mg) (FF : FunD K "fits" "fits" (defArgs s_fits) (defBody s_fits) (defScope s_fits) [] [] f fd) (G_polynomial_through : Kn P w K mg base "polynomial_through" 6 ["found", "worths"] (sp_polynomial_through K)) : FnOk P w K mg base CX0 7 f fd ["found", "worths", "degree"] (sp_fits K) := by
  refine FF.ok sc_fits (fun vs H Q E h => ?_) (fun cdv A outer s H vs Q E hr h => ?_)
  · obtain ⟨F, v_found, found, v_worths, worths, degree, rfl, _⟩ := h; rfl
  · obtain ⟨F, v_found, found, v_worths, worths, degree, rfl, e, r_found, r_worths, k⟩ := h
    unfold fits at k
    have g_ := Gm.refl (M := []) e
    refine ⟨_, PSs.nox (pss_one (ps_ret (pe_cmpR op_le (pe_callB call_lenM (by rfl) B.len (by decide +kernel) (pa_cons (pe_kn G_polynomial_through (hr.mono (by decide)) (pa_cons (pv 0) (pa_cons (pv 1) (pa_nil)))) pa_nil)) (pe_op op_add (pv 2) (pe_int)) (nomark _)))), ?_⟩
    refine ⟨_, rfl, _, rfl, ?_⟩
    refine ⟨F, _, found, _, worths, rfl, e, r_found, r_worths, (post_bd k).mono (fun b1 k v6 F2 H3 g4 r5 => ?_) (fun _ z => z)⟩
    have eF2 := g4.s
    have gF2 := g_.trans (g4.weak (by simp))
    replace r_found := r_found.up g4.f
    replace r_worths := r_worths.up g4.f
    obtain ⟨p8, xs9, rfl, s10, a11⟩ := dp_lst r5
    refine ⟨_, _, _, rfl, .inl (sq_of (eF2 _ _ s10)), len_all a11, _, rfl, _, _, rfl, rfl, _, _, rfl, rfl, ?_⟩
    exact k.h _ _ _ gF2 rfl
/-! ### false_alone -/
abbrev s_false_alone : Stmt := top 33
theorem sc_false_alone : FnScope ["found", "worths", "degree", "index"] ["found", "worths", "degree"] (defScope s_false_alone) := ⟨rfl, rfl, rfl, by decide +kernel, rfl, by decide +kernel, by decide +kernel⟩
def false_alone (found : (List (Int × Int))) (worths : (List (Int × Int))) (degree : Int) : Mm (List Int) := (rangeM (found.length : Int)).bd fun l6 => (guardM ((rangeL 0 (found.length : Int).toNat).length ≤ 50000)).bd fun _ => (filMm (fun (x9 : Int) => (without (found) (x9)).bd fun b28 => (without (worths) (x9)).bd fun b35 => (fits (b28) (b35) (degree)).bd fun b42 => cond b42 (Mm.ok (some x9)) (Mm.ok none)) (rangeL 0 (found.length : Int).toNat)).bd fun b8 => Mm.ok b8
def sp_false_alone (K : PySem.W.Frag) : Sp := fun vs H Q _ => ∃ (F : Hp) (v_found : V) (found : (List (Int × Int))) (v_worths : V) (worths : (List (Int × Int))) (degree : Int), vs = [v_found, v_worths, (V.int degree)] ∧ Ex F H ∧ Dq K F v_found ((eL (e2 PyData.int PyData.int)) found) ∧ Dq K F v_worths ((eL (e2 PyData.int PyData.int)) worths) ∧ Post (false_alone found worths degree) (fun r => Ret [] F H (fun F' _ v => Dq K F' v ((eL PyData.int) r)) Q) (fun _ => False)
theorem ok_false_alone {P : Program} {w : World} {K : PySem.W.Frag} {mg : Str → Option Value} {base : Heap} {C f : Addr} {fd : FuncData} (B : Bi mg) (FF : FunD K "false_alone" "false_alone" (defArgs s_false_alone) (defBody s_false_alone) (defScope s_false_alone) [] [] f fd) (G_fits : Kn P w K mg base "fits" 7 ["found", "worths", "degree"] (sp_fits K)) (G_without : Kn P w K mg base "without" 1 ["listed", "index"] (sp_without K)) : FnOk P w K mg base CX0 8 f fd ["found", "worths", "degree"] (sp_false_alone K) := by
  refine FF.ok sc_false_alone (fun vs H Q E h => ?_) (fun cdv A outer s H vs Q E hr h => ?_)
  · obtain ⟨F, v_found, found, v_worths, worths, degree, rfl, _⟩ := h; rfl
  · obtain ⟨F, v_found, found, v_worths, worths, degree, rfl, e, r_found, r_worths, k⟩ := h
    unfold false_alone at k
    have g_ := Gm.refl (M := []) e
    refine ⟨_, PSs.nox (pss_one (ps_ret (pe_q (pe_lc (own := [("index", 3)]) (g := gName 3) rfl sc_false_alone.nd (pi_range1 rfl B.range (pa_cons (pe_callB call_lenM (by rfl) B.len (by decide +kernel) (pa_cons (pv 0) pa_nil)) (pa_nil))) (blkOk_by (N := ["found", "worths", "degree", "index"]) (sc := defScope s_false_alone) (by decide +kernel)) (fun _ _ _ _ _ => pg_name (i := 3) sc_false_alone.nd rfl (Or.inl rfl)) (fun _ _ _ _ _ => pts_one (pt_val (pe_kn G_fits (hr.mono (by decide)) (pa_cons (pe_kn G_without (hr.mono (by decide)) (pa_cons (pv 0) (pa_cons (pv 3) (pa_nil)))) (pa_cons (pe_kn G_without (hr.mono (by decide)) (pa_cons (pv 1) (pa_cons (pv 3) (pa_nil)))) (pa_cons (pv 2) (pa_nil))))))) (fun _ _ _ _ _ => pv 3))))), ?_⟩
    refine ⟨_, rfl, ?_⟩
    obtain ⟨p1, xs2, rfl, s3, a4⟩ := dp_lst r_found
    refine ⟨_, _, _, rfl, .inl (sq_of (e _ _ s3)), len_all a4, ?_⟩
    obtain ⟨h5, k⟩ := post_range k
    refine ⟨_, rfl, h5.1, h5.2, ?_⟩
    obtain ⟨h26, k⟩ := post_guard k
    refine lc_fil (K := K) (M := []) wlk_range PyData.int k e h26 (fun _ _ => by simp) (fun x9 v24 F17 H18 F19 H20 g21 g22 r23 Q' k7 => ?_) (fun _ z => z) (fun b8 v10 F11 H12 g13 r14 k => ?_) gm_name
    · have g27 := Gm.refl (M := []) g21.s
      replace r_found := r_found.up g21.f
      replace r_worths := r_worths.up g21.f
      replace s3 := g21.f _ _ s3
      replace a4 := a4.up g21.f
      replace r_found := r_found.up g22.f
      replace r_worths := r_worths.up g22.f
      replace s3 := g22.f _ _ s3
      replace a4 := a4.up g22.f
      have eF19 := g22.s
      have gF19 := g27.trans (g22.weak (by simp))
      subst r23
      refine ⟨rfl, _, rfl, _, rfl, ?_⟩
      refine ⟨F19, _, found, x9, rfl, eF19, r_found, (post_bd k7).mono (fun b28 k7 v33 F29 H30 g31 r32 => ?_) (fun _ z => z)⟩
      have eF29 := g31.s
      have gF29 := gF19.trans (g31.weak (by simp))
      replace r_found := r_found.up g31.f
      replace r_worths := r_worths.up g31.f
      replace s3 := g31.f _ _ s3
      replace a4 := a4.up g31.f
      refine ⟨_, rfl, _, rfl, ?_⟩
      refine ⟨F29, _, worths, x9, rfl, eF29, r_worths, (post_bd k7).mono (fun b35 k7 v40 F36 H37 g38 r39 => ?_) (fun _ z => z)⟩
      have eF36 := g38.s
      have gF36 := gF29.trans (g38.weak (by simp))
      replace r_found := r_found.up g38.f
      replace r_worths := r_worths.up g38.f
      replace s3 := g38.f _ _ s3
      replace a4 := a4.up g38.f
      replace r32 := r32.up g38.f
      refine ⟨_, rfl, ?_⟩
      refine ⟨F36, _, b28, _, b35, degree, rfl, eF36, r32, r39, (post_bd k7).mono (fun b42 k7 v47 F43 H44 g45 r46 => ?_) (fun _ z => z)⟩
      have eF43 := g45.s
      have gF43 := gF36.trans (g45.weak (by simp))
      replace r_found := r_found.up g45.f
      replace r_worths := r_worths.up g45.f
      replace s3 := g45.f _ _ s3
      replace a4 := a4.up g45.f
      replace r32 := r32.up g45.f
      replace r39 := r39.up g45.f
      subst r46
      refine ⟨_, rfl, ?_⟩
      refine cs k7 (fun _ k7 => ?_) (fun _ k7 => ?_)
      · refine ⟨_, rfl, ?_⟩
        exact k7.h _ _ _ gF43 ⟨_, rfl, (Dq.int x9)⟩
      · exact k7.h _ _ _ gF43 rfl
    have eF11 := g13.s
    have gF11 := g_.trans (g13.weak (by simp))
    replace r_found := r_found.up g13.f
    replace r_worths := r_worths.up g13.f
    replace s3 := g13.f _ _ s3
    replace a4 := a4.up g13.f
    exact k.h _ _ _ gF11 r14
/-! ### false_ones -/
abbrev s_false_ones : Stmt := top 34
theorem sc_false_ones : FnScope ["places", "readings", "degree", "found", "worths"] ["places", "readings", "degree"] (defScope s_false_ones) := ⟨rfl, rfl, rfl, by decide +kernel, rfl, by decide +kernel, by decide +kernel⟩
def false_ones (places : (List (Int × Int))) (readings : (List (Int × Int))) (degree : Int) : Mm (List Int) := (checked_places (places)).bd fun b1 => (checked_readings (readings) ((b1.length : Int))).bd fun b12 => (check_within (degree) ((0 : Int)) ((4 : Int))).bd fun b19 => (false_alone (b1) (b12) (degree)).bd fun b26 => Mm.ok b26
def sp_false_ones (K : PySem.W.Frag) : Sp := fun vs H Q _ => ∃ (F : Hp) (v_places : V) (places : (List (Int × Int))) (v_readings : V) (readings : (List (Int × Int))) (degree : Int), vs = [v_places, v_readings, (V.int degree)] ∧ Ex F H ∧ Dq K F v_places ((eV (e2 PyData.int PyData.int)) places) ∧ Dq K F v_readings ((eV (e2 PyData.int PyData.int)) readings) ∧ Post (false_ones places readings degree) (fun r => Ret [] F H (fun F' _ v => Dq K F' v ((eV PyData.int) r)) Q) (fun _ => False)
theorem ok_false_ones {P : Program} {w : World} {K : PySem.W.Frag} {mg : Str → Option Value} {base : Heap} {C f : Addr} {fd : FuncData} (B : Bi mg) (FF : FunD K "false_ones" "false_ones" (defArgs s_false_ones) (defBody s_false_ones) (defScope s_false_ones) [] [] f fd) (G_checked_places : Kn P w K mg base "checked_places" 3 ["places"] (sp_checked_places K)) (G_checked_readings : Kn P w K mg base "checked_readings" 2 ["readings", "count"] (sp_checked_readings K)) (G_check_within : Kn P w K mg base "check_within" 2 ["number", "low", "high"] (sp_check_within K)) (G_false_alone : Kn P w K mg base "false_alone" 8 ["found", "worths", "degree"] (sp_false_alone K)) (c_MOST_READ_DEGREE : ∃ t, mg "MOST_READ_DEGREE" = some (.int 4 t)) : FnOk P w K mg base CX0 9 f fd ["places", "readings", "degree"] (sp_false_ones K) := by
  refine FF.ok sc_false_ones (fun vs H Q E h => ?_) (fun cdv A outer s H vs Q E hr h => ?_)
  · obtain ⟨F, v_places, places, v_readings, readings, degree, rfl, _⟩ := h; rfl
  · obtain ⟨F, v_places, places, v_readings, readings, degree, rfl, e, r_places, r_readings, k⟩ := h
    unfold false_ones at k
    have g_ := Gm.refl (M := []) e
    refine ⟨_, PSs.nox (pss_cons (ps_set (i := 3) sc_false_ones.nd rfl (Or.inl rfl) (pe_kn G_checked_places (hr.mono (by decide)) (pa_cons (pv 0) (pa_nil)))) (pss_cons (ps_set (i := 4) sc_false_ones.nd rfl (Or.inl rfl) (pe_kn G_checked_readings (hr.mono (by decide)) (pa_cons (pv 1) (pa_cons (pe_callB call_lenM (by rfl) B.len (by decide +kernel) (pa_cons (pv 3) pa_nil)) (pa_nil))))) (pss_cons (ps_expr (pe_kn G_check_within (hr.mono (by decide)) (pa_cons (pv 2) (pa_cons (pe_int) (pa_cons (pe_gint c_MOST_READ_DEGREE) (pa_nil)))))) (pss_one (ps_ret (pe_q (pe_callTy call_tuple_of (by rfl) B.tuple (by decide +kernel) (pa_cons (pe_kn G_false_alone (hr.mono (by decide)) (pa_cons (pv 3) (pa_cons (pv 4) (pa_cons (pv 2) (pa_nil))))) pa_nil)))))))), ?_⟩
    refine ⟨_, rfl, ?_⟩
    refine ⟨F, _, places, rfl, e, r_places, (post_bd k).mono (fun b1 k v6 F2 H3 g4 r5 => ?_) (fun _ z => z)⟩
    have eF2 := g4.s
    have gF2 := g_.trans (g4.weak (by simp))
    replace r_places := r_places.up g4.f
    replace r_readings := r_readings.up g4.f
    refine ⟨_, rfl, _, rfl, ?_⟩
    obtain ⟨p8, xs9, rfl, s10, a11⟩ := dp_lst r5
    refine ⟨_, _, _, rfl, .inl (sq_of (eF2 _ _ s10)), len_all a11, ?_⟩
    refine ⟨F2, _, readings, (b1.length : Int), rfl, eF2, r_readings, (post_bd k).mono (fun b12 k v17 F13 H14 g15 r16 => ?_) (fun _ z => z)⟩
    have eF13 := g15.s
    have gF13 := gF2.trans (g15.weak (by simp))
    replace r_places := r_places.up g15.f
    replace r_readings := r_readings.up g15.f
    replace r5 := r5.up g15.f
    replace s10 := g15.f _ _ s10
    replace a11 := a11.up g15.f
    refine ⟨_, rfl, ?_⟩
    refine ⟨F13, degree, (0 : Int), (4 : Int), rfl, eF13, (post_bd k).mono (fun b19 k v24 F20 H21 g22 r23 => ?_) (fun _ z => z)⟩
    have eF20 := g22.s
    have gF20 := gF13.trans (g22.weak (by simp))
    replace r_places := r_places.up g22.f
    replace r_readings := r_readings.up g22.f
    replace r5 := r5.up g22.f
    replace s10 := g22.f _ _ s10
    replace a11 := a11.up g22.f
    replace r16 := r16.up g22.f
    subst r23
    refine ⟨_, rfl, _, rfl, _, rfl, ?_⟩
    refine ⟨F20, _, b1, _, b12, degree, rfl, eF20, r5, r16, (post_bd k).mono (fun b26 k v31 F27 H28 g29 r30 => ?_) (fun _ z => z)⟩
    have eF27 := g29.s
    have gF27 := gF20.trans (g29.weak (by simp))
    replace r_places := r_places.up g29.f
    replace r_readings := r_readings.up g29.f
    replace r5 := r5.up g29.f
    replace s10 := g29.f _ _ s10
    replace a11 := a11.up g29.f
    replace r16 := r16.up g29.f
    obtain ⟨p33, xs34, rfl, s35, a36⟩ := dp_lst r30
    refine to_VL (K := K) (M := []) eF27 s35 a36 (en := PyData.int) (l := b26) fun v41 F37 H38 g39 r40 => ?_
    have eF37 := g39.s
    have gF37 := gF27.trans (g39.weak (by simp))
    replace r_places := r_places.up g39.f
    replace r_readings := r_readings.up g39.f
    replace r5 := r5.up g39.f
    replace s10 := g39.f _ _ s10
    replace a11 := a11.up g39.f
    replace r16 := r16.up g39.f
    replace r30 := r30.up g39.f
    replace s35 := g39.f _ _ s35
    replace a36 := a36.up g39.f
    exact k.h _ _ _ gF37 r40
/-! ### repaired -/
abbrev s_repaired : Stmt := top 35
theorem sc_repaired : FnScope ["places", "readings", "degree", "found", "worths", "alone", "index", "polynomial"] ["places", "readings", "degree"] (defScope s_repaired) := ⟨rfl, rfl, rfl, by decide +kernel, rfl, by decide +kernel, by decide +kernel⟩
def repaired (places : (List (Int × Int))) (readings : (List (Int × Int))) (degree : Int) : Mm (Option (List (Int × Int))) := (checked_places (places)).bd fun b1 => (checked_readings (readings) ((b1.length : Int))).bd fun b12 => (check_within (degree) ((0 : Int)) ((4 : Int))).bd fun b19 => (fits (b1) (b12) (degree)).bd fun b26 => cond b26 (Mm.ok (some b12)) ((false_alone (b1) (b12) (degree)).bd fun b42 => cond (!(decide ((b42.length : Int) = (1 : Int)))) (Mm.ok none) ((getM b42 (0 : Int)).bd fun i53 => (without (b1) (i53)).bd fun b58 => (without (b12) (i53)).bd fun b65 => (polynomial_through (b58) (b65)).bd fun b72 => (getM b1 i53).bd fun i92 => (worth (b72) (i92)).bd fun b97 => (guardM (((cutL b12 none (some i53)) ++ (b97 :: ((cutL b12 (some (i53 + (1 : Int))) none) ++ []))).length ≤ 100000)).bd fun _ => Mm.ok (some ((cutL b12 none (some i53)) ++ (b97 :: ((cutL b12 (some (i53 + (1 : Int))) none) ++ []))))))
def sp_repaired (K : PySem.W.Frag) : Sp := fun vs H Q _ => ∃ (F : Hp) (v_places : V) (places : (List (Int × Int))) (v_readings : V) (readings : (List (Int × Int))) (degree : Int), vs = [v_places, v_readings, (V.int degree)] ∧ Ex F H ∧ Dq K F v_places ((eV (e2 PyData.int PyData.int)) places) ∧ Dq K F v_readings ((eV (e2 PyData.int PyData.int)) readings) ∧ Post (repaired places readings degree) (fun r => Ret [] F H (fun F' _ v => Dq K F' v ((eO (eV (e2 PyData.int PyData.int))) r)) Q) (fun _ => False)
theorem ok_repaired {P : Program} {w : World} {K : PySem.W.Frag} {mg : Str → Option Value} {base : Heap} {C f : Addr} {fd : FuncData} (B : Bi mg) (FF : FunD K "repaired" "repaired" (defArgs s_repaired) (defBody s_repaired) (defScope s_repaired) [] [] f fd) (G_checked_places : Kn P w K mg base "checked_places" 3 ["places"] (sp_checked_places K)) (G_checked_readings : Kn P w K mg base "checked_readings" 2 ["readings", "count"] (sp_checked_readings K)) (G_check_within : Kn P w K mg base "check_within" 2 ["number", "low", "high"] (sp_check_within K)) (G_fits : Kn P w K mg base "fits" 7 ["found", "worths", "degree"] (sp_fits K)) (G_false_alone : Kn P w K mg base "false_alone" 8 ["found", "worths", "degree"] (sp_false_alone K)) (G_polynomial_through : Kn P w K mg base "polynomial_through" 6 ["found", "worths"] (sp_polynomial_through K)) (G_without : Kn P w K mg base "without" 1 ["listed", "index"] (sp_without K)) (G_worth : Kn P w K mg base "worth" 3 ["polynomial", "place"] (sp_worth K)) (c_MOST_READ_DEGREE : ∃ t, mg "MOST_READ_DEGREE" = some (.int 4 t)) : FnOk P w K mg base CX0 9 f fd ["places", "readings", "degree"] (sp_repaired K) := by
  refine FF.ok sc_repaired (fun vs H Q E h => ?_) (fun cdv A outer s H vs Q E hr h => ?_)
  · obtain ⟨F, v_places, places, v_readings, readings, degree, rfl, _⟩ := h; rfl
  · obtain ⟨F, v_places, places, v_readings, readings, degree, rfl, e, r_places, r_readings, k⟩ := h
    unfold repaired at k
    have g_ := Gm.refl (M := []) e
    refine ⟨_, PSs.nox (pss_cons (ps_set (i := 3) sc_repaired.nd rfl (Or.inl rfl) (pe_kn G_checked_places (hr.mono (by decide)) (pa_cons (pv 0) (pa_nil)))) (pss_cons (ps_set (i := 4) sc_repaired.nd rfl (Or.inl rfl) (pe_kn G_checked_readings (hr.mono (by decide)) (pa_cons (pv 1) (pa_cons (pe_callB call_lenM (by rfl) B.len (by decide +kernel) (pa_cons (pv 3) pa_nil)) (pa_nil))))) (pss_cons (ps_expr (pe_kn G_check_within (hr.mono (by decide)) (pa_cons (pv 2) (pa_cons (pe_int) (pa_cons (pe_gint c_MOST_READ_DEGREE) (pa_nil)))))) (pss_cons (ps_if (pt_val (pe_kn G_fits (hr.mono (by decide)) (pa_cons (pv 3) (pa_cons (pv 4) (pa_cons (pv 2) (pa_nil)))))) (pss_one (ps_ret (pe_q (pe_callTy call_tuple_of (by rfl) B.tuple (by decide +kernel) (pa_cons (pv 4) pa_nil))))) pss_nil) (pss_cons (ps_set (i := 5) sc_repaired.nd rfl (Or.inl rfl) (pe_kn G_false_alone (hr.mono (by decide)) (pa_cons (pv 3) (pa_cons (pv 4) (pa_cons (pv 2) (pa_nil)))))) (pss_cons (ps_if (pt_cmpR op_ne (pe_callB call_lenM (by rfl) B.len (by decide +kernel) (pa_cons (pv 5) pa_nil)) (pe_int) (nomark _)) (pss_one (ps_ret (pe_non))) pss_nil) (pss_cons (ps_set (i := 6) sc_repaired.nd rfl (Or.inl rfl) (pe_ix (r := rIxL K) ix_list (pv 5) (pe_int) (fun _ _ => rfl))) (pss_cons (ps_set (i := 7) sc_repaired.nd rfl (Or.inl rfl) (pe_kn G_polynomial_through (hr.mono (by decide)) (pa_cons (pe_kn G_without (hr.mono (by decide)) (pa_cons (pv 3) (pa_cons (pv 6) (pa_nil)))) (pa_cons (pe_kn G_without (hr.mono (by decide)) (pa_cons (pv 4) (pa_cons (pv 6) (pa_nil)))) (pa_nil))))) (pss_one (ps_ret (pe_q (pe_tup (pa_star (pe_q (pe_slice sl_list (pv 4) po_none (po_some (pv 6)))) (pa_cons (pe_kn G_worth (hr.mono (by decide)) (pa_cons (pv 7) (pa_cons (pe_ix (r := rIxL K) ix_list (pv 3) (pv 6) (fun _ _ => rfl)) (pa_nil)))) (pa_star (pe_q (pe_slice sl_list (pv 4) (po_some (pe_op op_add (pv 6) (pe_int))) po_none)) (pa_nil)))))))))))))))), ?_⟩
    refine ⟨_, rfl, ?_⟩
    refine ⟨F, _, places, rfl, e, r_places, (post_bd k).mono (fun b1 k v6 F2 H3 g4 r5 => ?_) (fun _ z => z)⟩
    have eF2 := g4.s
    have gF2 := g_.trans (g4.weak (by simp))
    replace r_places := r_places.up g4.f
    replace r_readings := r_readings.up g4.f
    refine ⟨_, rfl, _, rfl, ?_⟩
    obtain ⟨p8, xs9, rfl, s10, a11⟩ := dp_lst r5
    refine ⟨_, _, _, rfl, .inl (sq_of (eF2 _ _ s10)), len_all a11, ?_⟩
    refine ⟨F2, _, readings, (b1.length : Int), rfl, eF2, r_readings, (post_bd k).mono (fun b12 k v17 F13 H14 g15 r16 => ?_) (fun _ z => z)⟩
    have eF13 := g15.s
    have gF13 := gF2.trans (g15.weak (by simp))
    replace r_places := r_places.up g15.f
    replace r_readings := r_readings.up g15.f
    replace r5 := r5.up g15.f
    replace s10 := g15.f _ _ s10
    replace a11 := a11.up g15.f
    refine ⟨_, rfl, ?_⟩
    refine ⟨F13, degree, (0 : Int), (4 : Int), rfl, eF13, (post_bd k).mono (fun b19 k v24 F20 H21 g22 r23 => ?_) (fun _ z => z)⟩
    have eF20 := g22.s
    have gF20 := gF13.trans (g22.weak (by simp))
    replace r_places := r_places.up g22.f
    replace r_readings := r_readings.up g22.f
    replace r5 := r5.up g22.f
    replace s10 := g22.f _ _ s10
    replace a11 := a11.up g22.f
    replace r16 := r16.up g22.f
    subst r23
    refine ⟨_, rfl, _, rfl, _, rfl, ?_⟩
    refine ⟨F20, _, b1, _, b12, degree, rfl, eF20, r5, r16, (post_bd k).mono (fun b26 k v31 F27 H28 g29 r30 => ?_) (fun _ z => z)⟩
    have eF27 := g29.s
    have gF27 := gF20.trans (g29.weak (by simp))
    replace r_places := r_places.up g29.f
    replace r_readings := r_readings.up g29.f
    replace r5 := r5.up g29.f
    replace s10 := g29.f _ _ s10
    replace a11 := a11.up g29.f
    replace r16 := r16.up g29.f
    subst r30
    refine ⟨_, rfl, ?_⟩
    refine cs k (fun _ k => ?_) (fun _ k => ?_)
    · refine ⟨_, rfl, ?_⟩
      obtain ⟨p33, xs34, rfl, s35, a36⟩ := dp_lst r16
      refine to_VL (K := K) (M := []) eF27 s35 a36 (en := (e2 PyData.int PyData.int)) (l := b12) fun v41 F37 H38 g39 r40 => ?_
      have eF37 := g39.s
      have gF37 := gF27.trans (g39.weak (by simp))
      replace r_places := r_places.up g39.f
      replace r_readings := r_readings.up g39.f
      replace r5 := r5.up g39.f
      replace s10 := g39.f _ _ s10
      replace a11 := a11.up g39.f
      replace r16 := r16.up g39.f
      replace s35 := g39.f _ _ s35
      replace a36 := a36.up g39.f
      exact k.h _ _ _ gF37 r40
    · refine ⟨_, rfl, _, rfl, _, rfl, ?_⟩
      refine ⟨F27, _, b1, _, b12, degree, rfl, eF27, r5, r16, (post_bd k).mono (fun b42 k v47 F43 H44 g45 r46 => ?_) (fun _ z => z)⟩
      have eF43 := g45.s
      have gF43 := gF27.trans (g45.weak (by simp))
      replace r_places := r_places.up g45.f
      replace r_readings := r_readings.up g45.f
      replace r5 := r5.up g45.f
      replace s10 := g45.f _ _ s10
      replace a11 := a11.up g45.f
      replace r16 := r16.up g45.f
      refine ⟨_, rfl, ?_⟩
      obtain ⟨p49, xs50, rfl, s51, a52⟩ := dp_lst r46
      refine ⟨_, _, _, rfl, .inl (sq_of (eF43 _ _ s51)), len_all a52, rfl, ?_⟩
      rw [decV_int]
      refine ⟨_, rfl, ?_⟩
      refine cs k (fun _ k => ?_) (fun _ k => ?_)
      · exact k.h _ _ _ gF43 Dq.non
      · refine ⟨_, rfl, ?_⟩
        obtain ⟨i53, h54, k⟩ := post_get k
        obtain ⟨v55, h56, r57⟩ := dq_at a52 h54
        refine ⟨_, _, _, _, rfl, rfl, (sq_of (eF43 _ _ s51)), h56, ?_⟩
        obtain rfl := dp_int r57
        refine ⟨_, rfl, _, rfl, ?_⟩
        refine ⟨F43, _, b1, i53, rfl, eF43, r5, (post_bd k).mono (fun b58 k v63 F59 H60 g61 r62 => ?_) (fun _ z => z)⟩
        have eF59 := g61.s
        have gF59 := gF43.trans (g61.weak (by simp))
        replace r_places := r_places.up g61.f
        replace r_readings := r_readings.up g61.f
        replace r5 := r5.up g61.f
        replace s10 := g61.f _ _ s10
        replace a11 := a11.up g61.f
        replace r16 := r16.up g61.f
        replace r46 := r46.up g61.f
        replace s51 := g61.f _ _ s51
        replace a52 := a52.up g61.f
        refine ⟨_, rfl, _, rfl, ?_⟩
        refine ⟨F59, _, b12, i53, rfl, eF59, r16, (post_bd k).mono (fun b65 k v70 F66 H67 g68 r69 => ?_) (fun _ z => z)⟩
        have eF66 := g68.s
        have gF66 := gF59.trans (g68.weak (by simp))
        replace r_places := r_places.up g68.f
        replace r_readings := r_readings.up g68.f
        replace r5 := r5.up g68.f
        replace s10 := g68.f _ _ s10
        replace a11 := a11.up g68.f
        replace r16 := r16.up g68.f
        replace r46 := r46.up g68.f
        replace s51 := g68.f _ _ s51
        replace a52 := a52.up g68.f
        replace r62 := r62.up g68.f
        refine ⟨F66, _, b58, _, b65, rfl, eF66, r62, r69, (post_bd k).mono (fun b72 k v77 F73 H74 g75 r76 => ?_) (fun _ z => z)⟩
        have eF73 := g75.s
        have gF73 := gF66.trans (g75.weak (by simp))
        replace r_places := r_places.up g75.f
        replace r_readings := r_readings.up g75.f
        replace r5 := r5.up g75.f
        replace s10 := g75.f _ _ s10
        replace a11 := a11.up g75.f
        replace r16 := r16.up g75.f
        replace r46 := r46.up g75.f
        replace s51 := g75.f _ _ s51
        replace a52 := a52.up g75.f
        replace r62 := r62.up g75.f
        replace r69 := r69.up g75.f
        refine ⟨_, rfl, _, rfl, _, rfl, ?_⟩
        obtain ⟨p79, xs80, rfl, s81, a82⟩ := dp_lst r16
        refine cut_lst (K := K) (M := []) eF73 s81 a82 fun v87 F83 H84 g85 r86 => ?_
        have eF83 := g85.s
        have gF83 := gF73.trans (g85.weak (by simp))
        replace r_places := r_places.up g85.f
        replace r_readings := r_readings.up g85.f
        replace r5 := r5.up g85.f
        replace s10 := g85.f _ _ s10
        replace a11 := a11.up g85.f
        replace r16 := r16.up g85.f
        replace r46 := r46.up g85.f
        replace s51 := g85.f _ _ s51
        replace a52 := a52.up g85.f
        replace r62 := r62.up g85.f
        replace r69 := r69.up g85.f
        replace r76 := r76.up g85.f
        replace s81 := g85.f _ _ s81
        replace a82 := a82.up g85.f
        obtain ⟨p88, xs89, rfl, s90, a91⟩ := dp_lst r86
        refine ⟨_, _, rfl, .inr (sq_of (eF83 _ _ s90)), _, rfl, _, rfl, _, rfl, ?_⟩
        obtain ⟨i92, h93, k⟩ := post_get k
        obtain ⟨v94, h95, r96⟩ := dq_at a11 h93
        refine ⟨_, _, _, _, rfl, rfl, (sq_of (eF83 _ _ s10)), h95, ?_⟩
        refine ⟨F83, _, b72, _, i92, rfl, eF83, r76, r96, (post_bd k).mono (fun b97 k v102 F98 H99 g100 r101 => ?_) (fun _ z => z)⟩
        have eF98 := g100.s
        have gF98 := gF83.trans (g100.weak (by simp))
        replace r_places := r_places.up g100.f
        replace r_readings := r_readings.up g100.f
        replace r5 := r5.up g100.f
        replace s10 := g100.f _ _ s10
        replace a11 := a11.up g100.f
        replace r16 := r16.up g100.f
        replace r46 := r46.up g100.f
        replace s51 := g100.f _ _ s51
        replace a52 := a52.up g100.f
        replace r62 := r62.up g100.f
        replace r69 := r69.up g100.f
        replace r76 := r76.up g100.f
        replace s81 := g100.f _ _ s81
        replace a82 := a82.up g100.f
        replace r86 := r86.up g100.f
        replace s90 := g100.f _ _ s90
        replace a91 := a91.up g100.f
        replace r96 := r96.up g100.f
        refine ⟨_, rfl, _, rfl, _, _, rfl, rfl, _, rfl, ?_⟩
        refine cut_lst (K := K) (M := []) eF98 s81 a82 fun v108 F104 H105 g106 r107 => ?_
        have eF104 := g106.s
        have gF104 := gF98.trans (g106.weak (by simp))
        replace r_places := r_places.up g106.f
        replace r_readings := r_readings.up g106.f
        replace r5 := r5.up g106.f
        replace s10 := g106.f _ _ s10
        replace a11 := a11.up g106.f
        replace r16 := r16.up g106.f
        replace r46 := r46.up g106.f
        replace s51 := g106.f _ _ s51
        replace a52 := a52.up g106.f
        replace r62 := r62.up g106.f
        replace r69 := r69.up g106.f
        replace r76 := r76.up g106.f
        replace s81 := g106.f _ _ s81
        replace a82 := a82.up g106.f
        replace r86 := r86.up g106.f
        replace s90 := g106.f _ _ s90
        replace a91 := a91.up g106.f
        replace r96 := r96.up g106.f
        replace r101 := r101.up g106.f
        obtain ⟨p109, xs110, rfl, s111, a112⟩ := dp_lst r107
        refine ⟨_, _, rfl, .inr (sq_of (eF104 _ _ s111)), ?_⟩
        obtain ⟨h113, k⟩ := post_guard k
        have a114 : DqAll K F104 (xs89 ++ (v102 :: (xs110 ++ []))) (List.map (e2 PyData.int PyData.int) ((cutL b12 none (some i53)) ++ (b97 :: ((cutL b12 (some (i53 + (1 : Int))) none) ++ [])))) := by simpa only [List.map_append, List.map_cons, List.map_nil] using (DqAll.app a91 (DqAll.cons r101 (DqAll.app a112 DqAll.nil)))
        show _ ∧ _
        refine new_tup (K := K) (M := []) eF104 a114 (by rw [DqAll.len a114, List.length_map]; exact h113) fun v119 F115 H116 g117 r118 => ?_
        have eF115 := g117.s
        have gF115 := gF104.trans (g117.weak (by simp))
        replace r_places := r_places.up g117.f
        replace r_readings := r_readings.up g117.f
        replace r5 := r5.up g117.f
        replace s10 := g117.f _ _ s10
        replace a11 := a11.up g117.f
        replace r16 := r16.up g117.f
        replace r46 := r46.up g117.f
        replace s51 := g117.f _ _ s51
        replace a52 := a52.up g117.f
        replace r62 := r62.up g117.f
        replace r69 := r69.up g117.f
        replace r76 := r76.up g117.f
        replace s81 := g117.f _ _ s81
        replace a82 := a82.up g117.f
        replace r86 := r86.up g117.f
        replace s90 := g117.f _ _ s90
        replace a91 := a91.up g117.f
        replace r96 := r96.up g117.f
        replace r101 := r101.up g117.f
        replace r107 := r107.up g117.f
        replace s111 := g117.f _ _ s111
        replace a112 := a112.up g117.f
        replace r118 : Dq K F115 v119 ((eV (e2 PyData.int PyData.int)) ((cutL b12 none (some i53)) ++ (b97 :: ((cutL b12 (some (i53 + (1 : Int))) none) ++ [])))) := r118
        exact k.h _ _ _ gF115 r118
/-! ### _law_taken -/
abbrev s_law_taken : Stmt := top 37
theorem sc_law_taken : FnScope ["_law_row", "_law_many", "_law_found", "_law_cell"] ["_law_row", "_law_many"] (defScope s_law_taken) := ⟨rfl, rfl, rfl, by decide +kernel, rfl, by decide +kernel, by decide +kernel⟩
theorem ok_law_taken {P : Program} {w : World} {K : PySem.W.Frag} {mg : Str → Option Value} {base : Heap} {f : Addr} {fd : FuncData} (B : Bi mg) (FF : FunD K "_law_taken" "_law_taken" (defArgs s_law_taken) (defBody s_law_taken) (defScope s_law_taken) [] [] f fd) : FnOk P w K mg base CX0 1 f fd ["_law_row", "_law_many"] (spTaken takenB K) := by
  refine FF.ok sc_law_taken (fun vs H Q E h => ?_) (fun cdv A outer s H vs Q E hr h => ?_)
  · obtain ⟨F, sc, ra, scr, st, many, rfl, _⟩ := h; rfl
  · obtain ⟨F, sc, ra, scr, st, many, rfl, e, ⟨hL, hF, hS⟩, k⟩ := h
    obtain ⟨pos, seed, left⟩ := st
    unfold takenB at k
    split at k
    case isFalse => exact k.elim
    rename_i hc
    obtain ⟨h1, h2, h3, h4, h5, h6⟩ := hc
    simp only at h3 h4 h5 h6 k hL
    have cd : ∀ i : Int, CDv i many := fun i => cdv_small ⟨by omega, by omega⟩
    refine ⟨_, PSs.nox (pss_cons (ps_if (pt_cmpR op_gt (pe_ix ix_list (pv 0) pe_int (fun _ _ => rfl)) pe_int (nomark _))
        (pss_cons (ps_set (i := 2) sc_law_taken.nd rfl (.inl rfl) (pe_op op_modM (pe_callTy call_intM (by rfl) B.int (by decide +kernel) (pa_cons (pe_ix ix_list (pv 0) pe_int (fun _ _ => rfl)) pa_nil)) (pv 1)))
          (pss_cons (ps_asg (pe_op op_divM (pe_ix ix_list (pv 0) pe_int (fun _ _ => rfl)) (pv 1)) (pg_sub (pv 0) pe_int set_list)) (pss_one (ps_ret (pv 2))))) pss_nil)
      (pss_cons (ps_asg (pe_op op_add (pe_ix ix_list (pv 0) pe_int (fun _ _ => rfl)) pe_int) (pg_sub (pv 0) pe_int set_list))
      (pss_cons (ps_if (pt_cmpR op_gt (pe_ix ix_list (pv 0) pe_int (fun _ _ => rfl)) (pe_callB call_lenM (by rfl) B.len (by decide +kernel) (pa_cons (pe_ix ix_list (pv 0) pe_int (fun _ _ => rfl)) pa_nil)) (nomark _))
        (pss_cons (ps_asg (pe_op op_modM (pe_callTy call_intM (by rfl) B.int (by decide +kernel) (pa_cons (pe_op op_add (pe_op op_mulM (pe_ix ix_list (pv 0) pe_int (fun _ _ => rfl)) pe_int) pe_int) pa_nil)) pe_int) (pg_sub (pv 0) pe_int set_list))
          (pss_one (ps_ret (pe_op op_modM (pe_callTy call_intM (by rfl) B.int (by decide +kernel) (pa_cons (pe_op op_divM (pe_ix ix_list (pv 0) pe_int (fun _ _ => rfl)) pe_int) pa_nil)) (pv 1))))) pss_nil)
      (pss_cons (ps_set (i := 3) sc_law_taken.nd rfl (.inl rfl) (pe_ix ix_list (pe_ix ix_list (pv 0) pe_int (fun _ _ => rfl)) (pe_op op_sub (pe_ix ix_list (pv 0) pe_int (fun _ _ => rfl)) pe_int) (fun _ _ => rfl)))
      (pss_cons (ps_asg (pe_op op_modM (pe_callTy call_intM (by rfl) B.int (by decide +kernel) (pa_cons (pe_op op_add (pe_op op_add (pe_op op_mulM (pe_ix ix_list (pv 0) pe_int (fun _ _ => rfl)) pe_int) (pv 3)) pe_int) pa_nil)) pe_int) (pg_sub (pv 0) pe_int set_list))
      (pss_cons (ps_if (pt_cmpR op_ge (pv 3) (pe_op op_pow pe_int pe_int) (nomark _)) (pss_one (ps_asg (pe_op op_divM (pv 3) (pv 1)) (pg_sub (pv 0) pe_int set_list))) pss_nil)
      (pss_one (ps_ret (pe_op op_modM (pe_callTy call_intM (by rfl) B.int (by decide +kernel) (pa_cons (pv 3) pa_nil)) (pv 1)))))))))), ?_⟩
    refine ⟨_, rfl, _, _, _, _, rfl, rfl, sq_of hL, rfl, _, _, rfl, rfl, _, rfl, ?_⟩
    by_cases c1 : left > 0
    · rw [if_pos (show left > 0 from c1)] at k
      rw [if_pos (decide_eq_true c1)]
      refine ⟨_, rfl, _, _, _, _, rfl, rfl, sq_of hL, rfl, _, rfl, _, rfl, _, _, _, rfl, rfl, by omega, rfl, ?_⟩
      refine ⟨_, rfl, _, _, _, _, rfl, rfl, sq_of hL, rfl, _, rfl, _, _, _, rfl, rfl, cd _, rfl, _, rfl, _, _, _, _, rfl, rfl, hL, rfl, _, rfl, ?_⟩
      rw [fmod_pos h1, fdiv_pos h1]
      exact k.h _ F _ (Gm.put e hL hF) ⟨rfl, upd_same, hF, hS⟩
    · rw [if_neg (show ¬ left > 0 from c1)] at k
      rw [if_neg (by simpa using c1)]
      refine ⟨_, rfl, _, _, _, _, rfl, rfl, sq_of hL, rfl, _, _, rfl, rfl, _, rfl, _, _, _, _, rfl, rfl, hL, rfl, ?_⟩
      generalize hq : upd H ra (.lst ([V.ref sc, V.int pos, V.int seed, V.int left].set (Int.toNat 1) ((fun i j => V.int (i + j)) pos 1))) = H1
      have g1 : Gm [ra] F H F H1 := by rw [← hq]; exact Gm.put e hL hF
      have l1 : H1 ra = some (.lst [.ref sc, .int (pos + 1), .int seed, .int left]) := by rw [← hq]; exact upd_same
      clear hq
      refine ⟨_, rfl, _, _, _, _, rfl, rfl, sq_of l1, rfl, _, rfl, _, _, _, _, rfl, rfl, sq_of l1, rfl, _, _, _, rfl, .inl (ex_l g1.s hS), rfl, _, _, rfl, rfl, _, rfl, ?_⟩
      cases c2 : scr[pos.toNat]? with
      | none =>
        rw [c2] at k
        have hlen : pos + 1 > ((scr.map V.int).length : Int) := by
          have := List.getElem?_eq_none_iff.mp c2
          rw [List.length_map]; omega
        rw [if_pos (decide_eq_true hlen)]
        refine ⟨_, rfl, _, _, _, _, rfl, rfl, sq_of l1, rfl, _, _, _, rfl, rfl, cmul_small (by omega) (by decide), rfl, _, _, rfl, rfl, _, rfl, _, _, _, rfl, rfl, by decide, rfl, _, rfl, _, _, _, _, rfl, rfl, l1, rfl, ?_⟩
        have es : (seed * 48271 + 11).fmod 2147483647 = seedN seed 0 := by rw [fmod_pos (by decide)]; unfold seedN; rw [Int.add_zero]
        have g2 : Gm [ra] F H F (upd H1 ra (.lst [.ref sc, .int (pos + 1), .int (seedN seed 0), .int left])) := g1.trans (Gm.put g1.s l1 hF)
        have l2 : (upd H1 ra (.lst [.ref sc, .int (pos + 1), .int (seedN seed 0), .int left])) ra = some (.lst [.ref sc, .int (pos + 1), .int (seedN seed 0), .int left]) := upd_same
        rw [es]
        refine ⟨_, rfl, _, _, _, _, rfl, rfl, sq_of l2, rfl, _, _, _, rfl, rfl, cdv_small ⟨by decide, by decide⟩, rfl, _, rfl, _, rfl, _, _, _, rfl, rfl, by omega, rfl, ?_⟩
        rw [fmod_pos h1, fdiv_pos (by decide)]
        exact k.h _ F _ g2 ⟨rfl, l2, hF, hS⟩
      | some c =>
        rw [c2] at k
        obtain ⟨hp, ec⟩ := List.getElem?_eq_some_iff.mp c2
        have hlen : ¬ pos + 1 > ((scr.map V.int).length : Int) := by rw [List.length_map]; omega
        rw [if_neg (by simpa using hlen)]
        have hat : atI (scr.map V.int) (pos + 1 - 1) = some (.int c) := by
          unfold atI ixN
          rw [if_pos (by omega), if_pos (by rw [List.length_map]; omega)]
          show (scr.map V.int)[(pos + 1 - 1).toNat]? = _
          rw [show (pos + 1 - 1) = pos by omega, List.getElem?_map, c2]; rfl
        refine ⟨_, rfl, _, _, _, _, rfl, rfl, sq_of l1, rfl, _, rfl, _, _, _, _, rfl, rfl, sq_of l1, rfl, _, _, rfl, rfl, _, _, _, _, rfl, rfl, ex_l g1.s hS, hat, ?_⟩
        refine ⟨_, rfl, _, _, _, _, rfl, rfl, sq_of l1, rfl, _, _, _, rfl, rfl, cmul_small (by omega) (by decide), rfl, _, rfl, _, _, rfl, rfl, _, _, rfl, rfl, _, rfl, _, _, _, rfl, rfl, by decide, rfl, _, rfl, _, _, _, _, rfl, rfl, l1, rfl, ?_⟩
        have es : (seed * 48271 + c + 11).fmod 2147483647 = seedN seed c := by rw [fmod_pos (by decide)]; rfl
        have g2 : Gm [ra] F H F (upd H1 ra (.lst [.ref sc, .int (pos + 1), .int (seedN seed c), .int left])) := g1.trans (Gm.put g1.s l1 hF)
        have l2 : (upd H1 ra (.lst [.ref sc, .int (pos + 1), .int (seedN seed c), .int left])) ra = some (.lst [.ref sc, .int (pos + 1), .int (seedN seed c), .int left]) := upd_same
        rw [es]
        refine ⟨_, rfl, _, _, rfl, rfl, ⟨by decide, by decide, by decide⟩, _, _, rfl, rfl, _, rfl, ?_⟩
        have fin : ∀ x, Gm [ra] F H F (upd (upd H1 ra (.lst [.ref sc, .int (pos + 1), .int (seedN seed c), .int left])) ra (.lst [.ref sc, .int (pos + 1), .int (seedN seed c), .int x])) := fun x => g2.trans (Gm.put g2.s l2 hF)
        by_cases c3 : c ≥ 10 ^ 18
        · simp only [if_pos (show c ≥ 10 ^ 18 from c3)] at k
          refine iteP (decide_eq_true c3) ?_
          refine ⟨_, rfl, _, rfl, _, _, _, rfl, rfl, cd _, rfl, _, rfl, _, _, _, _, rfl, rfl, l2, rfl, ?_⟩
          refine ⟨_, rfl, _, rfl, _, rfl, _, _, _, rfl, rfl, by omega, rfl, ?_⟩
          rw [fmod_pos h1, fdiv_pos h1]
          exact k.h _ F _ (fin _) ⟨rfl, upd_same, hF, hS⟩
        · simp only [if_neg (show ¬ c ≥ 10 ^ 18 from c3)] at k
          refine iteN (decide_eq_false c3) ?_
          refine ⟨_, rfl, _, rfl, _, rfl, _, _, _, rfl, rfl, by omega, rfl, ?_⟩
          rw [fmod_pos h1]
          exact k.h _ F _ g2 ⟨rfl, l2, hF, hS⟩

/-! ### _law_low -/
abbrev s_law_low : Stmt := top 38
theorem sc_law_low : FnScope ["_law_top", "_law_bottom", "_law_one", "_law_other"] ["_law_top", "_law_bottom"] (defScope s_law_low) := ⟨rfl, rfl, rfl, by decide +kernel, rfl, by decide +kernel, by decide +kernel⟩
def law_low (law_top : Int) (law_bottom : Int) : Mm (Int × Int) := (foldW (fun (b1 : (Int × Int)) => Mm.ok (decide (b1.2 > (0 : Int)))) (fun (b2 : (Int × Int)) => (modM b2.1 b2.2).bd fun m19 => Mm.ok (b2.2, m19)) ((absI law_bottom).toNat + 1) ((absI law_top), (absI law_bottom))).bd fun b3 => (cond (decide (law_bottom > (0 : Int))) (Mm.ok b3.1) (Mm.ok ((0 : Int) - b3.1))).bd fun b28 => (divM law_top b28).bd fun m30 => (divM law_bottom b28).bd fun m33 => Mm.ok (m30, m33)
def sp_law_low (K : PySem.W.Frag) : Sp := fun vs H Q _ => ∃ (F : Hp) (law_top : Int) (law_bottom : Int), vs = [(V.int law_top), (V.int law_bottom)] ∧ Ex F H ∧ Post (law_low law_top law_bottom) (fun r => Ret [] F H (fun F' _ v => Dq K F' v ((e2 PyData.int PyData.int) r)) Q) (fun _ => False)
theorem ok_law_low {P : Program} {w : World} {K : PySem.W.Frag} {mg : Str → Option Value} {base : Heap} {C f : Addr} {fd : FuncData} (B : Bi mg) (FF : FunD K "_law_low" "_law_low" (defArgs s_law_low) (defBody s_law_low) (defScope s_law_low) [] [] f fd) : FnOk P w K mg base CX0 1 f fd ["_law_top", "_law_bottom"] (sp_law_low K) := by
  refine FF.ok sc_law_low (fun vs H Q E h => ?_) (fun cdv A outer s H vs Q E hr h => ?_)
  · obtain ⟨F, law_top, law_bottom, rfl, _⟩ := h; rfl
  · obtain ⟨F, law_top, law_bottom, rfl, e, k⟩ := h
    unfold law_low at k
    have g_ := Gm.refl (M := []) e
    refine ⟨_, PSs.nox (pss_cons (ps_par (i := 2) (j := 3) (by rfl) sc_law_low.nd rfl rfl (by decide) rfl rfl (pa_cons (pe_callB call_abs (by rfl) B.abs (by decide +kernel) (pa_cons (pv 0) pa_nil)) (pa_cons (pe_callB call_abs (by rfl) B.abs (by decide +kernel) (pa_cons (pv 1) pa_nil)) (pa_nil))) (by rfl)) (pss_cons (ps_while PassesOwn.never (pt_cmpR op_gt (pv 3) (pe_int) (nomark _)) (pss_one (ps_par (i := 2) (j := 3) (by rfl) sc_law_low.nd rfl rfl (by decide) rfl rfl (pa_cons (pv 3) (pa_cons (pe_op op_modM (pe_callTy call_intM (by rfl) B.int (by decide +kernel) (pa_cons (pv 2) pa_nil)) (pv 3)) (pa_nil))) (by rfl)))) (pss_cons (ps_set (i := 2) sc_law_low.nd rfl (Or.inl rfl) (pe_ifExp (pt_cmpR op_gt (pv 1) (pe_int) (nomark _)) (pv 2) (pe_op op_sub (pe_int) (pv 2)))) (pss_one (ps_ret (pe_q (pe_tup (pa_cons (pe_op op_divM (pv 0) (pv 2)) (pa_cons (pe_op op_divM (pv 1) (pv 2)) (pa_nil)))))))))), ?_⟩
    refine ⟨_, rfl, _, rfl, _, rfl, _, rfl, _, _, rfl, ?_⟩
    refine while_mir (M := []) (F := F) (N := (absI law_bottom).toNat + 1) (fun b1 F' H' σ' => σ' = [some (V.int law_top), some (V.int law_bottom), some (V.int b1.1), some (V.int b1.2)]) k e rfl (fun b1 σ8 F4 H5 g6 i7 Q' kcb1 => ?_) (fun b2 σ13 F9 H10 g11 i12 nx kwb1 => ?_) (fun b3 σ18 F14 H15 g16 i17 k => ?_)
    · obtain rfl := i7
      have eF4 := g6.s
      refine ⟨_, rfl, _, _, rfl, rfl, _, rfl, ?_⟩
      exact kcb1.h _ _ g6 rfl
    · obtain rfl := i12
      have eF9 := g11.s
      refine ⟨_, rfl, _, rfl, _, rfl, _, rfl, ?_⟩
      obtain ⟨m19, c20, q21, kwb1⟩ := post_mod kwb1
      refine ⟨_, _, _, rfl, rfl, c20, q21, _, _, rfl, ?_⟩
      exact kwb1.h _ _ _ g11 rfl
    have g22 := g_.trans (g16.weak (by simp))
    have eF14 := g16.s
    obtain rfl := i17
    refine ⟨_, rfl, _, _, rfl, rfl, _, rfl, ?_⟩
    refine if_jM (M := []) (F := F14) (fun b F' H' v => v = V.int b) k (fun _ Q' kib28 => ?_) (fun _ Q' kib28 => ?_) (fun b28 v23 F24 H25 g26 r27 k => ?_)
    · have gF14_ := Gm.refl (M := []) eF14
      refine ⟨_, rfl, ?_⟩
      exact kib28.h _ _ _ gF14_ rfl
    · have gF14_ := Gm.refl (M := []) eF14
      refine ⟨_, rfl, _, _, rfl, rfl, ?_⟩
      exact kib28.h _ _ _ gF14_ rfl
    have eF24 := g26.s
    have gF24 := g22.trans (g26.weak (by simp))
    subst r27
    refine ⟨_, rfl, _, rfl, ?_⟩
    obtain ⟨m30, c31, q32, k⟩ := post_div k
    refine ⟨_, _, _, rfl, rfl, c31, q32, _, rfl, _, rfl, ?_⟩
    obtain ⟨m33, c34, q35, k⟩ := post_div k
    refine ⟨_, _, _, rfl, rfl, c34, q35, ?_⟩
    show _ ∧ _
    refine new_tup (K := K) (M := []) eF24 (.cons (Dq.int m30) (.cons (Dq.int m33) .nil)) (by show 2 ≤ 100000; decide) fun v40 F36 H37 g38 r39 => ?_
    have eF36 := g38.s
    have gF36 := gF24.trans (g38.weak (by simp))
    replace r39 : Dq K F36 v40 ((e2 PyData.int PyData.int) (m30, m33)) := r39
    exact k.h _ _ _ gF36 r39
/-! ### _law_add -/
abbrev s_law_add : Stmt := top 39
theorem sc_law_add : FnScope ["_law_one", "_law_other"] ["_law_one", "_law_other"] (defScope s_law_add) := ⟨rfl, rfl, rfl, by decide +kernel, rfl, by decide +kernel, by decide +kernel⟩
def law_add (law_one : (Int × Int)) (law_other : (Int × Int)) : Mm (Int × Int) := (mulM law_one.1 law_other.2).bd fun m13 => (mulM law_other.1 law_one.2).bd fun m16 => (mulM law_one.2 law_other.2).bd fun m19 => (law_low ((m13 + m16)) (m19)).bd fun b22 => Mm.ok b22
def sp_law_add (K : PySem.W.Frag) : Sp := fun vs H Q _ => ∃ (F : Hp) (v_law_one : V) (law_one : (Int × Int)) (v_law_other : V) (law_other : (Int × Int)), vs = [v_law_one, v_law_other] ∧ Ex F H ∧ Dq K F v_law_one ((e2 PyData.int PyData.int) law_one) ∧ Dq K F v_law_other ((e2 PyData.int PyData.int) law_other) ∧ Post (law_add law_one law_other) (fun r => Ret [] F H (fun F' _ v => Dq K F' v ((e2 PyData.int PyData.int) r)) Q) (fun _ => False)
theorem ok_law_add {P : Program} {w : World} {K : PySem.W.Frag} {mg : Str → Option Value} {base : Heap} {C f : Addr} {fd : FuncData} (B : Bi mg) (FF : FunD K "_law_add" "_law_add" (defArgs s_law_add) (defBody s_law_add) (defScope s_law_add) [] [] f fd) (G_law_low : Kn P w K mg base "_law_low" 1 ["_law_top", "_law_bottom"] (sp_law_low K)) : FnOk P w K mg base CX0 2 f fd ["_law_one", "_law_other"] (sp_law_add K) := by
  refine FF.ok sc_law_add (fun vs H Q E h => ?_) (fun cdv A outer s H vs Q E hr h => ?_)
  · obtain ⟨F, v_law_one, law_one, v_law_other, law_other, rfl, _⟩ := h; rfl
  · obtain ⟨F, v_law_one, law_one, v_law_other, law_other, rfl, e, r_law_one, r_law_other, k⟩ := h
    unfold law_add at k
    have g_ := Gm.refl (M := []) e
    refine ⟨_, PSs.nox (pss_one (ps_ret (pe_kn G_law_low (hr.mono (by decide)) (pa_cons (pe_op op_add (pe_op op_mulM (pe_ix (r := rIxT K) ix_tup (pv 0) (pe_int) (fun _ _ => rfl)) (pe_ix (r := rIxT K) ix_tup (pv 1) (pe_int) (fun _ _ => rfl))) (pe_op op_mulM (pe_ix (r := rIxT K) ix_tup (pv 1) (pe_int) (fun _ _ => rfl)) (pe_ix (r := rIxT K) ix_tup (pv 0) (pe_int) (fun _ _ => rfl)))) (pa_cons (pe_op op_mulM (pe_ix (r := rIxT K) ix_tup (pv 0) (pe_int) (fun _ _ => rfl)) (pe_ix (r := rIxT K) ix_tup (pv 1) (pe_int) (fun _ _ => rfl))) (pa_nil)))))), ?_⟩
    refine ⟨_, rfl, ?_⟩
    obtain ⟨p1, x2, x3, rfl, s4, d5, d6⟩ := dp_tup2 r_law_one
    obtain rfl := dp_int d5
    obtain rfl := dp_int d6
    refine ⟨_, _, _, _, rfl, rfl, ex_t e s4, rfl, _, rfl, ?_⟩
    obtain ⟨p7, x8, x9, rfl, s10, d11, d12⟩ := dp_tup2 r_law_other
    obtain rfl := dp_int d11
    obtain rfl := dp_int d12
    refine ⟨_, _, _, _, rfl, rfl, ex_t e s10, rfl, ?_⟩
    obtain ⟨m13, c14, q15, k⟩ := post_mul k
    refine ⟨_, _, _, rfl, rfl, c14, q15, _, rfl, ?_⟩
    refine ⟨_, _, _, _, rfl, rfl, ex_t e s10, rfl, _, rfl, ?_⟩
    refine ⟨_, _, _, _, rfl, rfl, ex_t e s4, rfl, ?_⟩
    obtain ⟨m16, c17, q18, k⟩ := post_mul k
    refine ⟨_, _, _, rfl, rfl, c17, q18, _, _, rfl, rfl, _, rfl, ?_⟩
    refine ⟨_, _, _, _, rfl, rfl, ex_t e s4, rfl, _, rfl, ?_⟩
    refine ⟨_, _, _, _, rfl, rfl, ex_t e s10, rfl, ?_⟩
    obtain ⟨m19, c20, q21, k⟩ := post_mul k
    refine ⟨_, _, _, rfl, rfl, c20, q21, ?_⟩
    refine ⟨F, (m13 + m16), m19, rfl, e, (post_bd k).mono (fun b22 k v27 F23 H24 g25 r26 => ?_) (fun _ z => z)⟩
    have eF23 := g25.s
    have gF23 := g_.trans (g25.weak (by simp))
    replace r_law_one := r_law_one.up g25.f
    replace r_law_other := r_law_other.up g25.f
    replace s4 := ex_t g25.f s4
    replace s10 := ex_t g25.f s10
    exact k.h _ _ _ gF23 r26
/-! ### _law_times -/
abbrev s_law_times : Stmt := top 40
theorem sc_law_times : FnScope ["_law_one", "_law_other"] ["_law_one", "_law_other"] (defScope s_law_times) := ⟨rfl, rfl, rfl, by decide +kernel, rfl, by decide +kernel, by decide +kernel⟩
def law_times (law_one : (Int × Int)) (law_other : (Int × Int)) : Mm (Int × Int) := (mulM law_one.1 law_other.1).bd fun m13 => (mulM law_one.2 law_other.2).bd fun m16 => (law_low (m13) (m16)).bd fun b19 => Mm.ok b19
def sp_law_times (K : PySem.W.Frag) : Sp := fun vs H Q _ => ∃ (F : Hp) (v_law_one : V) (law_one : (Int × Int)) (v_law_other : V) (law_other : (Int × Int)), vs = [v_law_one, v_law_other] ∧ Ex F H ∧ Dq K F v_law_one ((e2 PyData.int PyData.int) law_one) ∧ Dq K F v_law_other ((e2 PyData.int PyData.int) law_other) ∧ Post (law_times law_one law_other) (fun r => Ret [] F H (fun F' _ v => Dq K F' v ((e2 PyData.int PyData.int) r)) Q) (fun _ => False)
theorem ok_law_times {P : Program} {w : World} {K : PySem.W.Frag} {mg : Str → Option Value} {base : Heap} {C f : Addr} {fd : FuncData} (B : Bi mg) (FF : FunD K "_law_times" "_law_times" (defArgs s_law_times) (defBody s_law_times) (defScope s_law_times) [] [] f fd) (G_law_low : Kn P w K mg base "_law_low" 1 ["_law_top", "_law_bottom"] (sp_law_low K)) : FnOk P w K mg base CX0 2 f fd ["_law_one", "_law_other"] (sp_law_times K) := by
  refine FF.ok sc_law_times (fun vs H Q E h => ?_) (fun cdv A outer s H vs Q E hr h => ?_)
  · obtain ⟨F, v_law_one, law_one, v_law_other, law_other, rfl, _⟩ := h; rfl
  · obtain ⟨F, v_law_one, law_one, v_law_other, law_other, rfl, e, r_law_one, r_law_other, k⟩ := h
    unfold law_times at k
    have g_ := Gm.refl (M := []) e
    refine ⟨_, PSs.nox (pss_one (ps_ret (pe_kn G_law_low (hr.mono (by decide)) (pa_cons (pe_op op_mulM (pe_ix (r := rIxT K) ix_tup (pv 0) (pe_int) (fun _ _ => rfl)) (pe_ix (r := rIxT K) ix_tup (pv 1) (pe_int) (fun _ _ => rfl))) (pa_cons (pe_op op_mulM (pe_ix (r := rIxT K) ix_tup (pv 0) (pe_int) (fun _ _ => rfl)) (pe_ix (r := rIxT K) ix_tup (pv 1) (pe_int) (fun _ _ => rfl))) (pa_nil)))))), ?_⟩
    refine ⟨_, rfl, ?_⟩
    obtain ⟨p1, x2, x3, rfl, s4, d5, d6⟩ := dp_tup2 r_law_one
    obtain rfl := dp_int d5
    obtain rfl := dp_int d6
    refine ⟨_, _, _, _, rfl, rfl, ex_t e s4, rfl, _, rfl, ?_⟩
    obtain ⟨p7, x8, x9, rfl, s10, d11, d12⟩ := dp_tup2 r_law_other
    obtain rfl := dp_int d11
    obtain rfl := dp_int d12
    refine ⟨_, _, _, _, rfl, rfl, ex_t e s10, rfl, ?_⟩
    obtain ⟨m13, c14, q15, k⟩ := post_mul k
    refine ⟨_, _, _, rfl, rfl, c14, q15, _, rfl, ?_⟩
    refine ⟨_, _, _, _, rfl, rfl, ex_t e s4, rfl, _, rfl, ?_⟩
    refine ⟨_, _, _, _, rfl, rfl, ex_t e s10, rfl, ?_⟩
    obtain ⟨m16, c17, q18, k⟩ := post_mul k
    refine ⟨_, _, _, rfl, rfl, c17, q18, ?_⟩
    refine ⟨F, m13, m16, rfl, e, (post_bd k).mono (fun b19 k v24 F20 H21 g22 r23 => ?_) (fun _ z => z)⟩
    have eF20 := g22.s
    have gF20 := g_.trans (g22.weak (by simp))
    replace r_law_one := r_law_one.up g22.f
    replace r_law_other := r_law_other.up g22.f
    replace s4 := ex_t g22.f s4
    replace s10 := ex_t g22.f s10
    exact k.h _ _ _ gF20 r23
/-! ### _law_places -/
abbrev s_law_places : Stmt := top 41
theorem sc_law_places : FnScope ["_law_row", "_law_most", "_law_found", "_law_bottom", "_law_spot", "_law_k", "_law_scale"] ["_law_row", "_law_most"] (defScope s_law_places) := ⟨rfl, rfl, rfl, by decide +kernel, rfl, by decide +kernel, by decide +kernel⟩
def law_places (scr : List Int) (st : Rw) (law_most : Int) : Mm ((List (Int × Int)) × Rw) := (takenB scr st ((3 : Int))).bd fun b8 => (takenB scr b8.2 ((7 : Int))).bd fun b15 => (takenB scr b15.2 (law_most)).bd fun b22 => (rangeM ((1 : Int) + b22.1)).bd fun l30 => (foldM (fun (b31 : (Int × (List (Int × Int)) × Rw)) (x32 : Int) => (takenB scr b31.2.2 ((4 : Int))).bd fun b55 => (takenB scr b55.2 ((4 : Int))).bd fun b67 => (getM [(1 : Int), (1 : Int), (2 : Int), ((0 : Int) - (1 : Int))] b67.1).bd fun i78 => (mulM ((b31.1 + (1 : Int)) + b55.1) i78).bd fun m83 => (mulM ((1 : Int) + b8.1) i78).bd fun m86 => (guardM (b31.2.1.length < 100000)).bd fun _ => Mm.ok (((b31.1 + (1 : Int)) + b55.1), (b31.2.1 ++ [(m83, m86)]), b67.2)) ((b15.1 - (9 : Int)), [], b22.2) (rangeL 0 ((1 : Int) + b22.1).toNat)).bd fun b48 => Mm.ok (b48.2.1, b48.2.2)
def sp_law_places (K : PySem.W.Frag) : Sp := fun vs H Q _ => ∃ (F : Hp) (sc ra : Addr) (scr : List Int) (st : Rw) (law_most : Int), vs = [.ref ra, (V.int law_most)] ∧ Ex F H ∧ RowAt K sc ra scr F H st ∧ Post (law_places scr st law_most) (fun r => Ret [ra] F H (fun F' H' v => Dq K F' v ((eV (e2 PyData.int PyData.int)) r.1) ∧ RowAt K sc ra scr F' H' r.2) Q) (fun _ => False)
theorem ok_law_places {P : Program} {w : World} {K : PySem.W.Frag} {mg : Str → Option Value} {base : Heap} {C f : Addr} {fd : FuncData} (B : Bi mg) (FF : FunD K "_law_places" "_law_places" (defArgs s_law_places) (defBody s_law_places) (defScope s_law_places) [] [] f fd) (G_law_taken : Kn P w K mg base "_law_taken" 1 ["_law_row", "_law_many"] (spTaken takenB K)) : FnOk P w K mg base CX0 2 f fd ["_law_row", "_law_most"] (sp_law_places K) := by
  refine FF.ok sc_law_places (fun vs H Q E h => ?_) (fun cdv A outer s H vs Q E hr h => ?_)
  · obtain ⟨F, sc, ra, scr, st, law_most, rfl, _⟩ := h; rfl
  · obtain ⟨F, sc, ra, scr, st, law_most, rfl, e, w, k⟩ := h
    unfold law_places at k
    have g_ := Gm.refl (M := [ra]) e
    refine ⟨_, PSs.nox (pss_cons (ps_par3 (i := 2) (j := 3) (l := 4) (by rfl) sc_law_places.nd rfl rfl rfl (by decide) (by decide) (by decide) rfl rfl rfl (pa_cons (pe_q (pe_lst (pa_nil))) (pa_cons (pe_op op_add (pe_int) (pe_kn G_law_taken (hr.mono (by decide)) (pa_cons (pv 0) (pa_cons (pe_int) (pa_nil))))) (pa_cons (pe_op op_sub (pe_kn G_law_taken (hr.mono (by decide)) (pa_cons (pv 0) (pa_cons (pe_int) (pa_nil)))) (pe_int)) (pa_nil)))) (by rfl)) (pss_cons (ps_for PassesOwn.never rfl (pi_range1 rfl B.range (pa_cons (pe_op op_add (pe_int) (pe_kn G_law_taken (hr.mono (by decide)) (pa_cons (pv 0) (pa_cons (pv 1) (pa_nil))))) (pa_nil))) (pg_name (i := 5) sc_law_places.nd rfl (Or.inl rfl)) (pss_cons (ps_set (i := 4) sc_law_places.nd rfl (Or.inl rfl) (pe_op op_add (pe_op op_add (pv 4) (pe_int)) (pe_kn G_law_taken (hr.mono (by decide)) (pa_cons (pv 0) (pa_cons (pe_int) (pa_nil)))))) (pss_cons (ps_set (i := 6) sc_law_places.nd rfl (Or.inl rfl) (pe_ix (r := rIxL K) ix_list (pe_q (pe_lst (pa_cons (pe_int) (pa_cons (pe_int) (pa_cons (pe_int) (pa_cons (pe_op op_sub (pe_int) (pe_int)) (pa_nil))))))) (pe_kn G_law_taken (hr.mono (by decide)) (pa_cons (pv 0) (pa_cons (pe_int) (pa_nil)))) (fun _ _ => rfl))) (pss_one (ps_expr (pe_bm PySem.F.plainAttrs_list PySem.F.slot_list_append PySem.F.type_list_append mt_append (pv 2) (pa_cons (pe_q (pe_tup (pa_cons (pe_op op_mulM (pv 4) (pv 6)) (pa_cons (pe_op op_mulM (pv 3) (pv 6)) (pa_nil))))) pa_nil))))))) (pss_one (ps_ret (pe_q (pe_callTy call_tuple_of (by rfl) B.tuple (by decide +kernel) (pa_cons (pv 2) pa_nil))))))), ?_⟩
    show _ ∧ _
    refine new_own (K := K) e .nil (by show 0 ≤ 100000; decide) fun p1 H2 g3 y4 o5 => ?_
    have a6 : DqAll K F [] (List.map (e2 PyData.int PyData.int) []) := .nil
    have np1 := ne_of_none w.1 y4
    have mp1 := np1.symm
    have zp1 := g_.fresh y4
    have eH2 := g3.s
    have gH2 := g_.trans (g3.weak (by simp))
    replace w := w.keep g3
    refine ⟨_, rfl, ?_⟩
    refine ⟨F, sc, ra, scr, st, (3 : Int), rfl, eH2, w, (post_bd k).mono (fun b8 k v13 F9 H10 g11 ⟨r12, w14⟩ => ?_) (fun _ z => z)⟩
    have eF9 := g11.s
    have gF9 := gH2.trans (g11.weak (by simp))
    replace o5 := g11.own (by simp [*]) o5.1 o5.2
    replace a6 := a6.up g11.f
    subst r12
    refine ⟨_, _, rfl, rfl, _, rfl, ?_⟩
    refine ⟨F9, sc, ra, scr, b8.2, (7 : Int), rfl, eF9, w14, (post_bd k).mono (fun b15 k v20 F16 H17 g18 ⟨r19, w21⟩ => ?_) (fun _ z => z)⟩
    have eF16 := g18.s
    have gF16 := gF9.trans (g18.weak (by simp))
    replace o5 := g18.own (by simp [*]) o5.1 o5.2
    replace a6 := a6.up g18.f
    subst r19
    refine ⟨_, _, rfl, rfl, _, _, _, rfl, ?_⟩
    refine ⟨_, rfl, _, rfl, ?_⟩
    refine ⟨F16, sc, ra, scr, b15.2, law_most, rfl, eF16, w21, (post_bd k).mono (fun b22 k v27 F23 H24 g25 ⟨r26, w28⟩ => ?_) (fun _ z => z)⟩
    have eF23 := g25.s
    have gF23 := gF16.trans (g25.weak (by simp))
    replace o5 := g25.own (by simp [*]) o5.1 o5.2
    replace a6 := a6.up g25.f
    subst r26
    refine ⟨_, _, rfl, rfl, ?_⟩
    obtain ⟨h29, k⟩ := post_range k
    refine ⟨_, rfl, h29.1, h29.2, ?_⟩
    refine for_m (M := [p1, ra]) (F := F23) wlk_range (fun b31 F' H' σ' => ∃ (u5 : Option V) (u6 : Option V) (xs2 : List V), σ' = [some (V.ref ra), some (V.int law_most), some (V.ref p1), some (V.int ((1 : Int) + b8.1)), some (V.int b31.1), u5, u6] ∧ (H' p1 = some (.lst xs2) ∧ F' p1 = none) ∧ DqAll K F' xs2 (List.map (e2 PyData.int PyData.int) b31.2.1) ∧ RowAt K sc ra scr F' H' b31.2.2) k eF23 ⟨_, _, _, rfl, o5, a6, w28⟩ (fun b31 x32 v40 σ42 F33 H34 F35 H36 g37 i41 g38 r39 nx kfb31 => ?_) (fun b48 σ47 F43 H44 g45 i46 k => ?_)
    · obtain ⟨u49, u50, xs51, rfl, o52, a53, w54⟩ := i41
      replace o52 := g38.own (by simp [*]) o52.1 o52.2
      replace a53 := a53.up g38.f
      replace w54 := w54.keep g38
      have eF35 := g38.s
      have gF35 := g37.trans (g38.weak (by simp))
      subst r39
      refine ⟨_, rfl, _, _, rfl, rfl, _, rfl, ?_⟩
      refine ⟨F35, sc, ra, scr, b31.2.2, (4 : Int), rfl, eF35, w54, (post_bd kfb31).mono (fun b55 kfb31 v60 F56 H57 g58 ⟨r59, w61⟩ => ?_) (fun _ z => z)⟩
      have eF56 := g58.s
      have gF56 := gF35.trans (g58.weak (by simp))
      replace o52 := g58.own (by simp [*]) o52.1 o52.2
      replace a53 := a53.up g58.f
      subst r59
      refine ⟨_, _, rfl, rfl, ?_⟩
      refine ⟨_, _, rfl, rfl, ?_⟩
      show _ ∧ _
      refine new_lst (K := K) (M := []) eF56 (.cons (Dq.int (1 : Int)) (.cons (Dq.int (1 : Int)) (.cons (Dq.int (2 : Int)) (.cons (Dq.int ((0 : Int) - (1 : Int))) .nil)))) (by show 4 ≤ 100000; decide) fun v66 F62 H63 g64 r65 => ?_
      have eF62 := g64.s
      have gF62 := gF56.trans (g64.weak (by simp))
      replace o52 := g64.own (by simp [*]) o52.1 o52.2
      replace a53 := a53.up g64.f
      replace w61 := w61.keep g64
      replace r65 : Dq K F62 v66 ((eL PyData.int) [(1 : Int), (1 : Int), (2 : Int), ((0 : Int) - (1 : Int))]) := r65
      refine ⟨_, rfl, ?_⟩
      refine ⟨F62, sc, ra, scr, b55.2, (4 : Int), rfl, eF62, w61, (post_bd kfb31).mono (fun b67 kfb31 v72 F68 H69 g70 ⟨r71, w73⟩ => ?_) (fun _ z => z)⟩
      have eF68 := g70.s
      have gF68 := gF62.trans (g70.weak (by simp))
      replace o52 := g70.own (by simp [*]) o52.1 o52.2
      replace a53 := a53.up g70.f
      replace r65 := r65.up g70.f
      subst r71
      obtain ⟨p74, xs75, rfl, s76, a77⟩ := dp_lst r65
      obtain ⟨i78, h79, kfb31⟩ := post_get kfb31
      obtain ⟨v80, h81, r82⟩ := dq_at a77 h79
      refine ⟨_, _, _, _, rfl, rfl, (sq_of (eF68 _ _ s76)), h81, ?_⟩
      obtain rfl := dp_int r82
      refine ⟨_, rfl, .inl ⟨rfl, _, sq_of o52.1⟩, _, rfl, _, rfl, ?_⟩
      obtain ⟨m83, c84, q85, kfb31⟩ := post_mul kfb31
      refine ⟨_, _, _, rfl, rfl, c84, q85, _, rfl, _, rfl, ?_⟩
      obtain ⟨m86, c87, q88, kfb31⟩ := post_mul kfb31
      refine ⟨_, _, _, rfl, rfl, c87, q88, ?_⟩
      show _ ∧ _
      refine new_tup (K := K) (M := []) eF68 (.cons (Dq.int m83) (.cons (Dq.int m86) .nil)) (by show 2 ≤ 100000; decide) fun v93 F89 H90 g91 r92 => ?_
      have eF89 := g91.s
      have gF89 := gF68.trans (g91.weak (by simp))
      replace o52 := g91.own (by simp [*]) o52.1 o52.2
      replace a53 := a53.up g91.f
      replace r65 := r65.up g91.f
      replace w73 := w73.keep g91
      replace s76 := g91.f _ _ s76
      replace a77 := a77.up g91.f
      replace r92 : Dq K F89 v93 ((e2 PyData.int PyData.int) (m83, m86)) := r92
      obtain ⟨h94, kfb31⟩ := post_guard kfb31
      refine ⟨_, _, _, rfl, rfl, o52.1, own_sz a53 h94, ?_⟩
      have g95 := gF89.putOr (o := .lst (xs51 ++ [v93])) (.inl (by simp)) o52.1 o52.2
      replace w73 := w73.put np1 (o := .lst (xs51 ++ [v93]))
      replace o52 : (upd H90 p1 (.lst (xs51 ++ [v93]))) p1 = some (.lst (xs51 ++ [v93])) ∧ F89 p1 = none := ⟨upd_same, o52.2⟩
      replace a53 : DqAll K F89 (xs51 ++ [v93]) (List.map (e2 PyData.int PyData.int) (b31.2.1 ++ [(m83, m86)])) := by rw [List.map_append]; exact a53.app (.cons r92 .nil)
      have e96 := g95.s
      exact kfb31.h _ _ _ g95 ⟨_, _, _, rfl, o52, a53, w73⟩
    have hy98 : ∀ q ∈ [p1], q ∈ [ra] ∨ H q = none := by intro q hq; simp only [List.mem_cons, List.not_mem_nil, or_false] at hq; rcases hq with rfl; exact (.inr zp1)
    have g97 := Gm.outs [p1] hy98 gF23 (g45.weak (by simp))
    have eF43 := g45.s
    obtain ⟨u99, u100, xs101, rfl, o102, a103, w104⟩ := i46
    refine ⟨_, rfl, ?_⟩
    refine to_VO (K := K) (M := []) eF43 o102.1 a103 (en := (e2 PyData.int PyData.int)) (l := b48.2.1) fun v109 F105 H106 g107 r108 => ?_
    have eF105 := g107.s
    have gF105 := g97.trans (g107.weak (by simp))
    replace o102 := g107.own (by simp [*]) o102.1 o102.2
    replace a103 := a103.up g107.f
    replace w104 := w104.keep g107
    exact k.h _ _ _ gF105 ⟨r108, w104⟩
/-! ### _law_worth -/
abbrev s_law_worth : Stmt := top 42
theorem sc_law_worth : FnScope ["_law_polynomial", "_law_place", "_law_found", "_law_k"] ["_law_polynomial", "_law_place"] (defScope s_law_worth) := ⟨rfl, rfl, rfl, by decide +kernel, rfl, by decide +kernel, by decide +kernel⟩
def law_worth (law_polynomial : (List (Int × Int))) (law_place : (Int × Int)) : Mm (Int × Int) := (rangeM3 ((law_polynomial.length : Int) - (1 : Int)) ((0 : Int) - (1 : Int))).bd fun l11 => (foldM (fun (b12 : (Int × Int)) (x13 : Int) => (law_times (b12) (law_place)).bd fun b33 => (getM law_polynomial x13).bd fun i40 => (law_add (b33) (i40)).bd fun b45 => Mm.ok b45) ((0 : Int), (1 : Int)) (rangeDn ((law_polynomial.length : Int) - (1 : Int)) (((law_polynomial.length : Int) - (1 : Int)) - ((0 : Int) - (1 : Int))).toNat)).bd fun b29 => Mm.ok b29
def sp_law_worth (K : PySem.W.Frag) : Sp := fun vs H Q _ => ∃ (F : Hp) (v_law_polynomial : V) (law_polynomial : (List (Int × Int))) (v_law_place : V) (law_place : (Int × Int)), vs = [v_law_polynomial, v_law_place] ∧ Ex F H ∧ Dq K F v_law_polynomial ((eV (e2 PyData.int PyData.int)) law_polynomial) ∧ Dq K F v_law_place ((e2 PyData.int PyData.int) law_place) ∧ Post (law_worth law_polynomial law_place) (fun r => Ret [] F H (fun F' _ v => Dq K F' v ((e2 PyData.int PyData.int) r)) Q) (fun _ => False)
theorem ok_law_worth {P : Program} {w : World} {K : PySem.W.Frag} {mg : Str → Option Value} {base : Heap} {C f : Addr} {fd : FuncData} (B : Bi mg) (FF : FunD K "_law_worth" "_law_worth" (defArgs s_law_worth) (defBody s_law_worth) (defScope s_law_worth) [] [] f fd) (G_law_add : Kn P w K mg base "_law_add" 2 ["_law_one", "_law_other"] (sp_law_add K)) (G_law_times : Kn P w K mg base "_law_times" 2 ["_law_one", "_law_other"] (sp_law_times K)) : FnOk P w K mg base CX0 3 f fd ["_law_polynomial", "_law_place"] (sp_law_worth K) := by
  refine FF.ok sc_law_worth (fun vs H Q E h => ?_) (fun cdv A outer s H vs Q E hr h => ?_)
  · obtain ⟨F, v_law_polynomial, law_polynomial, v_law_place, law_place, rfl, _⟩ := h; rfl
  · obtain ⟨F, v_law_polynomial, law_polynomial, v_law_place, law_place, rfl, e, r_law_polynomial, r_law_place, k⟩ := h
    unfold law_worth at k
    have g_ := Gm.refl (M := []) e
    refine ⟨_, PSs.nox (pss_cons (ps_set (i := 2) sc_law_worth.nd rfl (Or.inl rfl) (pe_q (pe_tup (pa_cons (pe_int) (pa_cons (pe_int) (pa_nil)))))) (pss_cons (ps_for PassesOwn.never rfl (pi_range3 rfl B.range (pa_cons (pe_op op_sub (pe_callB call_lenM (by rfl) B.len (by decide +kernel) (pa_cons (pv 0) pa_nil)) (pe_int)) (pa_cons (pe_op op_sub (pe_int) (pe_int)) (pa_cons (pe_op op_sub (pe_int) (pe_int)) (pa_nil))))) (pg_name (i := 3) sc_law_worth.nd rfl (Or.inl rfl)) (pss_one (ps_set (i := 2) sc_law_worth.nd rfl (Or.inl rfl) (pe_kn G_law_add (hr.mono (by decide)) (pa_cons (pe_kn G_law_times (hr.mono (by decide)) (pa_cons (pv 2) (pa_cons (pv 1) (pa_nil)))) (pa_cons (pe_ix (r := rIxT K) ix_tup (pv 0) (pv 3) (fun _ _ => rfl)) (pa_nil))))))) (pss_one (ps_ret (pv 2))))), ?_⟩
    show _ ∧ _
    refine new_tup (K := K) (M := []) e (.cons (Dq.int (0 : Int)) (.cons (Dq.int (1 : Int)) .nil)) (by show 2 ≤ 100000; decide) fun v5 F1 H2 g3 r4 => ?_
    have eF1 := g3.s
    have gF1 := g_.trans (g3.weak (by simp))
    replace r_law_polynomial := r_law_polynomial.up g3.f
    replace r_law_place := r_law_place.up g3.f
    replace r4 : Dq K F1 v5 ((e2 PyData.int PyData.int) ((0 : Int), (1 : Int))) := r4
    refine ⟨_, rfl, ?_⟩
    obtain ⟨p6, xs7, rfl, s8, a9⟩ := dp_tup r_law_polynomial
    refine ⟨_, _, _, rfl, .inr (ex_t eF1 s8), len_all a9, _, _, rfl, rfl, _, _, rfl, rfl, _, _, rfl, rfl, ?_⟩
    obtain ⟨h10, k⟩ := post_range3 k
    refine ⟨_, _, -1, _, rfl, h10, ?_⟩
    refine for_m (M := []) (F := F1) wlk_rangeDn (fun b12 F' H' σ' => ∃ (c2 : V) (u3 : Option V), σ' = [some (V.ref p6), some v_law_place, some c2, u3] ∧ Dq K F' c2 ((e2 PyData.int PyData.int) b12)) k eF1 ⟨_, _, rfl, r4⟩ (fun b12 x13 v21 σ23 F14 H15 F16 H17 g18 i22 g19 r20 nx kfb12 => ?_) (fun b29 σ28 F24 H25 g26 i27 k => ?_)
    · replace r_law_polynomial := r_law_polynomial.up g18.f
      replace r_law_place := r_law_place.up g18.f
      replace r4 := r4.up g18.f
      replace s8 := ex_t g18.f s8
      replace a9 := a9.up g18.f
      obtain ⟨c30, u31, rfl, r32⟩ := i22
      replace r_law_polynomial := r_law_polynomial.up g19.f
      replace r_law_place := r_law_place.up g19.f
      replace s8 := ex_t g19.f s8
      replace a9 := a9.up g19.f
      replace r32 := r32.up g19.f
      have eF16 := g19.s
      have gF16 := g18.trans (g19.weak (by simp))
      subst r20
      refine ⟨_, rfl, _, rfl, ?_⟩
      refine ⟨F16, _, b12, _, law_place, rfl, eF16, r32, r_law_place, (post_bd kfb12).mono (fun b33 kfb12 v38 F34 H35 g36 r37 => ?_) (fun _ z => z)⟩
      have eF34 := g36.s
      have gF34 := gF16.trans (g36.weak (by simp))
      replace r_law_polynomial := r_law_polynomial.up g36.f
      replace r_law_place := r_law_place.up g36.f
      replace s8 := ex_t g36.f s8
      replace a9 := a9.up g36.f
      replace r32 := r32.up g36.f
      refine ⟨_, rfl, _, rfl, ?_⟩
      obtain ⟨i40, h41, kfb12⟩ := post_get kfb12
      obtain ⟨v42, h43, r44⟩ := dq_at a9 h41
      refine ⟨_, _, _, _, rfl, rfl, (ex_t eF34 s8), h43, ?_⟩
      refine ⟨F34, _, b33, _, i40, rfl, eF34, r37, r44, (post_bd kfb12).mono (fun b45 kfb12 v50 F46 H47 g48 r49 => ?_) (fun _ z => z)⟩
      have eF46 := g48.s
      have gF46 := gF34.trans (g48.weak (by simp))
      replace r_law_polynomial := r_law_polynomial.up g48.f
      replace r_law_place := r_law_place.up g48.f
      replace s8 := ex_t g48.f s8
      replace a9 := a9.up g48.f
      replace r32 := r32.up g48.f
      replace r37 := r37.up g48.f
      replace r44 := r44.up g48.f
      exact kfb12.h _ _ _ gF46 ⟨_, _, rfl, r49⟩
    have g52 := gF1.trans (g26.weak (by simp))
    replace r_law_polynomial := r_law_polynomial.up g26.f
    replace r_law_place := r_law_place.up g26.f
    replace r4 := r4.up g26.f
    replace s8 := ex_t g26.f s8
    replace a9 := a9.up g26.f
    have eF24 := g26.s
    obtain ⟨c53, u54, rfl, r55⟩ := i27
    refine ⟨_, rfl, ?_⟩
    exact k.h _ _ _ g52 r55
/-! ### _law_fractions -/
abbrev s_law_fractions : Stmt := top 43
theorem sc_law_fractions : FnScope ["_law_row", "_law_count", "_law_k"] ["_law_row", "_law_count"] (defScope s_law_fractions) := ⟨rfl, rfl, rfl, by decide +kernel, rfl, by decide +kernel, by decide +kernel⟩
def law_fractions (scr : List Int) (st : Rw) (law_count : Int) : Mm ((List (Int × Int)) × Rw) := (rangeM law_count).bd fun l2 => (guardM ((rangeL 0 law_count.toNat).length ≤ 50000)).bd fun _ => (mapSt (fun (st12 : Rw) (x5 : Int) => (takenB scr st12 ((41 : Int))).bd fun b24 => (takenB scr b24.2 ((5 : Int))).bd fun b36 => (getM [(1 : Int), (1 : Int), (2 : Int), (6 : Int), ((0 : Int) - (4 : Int))] b36.1).bd fun i47 => Mm.ok (((b24.1 - (20 : Int)), i47), b36.2)) st (rangeL 0 law_count.toNat)).bd fun b4 => Mm.ok (b4.1, b4.2)
def sp_law_fractions (K : PySem.W.Frag) : Sp := fun vs H Q _ => ∃ (F : Hp) (sc ra : Addr) (scr : List Int) (st : Rw) (law_count : Int), vs = [.ref ra, (V.int law_count)] ∧ Ex F H ∧ RowAt K sc ra scr F H st ∧ Post (law_fractions scr st law_count) (fun r => Ret [ra] F H (fun F' H' v => Dq K F' v ((eV (e2 PyData.int PyData.int)) r.1) ∧ RowAt K sc ra scr F' H' r.2) Q) (fun _ => False)
theorem ok_law_fractions {P : Program} {w : World} {K : PySem.W.Frag} {mg : Str → Option Value} {base : Heap} {C f : Addr} {fd : FuncData} (B : Bi mg) (FF : FunD K "_law_fractions" "_law_fractions" (defArgs s_law_fractions) (defBody s_law_fractions) (defScope s_law_fractions) [] [] f fd) (G_law_taken : Kn P w K mg base "_law_taken" 1 ["_law_row", "_law_many"] (spTaken takenB K)) : FnOk P w K mg base CX0 2 f fd ["_law_row", "_law_count"] (sp_law_fractions K) := by
  refine FF.ok sc_law_fractions (fun vs H Q E h => ?_) (fun cdv A outer s H vs Q E hr h => ?_)
  · obtain ⟨F, sc, ra, scr, st, law_count, rfl, _⟩ := h; rfl
  · obtain ⟨F, sc, ra, scr, st, law_count, rfl, e, w, k⟩ := h
    unfold law_fractions at k
    have g_ := Gm.refl (M := [ra]) e
    refine ⟨_, PSs.nox (pss_one (ps_ret (pe_q (pe_callTy call_tuple_of (by rfl) B.tuple (by decide +kernel) (pa_cons (pe_q (pe_lc (own := [("_law_k", 2)]) (g := gName 2) rfl sc_law_fractions.nd (pi_range1 rfl B.range (pa_cons (pv 1) (pa_nil))) (blkOk_by (N := ["_law_row", "_law_count", "_law_k"]) (sc := defScope s_law_fractions) (by decide +kernel)) (fun _ _ _ _ _ => pg_name (i := 2) sc_law_fractions.nd rfl (Or.inl rfl)) (fun _ _ _ _ _ => pts_nil) (fun _ _ _ _ _ => pe_q (pe_tup (pa_cons (pe_op op_sub (pe_kn G_law_taken (hr.mono (by decide)) (pa_cons (pv 0) (pa_cons (pe_int) (pa_nil)))) (pe_int)) (pa_cons (pe_ix (r := rIxL K) ix_list (pe_q (pe_lst (pa_cons (pe_int) (pa_cons (pe_int) (pa_cons (pe_int) (pa_cons (pe_int) (pa_cons (pe_op op_sub (pe_int) (pe_int)) (pa_nil)))))))) (pe_kn G_law_taken (hr.mono (by decide)) (pa_cons (pv 0) (pa_cons (pe_int) (pa_nil)))) (fun _ _ => rfl)) (pa_nil))))))) pa_nil))))), ?_⟩
    refine ⟨_, rfl, ?_⟩
    obtain ⟨h1, k⟩ := post_range k
    refine ⟨_, rfl, h1.1, h1.2, ?_⟩
    obtain ⟨h22, k⟩ := post_guard k
    refine lc_st (K := K) wlk_range (e2 PyData.int PyData.int) k e h22 w (fun st12 x5 v20 F13 H14 F15 H16 g17 w21 g18 r19 Q' k3 => ?_) (fun _ z => z) (fun b4 v6 F7 H8 g9 ⟨r10, w11⟩ k => ?_) gm_name
    · have g23 := Gm.refl (M := [ra]) g17.s
      clear w
      replace w21 := w21.keep g18
      have eF15 := g18.s
      have gF15 := g23.trans (g18.weak (by simp))
      subst r19
      refine ⟨rfl, _, rfl, ?_⟩
      refine ⟨F15, sc, ra, scr, st12, (41 : Int), rfl, eF15, w21, (post_bd k3).mono (fun b24 k3 v29 F25 H26 g27 ⟨r28, w30⟩ => ?_) (fun _ z => z)⟩
      have eF25 := g27.s
      have gF25 := gF15.trans (g27.weak (by simp))
      subst r28
      refine ⟨_, _, rfl, rfl, _, _, rfl, rfl, ?_⟩
      show _ ∧ _
      refine new_lst (K := K) (M := []) eF25 (.cons (Dq.int (1 : Int)) (.cons (Dq.int (1 : Int)) (.cons (Dq.int (2 : Int)) (.cons (Dq.int (6 : Int)) (.cons (Dq.int ((0 : Int) - (4 : Int))) .nil))))) (by show 5 ≤ 100000; decide) fun v35 F31 H32 g33 r34 => ?_
      have eF31 := g33.s
      have gF31 := gF25.trans (g33.weak (by simp))
      replace w30 := w30.keep g33
      replace r34 : Dq K F31 v35 ((eL PyData.int) [(1 : Int), (1 : Int), (2 : Int), (6 : Int), ((0 : Int) - (4 : Int))]) := r34
      refine ⟨_, rfl, ?_⟩
      refine ⟨F31, sc, ra, scr, b24.2, (5 : Int), rfl, eF31, w30, (post_bd k3).mono (fun b36 k3 v41 F37 H38 g39 ⟨r40, w42⟩ => ?_) (fun _ z => z)⟩
      have eF37 := g39.s
      have gF37 := gF31.trans (g39.weak (by simp))
      replace r34 := r34.up g39.f
      subst r40
      obtain ⟨p43, xs44, rfl, s45, a46⟩ := dp_lst r34
      obtain ⟨i47, h48, k3⟩ := post_get k3
      obtain ⟨v49, h50, r51⟩ := dq_at a46 h48
      refine ⟨_, _, _, _, rfl, rfl, (sq_of (eF37 _ _ s45)), h50, ?_⟩
      obtain rfl := dp_int r51
      show _ ∧ _
      refine new_tup (K := K) (M := []) eF37 (.cons (Dq.int (b24.1 - (20 : Int))) (.cons (Dq.int i47) .nil)) (by show 2 ≤ 100000; decide) fun v56 F52 H53 g54 r55 => ?_
      have eF52 := g54.s
      have gF52 := gF37.trans (g54.weak (by simp))
      replace r34 := r34.up g54.f
      replace w42 := w42.keep g54
      replace s45 := g54.f _ _ s45
      replace a46 := a46.up g54.f
      replace r55 : Dq K F52 v56 ((e2 PyData.int PyData.int) ((b24.1 - (20 : Int)), i47)) := r55
      exact k3.h _ _ _ gF52 ⟨r55, w42⟩
    have eF7 := g9.s
    have gF7 := g_.trans (g9.weak (by simp))
    obtain ⟨p58, xs59, rfl, s60, a61⟩ := dp_lst r10
    refine to_VL (K := K) (M := []) eF7 s60 a61 (en := (e2 PyData.int PyData.int)) (l := b4.1) fun v66 F62 H63 g64 r65 => ?_
    have eF62 := g64.s
    have gF62 := gF7.trans (g64.weak (by simp))
    replace w11 := w11.keep g64
    replace r10 := r10.up g64.f
    replace s60 := g64.f _ _ s60
    replace a61 := a61.up g64.f
    exact k.h _ _ _ gF62 ⟨r65, w11⟩
/-! ### law -/
abbrev s_law : Stmt := top 44
theorem sc_law : FnScope ["_law_script", "_law_row", "_law_turn", "_law_places_here", "_law_degree", "_law_some", "_law_true", "_law_many", "_law_k", "_law_readings", "_law_found", "_law_mended", "_law_wider", "_law_others", "_law_is_one", "_law_place", "_law_j", "_law_one"] ["_law_script"] (defScope s_law) := ⟨rfl, rfl, rfl, by decide +kernel, rfl, by decide +kernel, by decide +kernel⟩
def law (scr : List Int) : Mm Bool := (rangeM (4 : Int)).bd fun l2 => (foldL (R := Bool) (fun (b3 : Rw) (x4 : Int) => (law_places scr b3 ((6 : Int))).bd fun b38 => (takenB scr b38.2 ((4 : Int))).bd fun b45 => (law_fractions scr b45.2 ((b45.1 + (1 : Int)))).bd fun b52 => (guardM (b38.1.length ≤ 50000)).bd fun _ => (mapMm (fun (x65 : (Int × Int)) => (law_worth (b52.1) (x65)).bd fun b84 => Mm.ok b84) b38.1).bd fun b64 => (repaired (b38.1) (b64) (b45.1)).bd fun b101 => (cond (!(decide (b101 = (some b64)))) (Mm.ok true) ((false_ones (b38.1) (b64) (b45.1)).bd fun b112 => (guardM (0 ≤ (b38.1.length : Int) ∧ (b38.1.length : Int) ≤ 100000)).bd fun _ => Mm.ok (!(decide (b112 = (rangeL 0 ((b38.1.length : Int)).toNat)))))).bd fun b108 => cond b108 (Mm.ok (Fl.ret false)) ((rangeM (b38.1.length : Int)).bd fun l135 => (foldL (R := Bool) (fun (b136 : Rw) (x137 : Int) => (getM b64 x137).bd fun i175 => (takenB scr b136 ((9 : Int))).bd fun b180 => (takenB scr b180.2 ((3 : Int))).bd fun b187 => (law_add (i175) ((((1 : Int) + b180.1), ((1 : Int) + b187.1)))).bd fun b199 => (setM b64 x137 b199).bd fun m206 => (false_ones (b38.1) (m206) (b45.1)).bd fun b217 => (repaired (b38.1) (m206) (b45.1)).bd fun b224 => cond (!(hasM b217 x137)) (Mm.ok (Fl.ret false)) ((cond (decide ((b38.1.length : Int) > (b45.1 + (2 : Int)))) (Mm.ok ((!(decide (b217 = [x137]))) || (!(decide (b224 = (some b64)))))) (Mm.ok false)).bd fun b231 => cond b231 (Mm.ok (Fl.ret false)) ((cond (decide ((b38.1.length : Int) = (b45.1 + (2 : Int)))) ((guardM (0 ≤ (b38.1.length : Int) ∧ (b38.1.length : Int) ≤ 100000)).bd fun _ => Mm.ok ((!(decide (b217 = (rangeL 0 ((b38.1.length : Int)).toNat)))) || (!b224.isNone))) (Mm.ok false)).bd fun b240 => cond b240 (Mm.ok (Fl.ret false)) (cond ((decide ((b38.1.length : Int) < (b45.1 + (2 : Int)))) && (!(decide (b224 = (some m206))))) (Mm.ok (Fl.ret false)) ((cond (!b224.isNone) ((getO b224).bd fun a263 => (polynomial_by (b38.1) (a263)).bd fun b265 => Mm.ok (decide ((b265.length : Int) > (b45.1 + (1 : Int))))) (Mm.ok false)).bd fun b259 => cond b259 (Mm.ok (Fl.ret false)) ((false_ones (b38.1) (m206) ((minI (4 : Int) (b45.1 + (1 : Int))))).bd fun b276 => (guardM (b217.length ≤ 50000)).bd fun _ => (filMm (fun (x289 : Int) => cond (!(hasM b276 x289)) (Mm.ok (some x289)) (Mm.ok none)) b217).bd fun b288 => cond (!(decide (b288 = []))) (Mm.ok (Fl.ret false)) (Mm.ok (Fl.go b187.2)))))))) b52.2 (rangeL 0 (b38.1.length : Int).toNat)).bd fun o => o.el (fun b153 => (law_fractions scr b153 ((b38.1.length : Int))).bd fun b326 => (repaired (b38.1) (b326.1) (b45.1)).bd fun b333 => (cond (!b333.isNone) ((getO b333).bd fun a344 => (repaired (b38.1) (a344) (b45.1)).bd fun b346 => Mm.ok (!(decide (b346 = (some a344))))) (Mm.ok false)).bd fun b340 => cond b340 (Mm.ok (Fl.ret false)) ((polynomial_by (b38.1) (b326.1)).bd fun b353 => (guardM (b326.1.length ≤ 50000)).bd fun _ => (mapMm (fun (x370 : (Int × Int)) => (law_low (x370.1) (x370.2)).bd fun b395 => Mm.ok b395) b326.1).bd fun b369 => cond (!(decide ((decide ((b353.length : Int) ≤ (b45.1 + (1 : Int)))) = (decide (b333 = (some b369)))))) (Mm.ok (Fl.ret false)) (Mm.ok (Fl.go b326.2)))) (fun r => Mm.ok (Fl.ret r)))) (Rw.mk 0 0 0) (rangeL 0 (4 : Int).toNat)).bd fun o => o.el (fun b20 => Mm.ok true) (fun r => Mm.ok r)
def sp_law (K : PySem.W.Frag) : Sp := fun vs H Q _ => ∃ (sc : Addr) (scr : List Int), vs = [.ref sc] ∧ SqL K H sc (scr.map V.int) ∧ Post (law scr) (fun r => ∀ H', Q (.bl r) H') (fun _ => False)
theorem ok_law {P : Program} {w : World} {K : PySem.W.Frag} {mg : Str → Option Value} {base : Heap} {C f : Addr} {fd : FuncData} (B : Bi mg) (FF : FunD K "law" "law" (defArgs s_law) (defBody s_law) (defScope s_law) [] [] f fd) (G_law_places : Kn P w K mg base "_law_places" 2 ["_law_row", "_law_most"] (sp_law_places K)) (G_law_taken : Kn P w K mg base "_law_taken" 1 ["_law_row", "_law_many"] (spTaken takenB K)) (G_law_fractions : Kn P w K mg base "_law_fractions" 2 ["_law_row", "_law_count"] (sp_law_fractions K)) (G_law_worth : Kn P w K mg base "_law_worth" 3 ["_law_polynomial", "_law_place"] (sp_law_worth K)) (G_repaired : Kn P w K mg base "repaired" 9 ["places", "readings", "degree"] (sp_repaired K)) (G_false_ones : Kn P w K mg base "false_ones" 9 ["places", "readings", "degree"] (sp_false_ones K)) (G_law_add : Kn P w K mg base "_law_add" 2 ["_law_one", "_law_other"] (sp_law_add K)) (G_polynomial_by : Kn P w K mg base "polynomial_by" 7 ["places", "readings"] (sp_polynomial_by K)) (G_law_low : Kn P w K mg base "_law_low" 1 ["_law_top", "_law_bottom"] (sp_law_low K)) : FnOk P w K mg base CX0 10 f fd ["_law_script"] (sp_law K) := by
  refine FF.ok sc_law (fun vs H Q E h => ?_) (fun cdv A outer s H vs Q E hr h => ?_)
  · obtain ⟨sc, scr, rfl, _⟩ := h; rfl
  · obtain ⟨sc, scr, rfl, hs, k⟩ := h
    unfold law at k
    refine ⟨_, PSs.nox (pss_cons (ps_set (i := 1) sc_law.nd rfl (Or.inl rfl) (pe_q (pe_lst (pa_cons (pv 0) (pa_cons pe_int (pa_cons pe_int (pa_cons pe_int pa_nil))))))) (pss_cons (ps_for PassesOwn.never rfl (pi_range1 rfl B.range (pa_cons (pe_int) (pa_nil))) (pg_name (i := 2) sc_law.nd rfl (Or.inl rfl)) (pss_cons (ps_par (i := 3) (j := 4) (by rfl) sc_law.nd rfl rfl (by decide) rfl rfl (pa_cons (pe_kn G_law_places (hr.mono (by decide)) (pa_cons (pv 1) (pa_cons (pe_int) (pa_nil)))) (pa_cons (pe_kn G_law_taken (hr.mono (by decide)) (pa_cons (pv 1) (pa_cons (pe_int) (pa_nil)))) (pa_nil))) (by rfl)) (pss_cons (ps_set (i := 5) sc_law.nd rfl (Or.inr rfl) (pe_kn G_law_fractions (hr.mono (by decide)) (pa_cons (pv 1) (pa_cons (pe_op op_add (pv 4) (pe_int)) (pa_nil))))) (pss_cons (ps_set (i := 6) sc_law.nd rfl (Or.inl rfl) (pe_q (pe_callTy call_tuple_of (by rfl) B.tuple (by decide +kernel) (pa_cons (pe_q (pe_lc (own := [("_law_place", 15)]) (g := gName 15) rfl sc_law.nd (pi_tup (pv 3)) (blkOk_by (N := ["_law_script", "_law_row", "_law_turn", "_law_places_here", "_law_degree", "_law_some", "_law_true", "_law_many", "_law_k", "_law_readings", "_law_found", "_law_mended", "_law_wider", "_law_others", "_law_is_one", "_law_place", "_law_j", "_law_one"]) (sc := defScope s_law) (by decide +kernel)) (fun _ _ _ _ _ => pg_name (i := 15) sc_law.nd rfl (Or.inl rfl)) (fun _ _ _ _ _ => pts_nil) (fun _ _ _ _ _ => pe_kn G_law_worth (hr.mono (by decide)) (pa_cons (pv 5) (pa_cons (pv 15) (pa_nil)))))) pa_nil)))) (pss_cons (ps_set (i := 7) sc_law.nd rfl (Or.inl rfl) (pe_callB call_lenM (by rfl) B.len (by decide +kernel) (pa_cons (pv 3) pa_nil))) (pss_cons (ps_if (PW.pt (pw_or (pt_cmpR (r := rNeM K (eO (eV (e2 PyData.int PyData.int)))) (op_neM (sh_eO (sh_eV (sh_e2 sh_int sh_int))) (units_of hr)) (pe_kn G_repaired (hr.mono (by decide)) (pa_cons (pv 3) (pa_cons (pv 6) (pa_cons (pv 4) (pa_nil))))) (pv 6) (nomark _)) (pw_or1 (pt_cmpR (r := rNeM K (eV PyData.int)) (op_neM (sh_eV sh_int) (units_of hr)) (pe_kn G_false_ones (hr.mono (by decide)) (pa_cons (pv 3) (pa_cons (pv 6) (pa_cons (pv 4) (pa_nil))))) (pe_q (pe_callTy call_tuple_of (by rfl) B.tuple (by decide +kernel) (pa_cons (pe_q (pe_listRg rfl rfl B.list (prg_1 rfl B.range (pv 7)))) pa_nil))) (nomark _))))) (pss_one (ps_ret (pe_bl))) pss_nil) (pss_cons (ps_for PassesOwn.never rfl (pi_range1 rfl B.range (pa_cons (pv 7) (pa_nil))) (pg_name (i := 8) sc_law.nd rfl (Or.inl rfl)) (pss_cons (ps_set (i := 9) sc_law.nd rfl (Or.inl rfl) (pe_q (pe_callTy call_list_of (by rfl) B.list (by decide +kernel) (pa_cons (pv 6) pa_nil)))) (pss_cons (ps_asg (pe_kn G_law_add (hr.mono (by decide)) (pa_cons (pe_ix (r := rIxT K) ix_tup (pv 6) (pv 8) (fun _ _ => rfl)) (pa_cons (pe_q (pe_tup (pa_cons (pe_op op_add (pe_int) (pe_kn G_law_taken (hr.mono (by decide)) (pa_cons (pv 1) (pa_cons (pe_int) (pa_nil))))) (pa_cons (pe_op op_add (pe_int) (pe_kn G_law_taken (hr.mono (by decide)) (pa_cons (pv 1) (pa_cons (pe_int) (pa_nil))))) (pa_nil))))) (pa_nil)))) (pg_sub (pv 9) (pv 8) set_list)) (pss_cons (ps_set (i := 9) sc_law.nd rfl (Or.inl rfl) (pe_q (pe_callTy call_tuple_of (by rfl) B.tuple (by decide +kernel) (pa_cons (pv 9) pa_nil)))) (pss_cons (ps_par (i := 10) (j := 11) (by rfl) sc_law.nd rfl rfl (by decide) rfl rfl (pa_cons (pe_kn G_false_ones (hr.mono (by decide)) (pa_cons (pv 3) (pa_cons (pv 9) (pa_cons (pv 4) (pa_nil))))) (pa_cons (pe_kn G_repaired (hr.mono (by decide)) (pa_cons (pv 3) (pa_cons (pv 9) (pa_cons (pv 4) (pa_nil))))) (pa_nil))) (by rfl)) (pss_cons (ps_if (pt_cmpR (r := rNotInV K) (op_notInV) (pv 8) (pv 10) (by rfl)) (pss_one (ps_ret (pe_bl))) pss_nil) (pss_cons (ps_if (PW.pt (pw_and (pt_cmpR op_gt (pv 7) (pe_op op_add (pv 4) (pe_int)) (nomark _)) (pw_and1 (PW.pt (pw_or (pt_cmpR (r := rNeM K (eV PyData.int)) (op_neM (sh_eV sh_int) (units_of hr)) (pv 10) (pe_q (pe_tup (pa_cons (pv 8) (pa_nil)))) (nomark _)) (pw_or1 (pt_cmpR (r := rNeM K (eO (eV (e2 PyData.int PyData.int)))) (op_neM (sh_eO (sh_eV (sh_e2 sh_int sh_int))) (units_of hr)) (pv 11) (pv 6) (nomark _)))))))) (pss_one (ps_ret (pe_bl))) pss_nil) (pss_cons (ps_if (PW.pt (pw_and (pt_cmpR op_eq (pv 7) (pe_op op_add (pv 4) (pe_int)) (nomark _)) (pw_and1 (PW.pt (pw_or (pt_cmpR (r := rNeM K (eV PyData.int)) (op_neM (sh_eV sh_int) (units_of hr)) (pv 10) (pe_q (pe_callTy call_tuple_of (by rfl) B.tuple (by decide +kernel) (pa_cons (pe_q (pe_listRg rfl rfl B.list (prg_1 rfl B.range (pv 7)))) pa_nil))) (nomark _)) (pw_or1 (pt_cmp (pc_notN (pv 11)) rfl))))))) (pss_one (ps_ret (pe_bl))) pss_nil) (pss_cons (ps_if (PW.pt (pw_and (pt_cmpR op_lt (pv 7) (pe_op op_add (pv 4) (pe_int)) (nomark _)) (pw_and1 (pt_cmpR (r := rNeM K (eO (eV (e2 PyData.int PyData.int)))) (op_neM (sh_eO (sh_eV (sh_e2 sh_int sh_int))) (units_of hr)) (pv 11) (pv 9) (nomark _))))) (pss_one (ps_ret (pe_bl))) pss_nil) (pss_cons (ps_if (PW.pt (pw_and (pt_cmp (pc_notN (pv 11)) rfl) (pw_and1 (pt_cmpR op_gt (pe_callB call_lenM (by rfl) B.len (by decide +kernel) (pa_cons (pe_kn G_polynomial_by (hr.mono (by decide)) (pa_cons (pv 3) (pa_cons (pv 11) (pa_nil)))) pa_nil)) (pe_op op_add (pv 4) (pe_int)) (nomark _))))) (pss_one (ps_ret (pe_bl))) pss_nil) (pss_cons (ps_set (i := 12) sc_law.nd rfl (Or.inr rfl) (pe_kn G_false_ones (hr.mono (by decide)) (pa_cons (pv 3) (pa_cons (pv 9) (pa_cons (pe_callB (call_min2 rfl) (by rfl) B.min (by decide +kernel) (pa_cons (pe_int) (pa_cons (pe_op op_add (pv 4) (pe_int)) (pa_nil)))) (pa_nil)))))) (pss_one (ps_if (pt_cmpR (r := rNeM K (eL PyData.int)) (op_neM (sh_eL sh_int) (units_of hr)) (pe_q (pe_lc (own := [("_law_j", 16)]) (g := gName 16) rfl sc_law.nd (pi_tup (pv 10)) (blkOk_by (N := ["_law_script", "_law_row", "_law_turn", "_law_places_here", "_law_degree", "_law_some", "_law_true", "_law_many", "_law_k", "_law_readings", "_law_found", "_law_mended", "_law_wider", "_law_others", "_law_is_one", "_law_place", "_law_j", "_law_one"]) (sc := defScope s_law) (by decide +kernel)) (fun _ _ _ _ _ => pg_name (i := 16) sc_law.nd rfl (Or.inl rfl)) (fun _ _ _ _ _ => pts_one (pt_cmpR (r := rNotInV K) (op_notInV) (pv 16) (pv 12) (by rfl))) (fun _ _ _ _ _ => pv 16))) (pe_q (pe_lst (pa_nil))) (nomark _)) (pss_one (ps_ret (pe_bl))) pss_nil))))))))))))) (pss_cons (ps_set (i := 13) sc_law.nd rfl (Or.inl rfl) (pe_kn G_law_fractions (hr.mono (by decide)) (pa_cons (pv 1) (pa_cons (pv 7) (pa_nil))))) (pss_cons (ps_set (i := 11) sc_law.nd rfl (Or.inl rfl) (pe_kn G_repaired (hr.mono (by decide)) (pa_cons (pv 3) (pa_cons (pv 13) (pa_cons (pv 4) (pa_nil)))))) (pss_cons (ps_if (PW.pt (pw_and (pt_cmp (pc_notN (pv 11)) rfl) (pw_and1 (pt_cmpR (r := rNeM K (eO (eV (e2 PyData.int PyData.int)))) (op_neM (sh_eO (sh_eV (sh_e2 sh_int sh_int))) (units_of hr)) (pe_kn G_repaired (hr.mono (by decide)) (pa_cons (pv 3) (pa_cons (pv 11) (pa_cons (pv 4) (pa_nil))))) (pv 11) (nomark _))))) (pss_one (ps_ret (pe_bl))) pss_nil) (pss_cons (ps_set (i := 14) sc_law.nd rfl (Or.inl rfl) (pe_cmpR op_le (pe_callB call_lenM (by rfl) B.len (by decide +kernel) (pa_cons (pe_kn G_polynomial_by (hr.mono (by decide)) (pa_cons (pv 3) (pa_cons (pv 13) (pa_nil)))) pa_nil)) (pe_op op_add (pv 4) (pe_int)) (nomark _))) (pss_one (ps_if (pt_cmpR op_ne (pv 14) (pe_cmpR (r := rEqM K (eO (eV (e2 PyData.int PyData.int)))) (op_eqM (sh_eO (sh_eV (sh_e2 sh_int sh_int))) (units_of hr)) (pv 11) (pe_q (pe_callTy call_tuple_of (by rfl) B.tuple (by decide +kernel) (pa_cons (pe_q (pe_lc (own := [("_law_one", 17)]) (g := gName 17) rfl sc_law.nd (pi_tup (pv 13)) (blkOk_by (N := ["_law_script", "_law_row", "_law_turn", "_law_places_here", "_law_degree", "_law_some", "_law_true", "_law_many", "_law_k", "_law_readings", "_law_found", "_law_mended", "_law_wider", "_law_others", "_law_is_one", "_law_place", "_law_j", "_law_one"]) (sc := defScope s_law) (by decide +kernel)) (fun _ _ _ _ _ => pg_name (i := 17) sc_law.nd rfl (Or.inl rfl)) (fun _ _ _ _ _ => pts_nil) (fun _ _ _ _ _ => pe_kn G_law_low (hr.mono (by decide)) (pa_cons (pe_ix (r := rIxT K) ix_tup (pv 17) (pe_int) (fun _ _ => rfl)) (pa_cons (pe_ix (r := rIxT K) ix_tup (pv 17) (pe_int) (fun _ _ => rfl)) (pa_nil)))))) pa_nil))) (nomark _)) (nomark _)) (pss_one (ps_ret (pe_bl))) pss_nil))))))))))))) (pss_one (ps_ret (pe_bl))))), ?_⟩
    refine ⟨_, rfl, ?_⟩
    show _ ∧ _
    refine new_row hs fun ra H0 e w => ?_
    have g_ := Gm.refl (M := [ra]) e
    obtain ⟨h1, k⟩ := post_range k
    refine ⟨_, rfl, h1.1, h1.2, ?_⟩
    refine for_mL (M := [ra]) (F := H) wlk_range (fun b3 F' H' σ' => ∃ (u2 : Option V) (u3 : Option V) (u4 : Option V) (u5 : Option V) (u6 : Option V) (u7 : Option V) (u8 : Option V) (u9 : Option V) (u10 : Option V) (u11 : Option V) (u12 : Option V) (u13 : Option V) (u14 : Option V) (u15 : Option V) (u16 : Option V) (u17 : Option V), σ' = [some (V.ref sc), some (V.ref ra), u2, u3, u4, u5, u6, u7, u8, u9, u10, u11, u12, u13, u14, u15, u16, u17] ∧ RowAt K sc ra scr F' H' b3) k e ⟨_, _, _, _, _, _, _, _, _, _, _, _, _, _, _, _, rfl, w⟩ (fun b3 x4 v12 σ14 F5 H6 F7 H8 g9 i13 g10 r11 nx kfb3 => ?_) (fun b20 σ19 F15 H16 g17 i18 k => ?_)
    · obtain ⟨u21, u22, u23, u24, u25, u26, u27, u28, u29, u30, u31, u32, u33, u34, u35, u36, rfl, w37⟩ := i13
      replace w37 := w37.keep g10
      have eF7 := g10.s
      have gF7 := g9.trans (g10.weak (by simp))
      subst r11
      refine ⟨_, rfl, ?_⟩
      refine ⟨F7, sc, ra, scr, b3, (6 : Int), rfl, eF7, w37, (post_bd kfb3).mono (fun b38 kfb3 v43 F39 H40 g41 ⟨r42, w44⟩ => ?_) (fun _ z => z)⟩
      have eF39 := g41.s
      have gF39 := gF7.trans (g41.weak (by simp))
      refine ⟨_, rfl, ?_⟩
      refine ⟨F39, sc, ra, scr, b38.2, (4 : Int), rfl, eF39, w44, (post_bd kfb3).mono (fun b45 kfb3 v50 F46 H47 g48 ⟨r49, w51⟩ => ?_) (fun _ z => z)⟩
      have eF46 := g48.s
      have gF46 := gF39.trans (g48.weak (by simp))
      replace r42 := r42.up g48.f
      subst r49
      refine ⟨_, _, rfl, ?_⟩
      refine ⟨_, rfl, _, rfl, _, _, rfl, rfl, ?_⟩
      refine ⟨F46, sc, ra, scr, b45.2, (b45.1 + (1 : Int)), rfl, eF46, w51, (post_bd kfb3).mono (fun b52 kfb3 v57 F53 H54 g55 ⟨r56, w58⟩ => ?_) (fun _ z => z)⟩
      have eF53 := g55.s
      have gF53 := gF46.trans (g55.weak (by simp))
      replace r42 := r42.up g55.f
      refine ⟨_, rfl, ?_⟩
      obtain ⟨p59, xs60, rfl, s61, a62⟩ := dp_tup r42
      refine ⟨_, rfl, ⟨_, (ex_t eF53 s61)⟩, ?_⟩
      obtain ⟨h82, kfb3⟩ := post_guard kfb3
      refine lc_map (K := K) (M := []) (wlk_tup eF53 s61 a62) (e2 PyData.int PyData.int) kfb3 eF53 h82 (fun _ _ => by simp) (fun x65 v80 F73 H74 F75 H76 g77 g78 r79 Q' k63 => ?_) (fun _ z => z) (fun b64 v66 F67 H68 g69 r70 kfb3 => ?_) gm_name
      · have g83 := Gm.refl (M := []) g77.s
        replace r42 := r42.up g77.f
        replace w58 := w58.keep g77
        replace r56 := r56.up g77.f
        replace s61 := ex_t g77.f s61
        replace a62 := a62.up g77.f
        replace r42 := r42.up g78.f
        replace w58 := w58.keep g78
        replace r56 := r56.up g78.f
        replace s61 := ex_t g78.f s61
        replace a62 := a62.up g78.f
        have eF75 := g78.s
        have gF75 := g83.trans (g78.weak (by simp))
        refine ⟨rfl, _, rfl, _, rfl, ?_⟩
        refine ⟨F75, _, b52.1, _, x65, rfl, eF75, r56, r79, (post_bd k63).mono (fun b84 k63 v89 F85 H86 g87 r88 => ?_) (fun _ z => z)⟩
        have eF85 := g87.s
        have gF85 := gF75.trans (g87.weak (by simp))
        replace r42 := r42.up g87.f
        replace w58 := w58.keep g87
        replace r56 := r56.up g87.f
        replace s61 := ex_t g87.f s61
        replace a62 := a62.up g87.f
        replace r79 := r79.up g87.f
        exact k63.h _ _ _ gF85 r88
      have eF67 := g69.s
      have gF67 := gF53.trans (g69.weak (by simp))
      replace r42 := r42.up g69.f
      replace w58 := w58.keep g69
      replace r56 := r56.up g69.f
      replace s61 := ex_t g69.f s61
      replace a62 := a62.up g69.f
      obtain ⟨p92, xs93, rfl, s94, a95⟩ := dp_lst r70
      refine to_VL (K := K) (M := []) eF67 s94 a95 (en := (e2 PyData.int PyData.int)) (l := b64) fun v100 F96 H97 g98 r99 => ?_
      have eF96 := g98.s
      have gF96 := gF67.trans (g98.weak (by simp))
      replace r42 := r42.up g98.f
      replace w58 := w58.keep g98
      replace r56 := r56.up g98.f
      replace s61 := ex_t g98.f s61
      replace a62 := a62.up g98.f
      replace r70 := r70.up g98.f
      replace s94 := g98.f _ _ s94
      replace a95 := a95.up g98.f
      refine ⟨_, rfl, ?_⟩
      refine ⟨_, _, _, rfl, .inr (ex_t eF96 s61), len_all a62, ?_⟩
      refine ⟨_, rfl, _, rfl, _, rfl, ?_⟩
      refine ⟨F96, _, b38.1, _, b64, b45.1, rfl, eF96, r42, r99, (post_bd kfb3).mono (fun b101 kfb3 v106 F102 H103 g104 r105 => ?_) (fun _ z => z)⟩
      have eF102 := g104.s
      have gF102 := gF96.trans (g104.weak (by simp))
      replace r42 := r42.up g104.f
      replace w58 := w58.keep g104
      replace r56 := r56.up g104.f
      replace s61 := ex_t g104.f s61
      replace a62 := a62.up g104.f
      replace r70 := r70.up g104.f
      replace s94 := g104.f _ _ s94
      replace a95 := a95.up g104.f
      replace r99 := r99.up g104.f
      refine ⟨_, rfl, b101, (some b64), r105.dp eF102, r99.dp eF102, ?_⟩
      refine ⟨_, rfl, ?_⟩
      refine or_jM (M := []) eF102 kfb3 (fun _ Q' kfb3tb108 => ?_) (fun b108 F109 H110 g111 kfb3 => ?_)
      · have gF102_ := Gm.refl (M := []) eF102
        refine ⟨_, rfl, _, rfl, _, rfl, ?_⟩
        refine ⟨F102, _, b38.1, _, b64, b45.1, rfl, eF102, r42, r99, (post_bd kfb3tb108).mono (fun b112 kfb3tb108 v117 F113 H114 g115 r116 => ?_) (fun _ z => z)⟩
        have eF113 := g115.s
        have gF113 := gF102_.trans (g115.weak (by simp))
        replace r42 := r42.up g115.f
        replace w58 := w58.keep g115
        replace r56 := r56.up g115.f
        replace s61 := ex_t g115.f s61
        replace a62 := a62.up g115.f
        replace r70 := r70.up g115.f
        replace s94 := g115.f _ _ s94
        replace a95 := a95.up g115.f
        replace r99 := r99.up g115.f
        replace r105 := r105.up g115.f
        refine ⟨_, rfl, _, rfl, ?_⟩
        obtain ⟨h119, kfb3tb108⟩ := post_guard kfb3tb108
        refine lst_rg (K := K) (M := []) eF113 h119 fun v124 F120 H121 g122 r123 => ?_
        have eF120 := g122.s
        have gF120 := gF113.trans (g122.weak (by simp))
        replace r42 := r42.up g122.f
        replace w58 := w58.keep g122
        replace r56 := r56.up g122.f
        replace s61 := ex_t g122.f s61
        replace a62 := a62.up g122.f
        replace r70 := r70.up g122.f
        replace s94 := g122.f _ _ s94
        replace a95 := a95.up g122.f
        replace r99 := r99.up g122.f
        replace r105 := r105.up g122.f
        replace r116 := r116.up g122.f
        obtain ⟨p125, xs126, rfl, s127, a128⟩ := dp_lst r123
        refine to_VL (K := K) (M := []) eF120 s127 a128 (en := PyData.int) (l := (rangeL 0 ((b38.1.length : Int)).toNat)) fun v133 F129 H130 g131 r132 => ?_
        have eF129 := g131.s
        have gF129 := gF120.trans (g131.weak (by simp))
        replace r42 := r42.up g131.f
        replace w58 := w58.keep g131
        replace r56 := r56.up g131.f
        replace s61 := ex_t g131.f s61
        replace a62 := a62.up g131.f
        replace r70 := r70.up g131.f
        replace s94 := g131.f _ _ s94
        replace a95 := a95.up g131.f
        replace r99 := r99.up g131.f
        replace r105 := r105.up g131.f
        replace r116 := r116.up g131.f
        replace r123 := r123.up g131.f
        replace s127 := g131.f _ _ s127
        replace a128 := a128.up g131.f
        refine ⟨b112, (rangeL 0 ((b38.1.length : Int)).toNat), r116.dp eF129, r132.dp eF129, ?_⟩
        refine ⟨_, rfl, ?_⟩
        exact kfb3tb108.h _ _ gF129
      have eF109 := g111.s
      have gF109 := gF102.trans (g111.weak (by simp))
      replace r42 := r42.up g111.f
      replace w58 := w58.keep g111
      replace r56 := r56.up g111.f
      replace s61 := ex_t g111.f s61
      replace a62 := a62.up g111.f
      replace r70 := r70.up g111.f
      replace s94 := g111.f _ _ s94
      replace a95 := a95.up g111.f
      replace r99 := r99.up g111.f
      replace r105 := r105.up g111.f
      refine cs kfb3 (fun _ kfb3 => ?_) (fun _ kfb3 => ?_)
      · exact (show Post (Mm.ok _) _ _ from kfb3.h).h _
      · refine ⟨_, rfl, ?_⟩
        obtain ⟨h134, kfb3⟩ := post_range kfb3
        refine ⟨_, rfl, h134.1, h134.2, ?_⟩
        refine for_mL (M := [ra]) (F := F109) wlk_range (fun b136 F' H' σ' => ∃ (u8 : Option V) (u9 : Option V) (u10 : Option V) (u11 : Option V) (u12 : Option V) (u13 : Option V) (u14 : Option V) (u15 : Option V) (u16 : Option V) (u17 : Option V), σ' = [some (V.ref sc), some (V.ref ra), some (V.int x4), some (V.ref p59), some (V.int b45.1), some v57, some v100, some (V.int (b38.1.length : Int)), u8, u9, u10, u11, u12, u13, u14, u15, u16, u17] ∧ RowAt K sc ra scr F' H' b136) kfb3 eF109 ⟨_, _, _, _, _, _, _, _, _, _, rfl, w58⟩ (fun b136 x137 v145 σ147 F138 H139 F140 H141 g142 i146 g143 r144 nx kfb3fb136 => ?_) (fun b153 σ152 F148 H149 g150 i151 kfb3 => ?_)
        · replace r42 := r42.up g142.f
          replace r56 := r56.up g142.f
          replace s61 := ex_t g142.f s61
          replace a62 := a62.up g142.f
          replace r70 := r70.up g142.f
          replace s94 := g142.f _ _ s94
          replace a95 := a95.up g142.f
          replace r99 := r99.up g142.f
          replace r105 := r105.up g142.f
          obtain ⟨u154, u155, u156, u157, u158, u159, u160, u161, u162, u163, rfl, w164⟩ := i146
          replace r42 := r42.up g143.f
          replace r56 := r56.up g143.f
          replace s61 := ex_t g143.f s61
          replace a62 := a62.up g143.f
          replace r70 := r70.up g143.f
          replace s94 := g143.f _ _ s94
          replace a95 := a95.up g143.f
          replace r99 := r99.up g143.f
          replace r105 := r105.up g143.f
          replace w164 := w164.keep g143
          have eF140 := g143.s
          have gF140 := g142.trans (g143.weak (by simp))
          subst r144
          refine ⟨_, rfl, ?_⟩
          obtain ⟨p165, xs166, rfl, s167, a168⟩ := dp_tup r99
          refine to_own (K := K) eF140 (.inr (ex_t eF140 s167)) fun p169 H170 g171 y172 o173 => ?_
          have a174 : DqAll K F140 xs166 (List.map (e2 PyData.int PyData.int) b64) := a168
          have np169 := ne_of_none w164.1 y172
          have mp169 := np169.symm
          have zp169 := gF140.fresh y172
          have eH170 := g171.s
          have gH170 := gF140.trans (g171.weak (by simp))
          replace w164 := w164.keep g171
          refine ⟨_, rfl, _, rfl, ?_⟩
          obtain ⟨i175, h176, kfb3fb136⟩ := post_get kfb3fb136
          obtain ⟨v177, h178, r179⟩ := dq_at a168 h176
          refine ⟨_, _, _, _, rfl, rfl, (ex_t eH170 s167), h178, ?_⟩
          refine ⟨_, rfl, ?_⟩
          refine ⟨F140, sc, ra, scr, b136, (9 : Int), rfl, eH170, w164, (post_bd kfb3fb136).mono (fun b180 kfb3fb136 v185 F181 H182 g183 ⟨r184, w186⟩ => ?_) (fun _ z => z)⟩
          have eF181 := g183.s
          have gF181 := gH170.trans (g183.weak (by simp))
          replace r42 := r42.up g183.f
          replace r56 := r56.up g183.f
          replace s61 := ex_t g183.f s61
          replace a62 := a62.up g183.f
          replace r70 := r70.up g183.f
          replace s94 := g183.f _ _ s94
          replace a95 := a95.up g183.f
          replace r99 := r99.up g183.f
          replace r105 := r105.up g183.f
          replace s167 := ex_t g183.f s167
          replace a168 := a168.up g183.f
          replace o173 := g183.own (by simp [*]) o173.1 o173.2
          replace a174 := a174.up g183.f
          replace r179 := r179.up g183.f
          subst r184
          refine ⟨_, _, rfl, rfl, _, rfl, ?_⟩
          refine ⟨F181, sc, ra, scr, b180.2, (3 : Int), rfl, eF181, w186, (post_bd kfb3fb136).mono (fun b187 kfb3fb136 v192 F188 H189 g190 ⟨r191, w193⟩ => ?_) (fun _ z => z)⟩
          have eF188 := g190.s
          have gF188 := gF181.trans (g190.weak (by simp))
          replace r42 := r42.up g190.f
          replace r56 := r56.up g190.f
          replace s61 := ex_t g190.f s61
          replace a62 := a62.up g190.f
          replace r70 := r70.up g190.f
          replace s94 := g190.f _ _ s94
          replace a95 := a95.up g190.f
          replace r99 := r99.up g190.f
          replace r105 := r105.up g190.f
          replace s167 := ex_t g190.f s167
          replace a168 := a168.up g190.f
          replace o173 := g190.own (by simp [*]) o173.1 o173.2
          replace a174 := a174.up g190.f
          replace r179 := r179.up g190.f
          subst r191
          refine ⟨_, _, rfl, rfl, ?_⟩
          show _ ∧ _
          refine new_tup (K := K) (M := []) eF188 (.cons (Dq.int ((1 : Int) + b180.1)) (.cons (Dq.int ((1 : Int) + b187.1)) .nil)) (by show 2 ≤ 100000; decide) fun v198 F194 H195 g196 r197 => ?_
          have eF194 := g196.s
          have gF194 := gF188.trans (g196.weak (by simp))
          replace r42 := r42.up g196.f
          replace r56 := r56.up g196.f
          replace s61 := ex_t g196.f s61
          replace a62 := a62.up g196.f
          replace r70 := r70.up g196.f
          replace s94 := g196.f _ _ s94
          replace a95 := a95.up g196.f
          replace r99 := r99.up g196.f
          replace r105 := r105.up g196.f
          replace s167 := ex_t g196.f s167
          replace a168 := a168.up g196.f
          replace o173 := g196.own (by simp [*]) o173.1 o173.2
          replace a174 := a174.up g196.f
          replace r179 := r179.up g196.f
          replace w193 := w193.keep g196
          replace r197 : Dq K F194 v198 ((e2 PyData.int PyData.int) (((1 : Int) + b180.1), ((1 : Int) + b187.1))) := r197
          refine ⟨F194, _, i175, _, (((1 : Int) + b180.1), ((1 : Int) + b187.1)), rfl, eF194, r179, r197, (post_bd kfb3fb136).mono (fun b199 kfb3fb136 v204 F200 H201 g202 r203 => ?_) (fun _ z => z)⟩
          have eF200 := g202.s
          have gF200 := gF194.trans (g202.weak (by simp))
          replace r42 := r42.up g202.f
          replace r56 := r56.up g202.f
          replace s61 := ex_t g202.f s61
          replace a62 := a62.up g202.f
          replace r70 := r70.up g202.f
          replace s94 := g202.f _ _ s94
          replace a95 := a95.up g202.f
          replace r99 := r99.up g202.f
          replace r105 := r105.up g202.f
          replace s167 := ex_t g202.f s167
          replace a168 := a168.up g202.f
          replace o173 := g202.own (by simp [*]) o173.1 o173.2
          replace a174 := a174.up g202.f
          replace r179 := r179.up g202.f
          replace w193 := w193.keep g202
          replace r197 := r197.up g202.f
          refine ⟨_, rfl, _, rfl, ?_⟩
          obtain ⟨m206, j207, h208, h209, kfb3fb136⟩ := post_set kfb3fb136
          refine ⟨_, _, _, _, rfl, rfl, o173.1, all_ix a174 h208, ?_⟩
          have g210 := gF200.putOr (o := (.lst (List.set xs166 j207 v204))) (.inr zp169) o173.1 o173.2
          replace w193 := w193.put np169 (o := (.lst (List.set xs166 j207 v204)))
          replace o173 : (upd H201 p169 (.lst (List.set xs166 j207 v204))) p169 = some (.lst (List.set xs166 j207 v204)) ∧ F200 p169 = none := ⟨upd_same, o173.2⟩
          replace a174 : DqAll K F200 (List.set xs166 j207 v204) (List.map (e2 PyData.int PyData.int) m206) := all_set a174 r203 h209
          have e211 := g210.s
          refine ⟨_, rfl, ?_⟩
          refine to_VO (K := K) (M := []) e211 o173.1 a174 (en := (e2 PyData.int PyData.int)) (l := m206) fun v216 F212 H213 g214 r215 => ?_
          have eF212 := g214.s
          have gF212 := g210.trans (g214.weak (by simp))
          replace r42 := r42.up g214.f
          replace r56 := r56.up g214.f
          replace s61 := ex_t g214.f s61
          replace a62 := a62.up g214.f
          replace r70 := r70.up g214.f
          replace s94 := g214.f _ _ s94
          replace a95 := a95.up g214.f
          replace r99 := r99.up g214.f
          replace r105 := r105.up g214.f
          replace s167 := ex_t g214.f s167
          replace a168 := a168.up g214.f
          replace o173 := g214.own (by simp [*]) o173.1 o173.2
          replace a174 := a174.up g214.f
          replace r179 := r179.up g214.f
          replace w193 := w193.keep g214
          replace r197 := r197.up g214.f
          replace r203 := r203.up g214.f
          refine ⟨_, rfl, _, rfl, _, rfl, ?_⟩
          refine ⟨F212, _, b38.1, _, m206, b45.1, rfl, eF212, r42, r215, (post_bd kfb3fb136).mono (fun b217 kfb3fb136 v222 F218 H219 g220 r221 => ?_) (fun _ z => z)⟩
          have eF218 := g220.s
          have gF218 := gF212.trans (g220.weak (by simp))
          replace r42 := r42.up g220.f
          replace r56 := r56.up g220.f
          replace s61 := ex_t g220.f s61
          replace a62 := a62.up g220.f
          replace r70 := r70.up g220.f
          replace s94 := g220.f _ _ s94
          replace a95 := a95.up g220.f
          replace r99 := r99.up g220.f
          replace r105 := r105.up g220.f
          replace s167 := ex_t g220.f s167
          replace a168 := a168.up g220.f
          replace o173 := g220.own (by simp [*]) o173.1 o173.2
          replace a174 := a174.up g220.f
          replace r179 := r179.up g220.f
          replace w193 := w193.keep g220
          replace r197 := r197.up g220.f
          replace r203 := r203.up g220.f
          replace r215 := r215.up g220.f
          refine ⟨_, rfl, _, rfl, _, rfl, ?_⟩
          refine ⟨F218, _, b38.1, _, m206, b45.1, rfl, eF218, r42, r215, (post_bd kfb3fb136).mono (fun b224 kfb3fb136 v229 F225 H226 g227 r228 => ?_) (fun _ z => z)⟩
          have eF225 := g227.s
          have gF225 := gF218.trans (g227.weak (by simp))
          replace r42 := r42.up g227.f
          replace r56 := r56.up g227.f
          replace s61 := ex_t g227.f s61
          replace a62 := a62.up g227.f
          replace r70 := r70.up g227.f
          replace s94 := g227.f _ _ s94
          replace a95 := a95.up g227.f
          replace r99 := r99.up g227.f
          replace r105 := r105.up g227.f
          replace s167 := ex_t g227.f s167
          replace a168 := a168.up g227.f
          replace o173 := g227.own (by simp [*]) o173.1 o173.2
          replace a174 := a174.up g227.f
          replace r179 := r179.up g227.f
          replace w193 := w193.keep g227
          replace r197 := r197.up g227.f
          replace r203 := r203.up g227.f
          replace r215 := r215.up g227.f
          replace r221 := r221.up g227.f
          refine ⟨_, _, rfl, ?_⟩
          refine ⟨_, rfl, _, rfl, x137, b217, (Dq.int x137).dp eF225, r221.dp eF225, _, rfl, ?_⟩
          refine cs kfb3fb136 (fun _ kfb3fb136 => ?_) (fun _ kfb3fb136 => ?_)
          · exact (show Post (Mm.ok _) _ _ from (show Post (Mm.ok _) _ _ from kfb3fb136.h).h).h _
          · refine ⟨_, rfl, _, rfl, _, _, rfl, rfl, _, _, rfl, rfl, _, rfl, ?_⟩
            refine and_jM (M := []) eF225 kfb3fb136 (fun _ Q' kfb3fb136tb231 => ?_) (fun b231 F232 H233 g234 kfb3fb136 => ?_)
            · have gF225_ := Gm.refl (M := []) eF225
              refine ⟨_, rfl, _, rfl, ?_⟩
              show _ ∧ _
              refine new_tup (K := K) (M := []) eF225 (.cons (Dq.int x137) .nil) (by show 1 ≤ 100000; decide) fun v239 F235 H236 g237 r238 => ?_
              have eF235 := g237.s
              have gF235 := gF225_.trans (g237.weak (by simp))
              replace r42 := r42.up g237.f
              replace r56 := r56.up g237.f
              replace s61 := ex_t g237.f s61
              replace a62 := a62.up g237.f
              replace r70 := r70.up g237.f
              replace s94 := g237.f _ _ s94
              replace a95 := a95.up g237.f
              replace r99 := r99.up g237.f
              replace r105 := r105.up g237.f
              replace s167 := ex_t g237.f s167
              replace a168 := a168.up g237.f
              replace o173 := g237.own (by simp [*]) o173.1 o173.2
              replace a174 := a174.up g237.f
              replace r179 := r179.up g237.f
              replace w193 := w193.keep g237
              replace r197 := r197.up g237.f
              replace r203 := r203.up g237.f
              replace r215 := r215.up g237.f
              replace r221 := r221.up g237.f
              replace r228 := r228.up g237.f
              replace r238 : Dq K F235 v239 ((eV PyData.int) [x137]) := r238
              refine ⟨b217, [x137], r221.dp eF235, r238.dp eF235, ?_⟩
              refine ⟨_, rfl, ?_⟩
              refine or_j (b := (!(decide (b224 = (some b64))))) (fun _ Q' q => ?_) ?_
              · refine ⟨_, rfl, _, rfl, b224, (some b64), r228.dp eF235, r99.dp eF235, ?_⟩
                refine ⟨_, rfl, ?_⟩
                exact q
              exact kfb3fb136tb231.h _ _ gF235
            have eF232 := g234.s
            have gF232 := gF225.trans (g234.weak (by simp))
            replace r42 := r42.up g234.f
            replace r56 := r56.up g234.f
            replace s61 := ex_t g234.f s61
            replace a62 := a62.up g234.f
            replace r70 := r70.up g234.f
            replace s94 := g234.f _ _ s94
            replace a95 := a95.up g234.f
            replace r99 := r99.up g234.f
            replace r105 := r105.up g234.f
            replace s167 := ex_t g234.f s167
            replace a168 := a168.up g234.f
            replace o173 := g234.own (by simp [*]) o173.1 o173.2
            replace a174 := a174.up g234.f
            replace r179 := r179.up g234.f
            replace w193 := w193.keep g234
            replace r197 := r197.up g234.f
            replace r203 := r203.up g234.f
            replace r215 := r215.up g234.f
            replace r221 := r221.up g234.f
            replace r228 := r228.up g234.f
            refine cs kfb3fb136 (fun _ kfb3fb136 => ?_) (fun _ kfb3fb136 => ?_)
            · exact (show Post (Mm.ok _) _ _ from (show Post (Mm.ok _) _ _ from kfb3fb136.h).h).h _
            · refine ⟨_, rfl, _, rfl, _, _, rfl, rfl, rfl, ?_⟩
              rw [decV_int]
              refine ⟨_, rfl, ?_⟩
              refine and_jM (M := []) eF232 kfb3fb136 (fun _ Q' kfb3fb136tb240 => ?_) (fun b240 F241 H242 g243 kfb3fb136 => ?_)
              · have gF232_ := Gm.refl (M := []) eF232
                refine ⟨_, rfl, _, rfl, _, rfl, ?_⟩
                obtain ⟨h244, kfb3fb136tb240⟩ := post_guard kfb3fb136tb240
                refine lst_rg (K := K) (M := []) eF232 h244 fun v249 F245 H246 g247 r248 => ?_
                have eF245 := g247.s
                have gF245 := gF232_.trans (g247.weak (by simp))
                replace r42 := r42.up g247.f
                replace r56 := r56.up g247.f
                replace s61 := ex_t g247.f s61
                replace a62 := a62.up g247.f
                replace r70 := r70.up g247.f
                replace s94 := g247.f _ _ s94
                replace a95 := a95.up g247.f
                replace r99 := r99.up g247.f
                replace r105 := r105.up g247.f
                replace s167 := ex_t g247.f s167
                replace a168 := a168.up g247.f
                replace o173 := g247.own (by simp [*]) o173.1 o173.2
                replace a174 := a174.up g247.f
                replace r179 := r179.up g247.f
                replace w193 := w193.keep g247
                replace r197 := r197.up g247.f
                replace r203 := r203.up g247.f
                replace r215 := r215.up g247.f
                replace r221 := r221.up g247.f
                replace r228 := r228.up g247.f
                obtain ⟨p250, xs251, rfl, s252, a253⟩ := dp_lst r248
                refine to_VL (K := K) (M := []) eF245 s252 a253 (en := PyData.int) (l := (rangeL 0 ((b38.1.length : Int)).toNat)) fun v258 F254 H255 g256 r257 => ?_
                have eF254 := g256.s
                have gF254 := gF245.trans (g256.weak (by simp))
                replace r42 := r42.up g256.f
                replace r56 := r56.up g256.f
                replace s61 := ex_t g256.f s61
                replace a62 := a62.up g256.f
                replace r70 := r70.up g256.f
                replace s94 := g256.f _ _ s94
                replace a95 := a95.up g256.f
                replace r99 := r99.up g256.f
                replace r105 := r105.up g256.f
                replace s167 := ex_t g256.f s167
                replace a168 := a168.up g256.f
                replace o173 := g256.own (by simp [*]) o173.1 o173.2
                replace a174 := a174.up g256.f
                replace r179 := r179.up g256.f
                replace w193 := w193.keep g256
                replace r197 := r197.up g256.f
                replace r203 := r203.up g256.f
                replace r215 := r215.up g256.f
                replace r221 := r221.up g256.f
                replace r228 := r228.up g256.f
                replace r248 := r248.up g256.f
                replace s252 := g256.f _ _ s252
                replace a253 := a253.up g256.f
                refine ⟨b217, (rangeL 0 ((b38.1.length : Int)).toNat), r221.dp eF254, r257.dp eF254, ?_⟩
                refine ⟨_, rfl, ?_⟩
                refine or_j (b := (!b224.isNone)) (fun _ Q' q => ?_) ?_
                · refine ⟨_, rfl, _, rfl, ?_⟩
                  rw [none_O r228]
                  exact q
                exact kfb3fb136tb240.h _ _ gF254
              have eF241 := g243.s
              have gF241 := gF232.trans (g243.weak (by simp))
              replace r42 := r42.up g243.f
              replace r56 := r56.up g243.f
              replace s61 := ex_t g243.f s61
              replace a62 := a62.up g243.f
              replace r70 := r70.up g243.f
              replace s94 := g243.f _ _ s94
              replace a95 := a95.up g243.f
              replace r99 := r99.up g243.f
              replace r105 := r105.up g243.f
              replace s167 := ex_t g243.f s167
              replace a168 := a168.up g243.f
              replace o173 := g243.own (by simp [*]) o173.1 o173.2
              replace a174 := a174.up g243.f
              replace r179 := r179.up g243.f
              replace w193 := w193.keep g243
              replace r197 := r197.up g243.f
              replace r203 := r203.up g243.f
              replace r215 := r215.up g243.f
              replace r221 := r221.up g243.f
              replace r228 := r228.up g243.f
              refine cs kfb3fb136 (fun _ kfb3fb136 => ?_) (fun _ kfb3fb136 => ?_)
              · exact (show Post (Mm.ok _) _ _ from (show Post (Mm.ok _) _ _ from kfb3fb136.h).h).h _
              · refine ⟨_, rfl, _, rfl, _, _, rfl, rfl, _, _, rfl, rfl, _, rfl, ?_⟩
                refine and_j (b := (!(decide (b224 = (some m206))))) (fun _ Q' q => ?_) ?_
                · refine ⟨_, rfl, _, rfl, b224, (some m206), r228.dp eF241, r215.dp eF241, ?_⟩
                  refine ⟨_, rfl, ?_⟩
                  exact q
                refine cs kfb3fb136 (fun _ kfb3fb136 => ?_) (fun _ kfb3fb136 => ?_)
                · exact (show Post (Mm.ok _) _ _ from (show Post (Mm.ok _) _ _ from kfb3fb136.h).h).h _
                · refine ⟨_, rfl, _, rfl, ?_⟩
                  rw [none_O r228]
                  refine and_jM (M := []) eF241 kfb3fb136 (fun _ Q' kfb3fb136tb259 => ?_) (fun b259 F260 H261 g262 kfb3fb136 => ?_)
                  · have gF241_ := Gm.refl (M := []) eF241
                    obtain ⟨a263, h264, kfb3fb136tb259⟩ := post_getO kfb3fb136tb259
                    have qa263 := dq_some r228 h264
                    refine ⟨_, rfl, _, rfl, ?_⟩
                    refine ⟨F241, _, b38.1, _, a263, rfl, eF241, r42, qa263, (post_bd kfb3fb136tb259).mono (fun b265 kfb3fb136tb259 v270 F266 H267 g268 r269 => ?_) (fun _ z => z)⟩
                    have eF266 := g268.s
                    have gF266 := gF241_.trans (g268.weak (by simp))
                    replace r42 := r42.up g268.f
                    replace r56 := r56.up g268.f
                    replace s61 := ex_t g268.f s61
                    replace a62 := a62.up g268.f
                    replace r70 := r70.up g268.f
                    replace s94 := g268.f _ _ s94
                    replace a95 := a95.up g268.f
                    replace r99 := r99.up g268.f
                    replace r105 := r105.up g268.f
                    replace s167 := ex_t g268.f s167
                    replace a168 := a168.up g268.f
                    replace o173 := g268.own (by simp [*]) o173.1 o173.2
                    replace a174 := a174.up g268.f
                    replace r179 := r179.up g268.f
                    replace w193 := w193.keep g268
                    replace r197 := r197.up g268.f
                    replace r203 := r203.up g268.f
                    replace r215 := r215.up g268.f
                    replace r221 := r221.up g268.f
                    replace r228 := r228.up g268.f
                    replace qa263 := qa263.up g268.f
                    obtain ⟨p272, xs273, rfl, s274, a275⟩ := dp_tup r269
                    refine ⟨_, _, _, rfl, .inr (ex_t eF266 s274), len_all a275, _, rfl, _, _, rfl, rfl, _, _, rfl, rfl, _, rfl, ?_⟩
                    exact kfb3fb136tb259.h _ _ gF266
                  have eF260 := g262.s
                  have gF260 := gF241.trans (g262.weak (by simp))
                  replace r42 := r42.up g262.f
                  replace r56 := r56.up g262.f
                  replace s61 := ex_t g262.f s61
                  replace a62 := a62.up g262.f
                  replace r70 := r70.up g262.f
                  replace s94 := g262.f _ _ s94
                  replace a95 := a95.up g262.f
                  replace r99 := r99.up g262.f
                  replace r105 := r105.up g262.f
                  replace s167 := ex_t g262.f s167
                  replace a168 := a168.up g262.f
                  replace o173 := g262.own (by simp [*]) o173.1 o173.2
                  replace a174 := a174.up g262.f
                  replace r179 := r179.up g262.f
                  replace w193 := w193.keep g262
                  replace r197 := r197.up g262.f
                  replace r203 := r203.up g262.f
                  replace r215 := r215.up g262.f
                  replace r221 := r221.up g262.f
                  replace r228 := r228.up g262.f
                  refine cs kfb3fb136 (fun _ kfb3fb136 => ?_) (fun _ kfb3fb136 => ?_)
                  · exact (show Post (Mm.ok _) _ _ from (show Post (Mm.ok _) _ _ from kfb3fb136.h).h).h _
                  · refine ⟨_, rfl, _, rfl, _, rfl, _, _, rfl, rfl, _, _, rfl, ?_⟩
                    refine ⟨F260, _, b38.1, _, m206, (minI (4 : Int) (b45.1 + (1 : Int))), rfl, eF260, r42, r215, (post_bd kfb3fb136).mono (fun b276 kfb3fb136 v281 F277 H278 g279 r280 => ?_) (fun _ z => z)⟩
                    have eF277 := g279.s
                    have gF277 := gF260.trans (g279.weak (by simp))
                    replace r42 := r42.up g279.f
                    replace r56 := r56.up g279.f
                    replace s61 := ex_t g279.f s61
                    replace a62 := a62.up g279.f
                    replace r70 := r70.up g279.f
                    replace s94 := g279.f _ _ s94
                    replace a95 := a95.up g279.f
                    replace r99 := r99.up g279.f
                    replace r105 := r105.up g279.f
                    replace s167 := ex_t g279.f s167
                    replace a168 := a168.up g279.f
                    replace o173 := g279.own (by simp [*]) o173.1 o173.2
                    replace a174 := a174.up g279.f
                    replace r179 := r179.up g279.f
                    replace w193 := w193.keep g279
                    replace r197 := r197.up g279.f
                    replace r203 := r203.up g279.f
                    replace r215 := r215.up g279.f
                    replace r221 := r221.up g279.f
                    replace r228 := r228.up g279.f
                    refine ⟨_, rfl, ?_⟩
                    obtain ⟨p283, xs284, rfl, s285, a286⟩ := dp_tup r221
                    refine ⟨_, rfl, ⟨_, (ex_t eF277 s285)⟩, ?_⟩
                    obtain ⟨h306, kfb3fb136⟩ := post_guard kfb3fb136
                    refine lc_fil (K := K) (M := []) (wlk_tup eF277 s285 a286) PyData.int kfb3fb136 eF277 h306 (fun _ _ => by simp) (fun x289 v304 F297 H298 F299 H300 g301 g302 r303 Q' k287 => ?_) (fun _ z => z) (fun b288 v290 F291 H292 g293 r294 kfb3fb136 => ?_) gm_name
                    · have g307 := Gm.refl (M := []) g301.s
                      replace r42 := r42.up g301.f
                      replace r56 := r56.up g301.f
                      replace s61 := ex_t g301.f s61
                      replace a62 := a62.up g301.f
                      replace r70 := r70.up g301.f
                      replace s94 := g301.f _ _ s94
                      replace a95 := a95.up g301.f
                      replace r99 := r99.up g301.f
                      replace r105 := r105.up g301.f
                      replace s167 := ex_t g301.f s167
                      replace a168 := a168.up g301.f
                      replace o173 := g301.own (by simp [*]) o173.1 o173.2
                      replace a174 := a174.up g301.f
                      replace r179 := r179.up g301.f
                      replace w193 := w193.keep g301
                      replace r197 := r197.up g301.f
                      replace r203 := r203.up g301.f
                      replace r215 := r215.up g301.f
                      replace r221 := r221.up g301.f
                      replace r228 := r228.up g301.f
                      replace r280 := r280.up g301.f
                      replace s285 := ex_t g301.f s285
                      replace a286 := a286.up g301.f
                      replace r42 := r42.up g302.f
                      replace r56 := r56.up g302.f
                      replace s61 := ex_t g302.f s61
                      replace a62 := a62.up g302.f
                      replace r70 := r70.up g302.f
                      replace s94 := g302.f _ _ s94
                      replace a95 := a95.up g302.f
                      replace r99 := r99.up g302.f
                      replace r105 := r105.up g302.f
                      replace s167 := ex_t g302.f s167
                      replace a168 := a168.up g302.f
                      replace o173 := g302.own (by simp [*]) o173.1 o173.2
                      replace a174 := a174.up g302.f
                      replace r179 := r179.up g302.f
                      replace w193 := w193.keep g302
                      replace r197 := r197.up g302.f
                      replace r203 := r203.up g302.f
                      replace r215 := r215.up g302.f
                      replace r221 := r221.up g302.f
                      replace r228 := r228.up g302.f
                      replace r280 := r280.up g302.f
                      replace s285 := ex_t g302.f s285
                      replace a286 := a286.up g302.f
                      have eF299 := g302.s
                      have gF299 := g307.trans (g302.weak (by simp))
                      obtain rfl := dp_int r303
                      refine ⟨rfl, _, rfl, _, rfl, x289, b276, (Dq.int x289).dp eF299, r280.dp eF299, _, rfl, ?_⟩
                      refine cs k287 (fun _ k287 => ?_) (fun _ k287 => ?_)
                      · refine ⟨_, rfl, ?_⟩
                        exact k287.h _ _ _ gF299 ⟨_, rfl, (Dq.int x289)⟩
                      · exact k287.h _ _ _ gF299 rfl
                    have eF291 := g293.s
                    have gF291 := gF277.trans (g293.weak (by simp))
                    replace r42 := r42.up g293.f
                    replace r56 := r56.up g293.f
                    replace s61 := ex_t g293.f s61
                    replace a62 := a62.up g293.f
                    replace r70 := r70.up g293.f
                    replace s94 := g293.f _ _ s94
                    replace a95 := a95.up g293.f
                    replace r99 := r99.up g293.f
                    replace r105 := r105.up g293.f
                    replace s167 := ex_t g293.f s167
                    replace a168 := a168.up g293.f
                    replace o173 := g293.own (by simp [*]) o173.1 o173.2
                    replace a174 := a174.up g293.f
                    replace r179 := r179.up g293.f
                    replace w193 := w193.keep g293
                    replace r197 := r197.up g293.f
                    replace r203 := r203.up g293.f
                    replace r215 := r215.up g293.f
                    replace r221 := r221.up g293.f
                    replace r228 := r228.up g293.f
                    replace r280 := r280.up g293.f
                    replace s285 := ex_t g293.f s285
                    replace a286 := a286.up g293.f
                    show _ ∧ _
                    refine new_lst (K := K) (M := []) eF291 .nil (by show 0 ≤ 100000; decide) fun v313 F309 H310 g311 r312 => ?_
                    have eF309 := g311.s
                    have gF309 := gF291.trans (g311.weak (by simp))
                    replace r42 := r42.up g311.f
                    replace r56 := r56.up g311.f
                    replace s61 := ex_t g311.f s61
                    replace a62 := a62.up g311.f
                    replace r70 := r70.up g311.f
                    replace s94 := g311.f _ _ s94
                    replace a95 := a95.up g311.f
                    replace r99 := r99.up g311.f
                    replace r105 := r105.up g311.f
                    replace s167 := ex_t g311.f s167
                    replace a168 := a168.up g311.f
                    replace o173 := g311.own (by simp [*]) o173.1 o173.2
                    replace a174 := a174.up g311.f
                    replace r179 := r179.up g311.f
                    replace w193 := w193.keep g311
                    replace r197 := r197.up g311.f
                    replace r203 := r203.up g311.f
                    replace r215 := r215.up g311.f
                    replace r221 := r221.up g311.f
                    replace r228 := r228.up g311.f
                    replace r280 := r280.up g311.f
                    replace s285 := ex_t g311.f s285
                    replace a286 := a286.up g311.f
                    replace r294 := r294.up g311.f
                    replace r312 : Dq K F309 v313 ((eL PyData.int) []) := r312
                    refine ⟨b288, [], r294.dp eF309, r312.dp eF309, ?_⟩
                    refine ⟨_, rfl, ?_⟩
                    refine cs kfb3fb136 (fun _ kfb3fb136 => ?_) (fun _ kfb3fb136 => ?_)
                    · exact (show Post (Mm.ok _) _ _ from (show Post (Mm.ok _) _ _ from kfb3fb136.h).h).h _
                    · exact kfb3fb136.h _ _ _ gF309 ⟨_, _, _, _, _, _, _, _, _, _, rfl, w193⟩
        have g314 := gF109.trans (g150.weak (by simp))
        replace r42 := r42.up g150.f
        replace r56 := r56.up g150.f
        replace s61 := ex_t g150.f s61
        replace a62 := a62.up g150.f
        replace r70 := r70.up g150.f
        replace s94 := g150.f _ _ s94
        replace a95 := a95.up g150.f
        replace r99 := r99.up g150.f
        replace r105 := r105.up g150.f
        have eF148 := g150.s
        obtain ⟨u315, u316, u317, u318, u319, u320, u321, u322, u323, u324, rfl, w325⟩ := i151
        refine ⟨_, rfl, _, rfl, ?_⟩
        refine ⟨F148, sc, ra, scr, b153, (b38.1.length : Int), rfl, eF148, w325, (post_bd kfb3).mono (fun b326 kfb3 v331 F327 H328 g329 ⟨r330, w332⟩ => ?_) (fun _ z => z)⟩
        have eF327 := g329.s
        have gF327 := g314.trans (g329.weak (by simp))
        replace r42 := r42.up g329.f
        replace r56 := r56.up g329.f
        replace s61 := ex_t g329.f s61
        replace a62 := a62.up g329.f
        replace r70 := r70.up g329.f
        replace s94 := g329.f _ _ s94
        replace a95 := a95.up g329.f
        replace r99 := r99.up g329.f
        replace r105 := r105.up g329.f
        refine ⟨_, rfl, _, rfl, _, rfl, ?_⟩
        refine ⟨F327, _, b38.1, _, b326.1, b45.1, rfl, eF327, r42, r330, (post_bd kfb3).mono (fun b333 kfb3 v338 F334 H335 g336 r337 => ?_) (fun _ z => z)⟩
        have eF334 := g336.s
        have gF334 := gF327.trans (g336.weak (by simp))
        replace r42 := r42.up g336.f
        replace r56 := r56.up g336.f
        replace s61 := ex_t g336.f s61
        replace a62 := a62.up g336.f
        replace r70 := r70.up g336.f
        replace s94 := g336.f _ _ s94
        replace a95 := a95.up g336.f
        replace r99 := r99.up g336.f
        replace r105 := r105.up g336.f
        replace w332 := w332.keep g336
        replace r330 := r330.up g336.f
        refine ⟨_, rfl, _, rfl, ?_⟩
        rw [none_O r337]
        refine and_jM (M := []) eF334 kfb3 (fun _ Q' kfb3tb340 => ?_) (fun b340 F341 H342 g343 kfb3 => ?_)
        · have gF334_ := Gm.refl (M := []) eF334
          obtain ⟨a344, h345, kfb3tb340⟩ := post_getO kfb3tb340
          have qa344 := dq_some r337 h345
          refine ⟨_, rfl, _, rfl, _, rfl, ?_⟩
          refine ⟨F334, _, b38.1, _, a344, b45.1, rfl, eF334, r42, qa344, (post_bd kfb3tb340).mono (fun b346 kfb3tb340 v351 F347 H348 g349 r350 => ?_) (fun _ z => z)⟩
          have eF347 := g349.s
          have gF347 := gF334_.trans (g349.weak (by simp))
          replace r42 := r42.up g349.f
          replace r56 := r56.up g349.f
          replace s61 := ex_t g349.f s61
          replace a62 := a62.up g349.f
          replace r70 := r70.up g349.f
          replace s94 := g349.f _ _ s94
          replace a95 := a95.up g349.f
          replace r99 := r99.up g349.f
          replace r105 := r105.up g349.f
          replace w332 := w332.keep g349
          replace r330 := r330.up g349.f
          replace r337 := r337.up g349.f
          replace qa344 := qa344.up g349.f
          refine ⟨_, rfl, b346, (some a344), r350.dp eF347, qa344.dp eF347, ?_⟩
          refine ⟨_, rfl, ?_⟩
          exact kfb3tb340.h _ _ gF347
        have eF341 := g343.s
        have gF341 := gF334.trans (g343.weak (by simp))
        replace r42 := r42.up g343.f
        replace r56 := r56.up g343.f
        replace s61 := ex_t g343.f s61
        replace a62 := a62.up g343.f
        replace r70 := r70.up g343.f
        replace s94 := g343.f _ _ s94
        replace a95 := a95.up g343.f
        replace r99 := r99.up g343.f
        replace r105 := r105.up g343.f
        replace w332 := w332.keep g343
        replace r330 := r330.up g343.f
        replace r337 := r337.up g343.f
        refine cs kfb3 (fun _ kfb3 => ?_) (fun _ kfb3 => ?_)
        · exact (show Post (Mm.ok _) _ _ from kfb3.h).h _
        · refine ⟨_, rfl, _, rfl, ?_⟩
          refine ⟨F341, _, b38.1, _, b326.1, rfl, eF341, r42, r330, (post_bd kfb3).mono (fun b353 kfb3 v358 F354 H355 g356 r357 => ?_) (fun _ z => z)⟩
          have eF354 := g356.s
          have gF354 := gF341.trans (g356.weak (by simp))
          replace r42 := r42.up g356.f
          replace r56 := r56.up g356.f
          replace s61 := ex_t g356.f s61
          replace a62 := a62.up g356.f
          replace r70 := r70.up g356.f
          replace s94 := g356.f _ _ s94
          replace a95 := a95.up g356.f
          replace r99 := r99.up g356.f
          replace r105 := r105.up g356.f
          replace w332 := w332.keep g356
          replace r330 := r330.up g356.f
          replace r337 := r337.up g356.f
          obtain ⟨p360, xs361, rfl, s362, a363⟩ := dp_tup r357
          refine ⟨_, _, _, rfl, .inr (ex_t eF354 s362), len_all a363, _, rfl, _, _, rfl, rfl, _, _, rfl, rfl, ?_⟩
          refine ⟨_, rfl, _, rfl, _, rfl, ?_⟩
          obtain ⟨p364, xs365, rfl, s366, a367⟩ := dp_tup r330
          refine ⟨_, rfl, ⟨_, (ex_t eF354 s366)⟩, ?_⟩
          obtain ⟨h387, kfb3⟩ := post_guard kfb3
          refine lc_map (K := K) (M := []) (wlk_tup eF354 s366 a367) (e2 PyData.int PyData.int) kfb3 eF354 h387 (fun _ _ => by simp) (fun x370 v385 F378 H379 F380 H381 g382 g383 r384 Q' k368 => ?_) (fun _ z => z) (fun b369 v371 F372 H373 g374 r375 kfb3 => ?_) gm_name
          · have g388 := Gm.refl (M := []) g382.s
            replace r42 := r42.up g382.f
            replace r56 := r56.up g382.f
            replace s61 := ex_t g382.f s61
            replace a62 := a62.up g382.f
            replace r70 := r70.up g382.f
            replace s94 := g382.f _ _ s94
            replace a95 := a95.up g382.f
            replace r99 := r99.up g382.f
            replace r105 := r105.up g382.f
            replace w332 := w332.keep g382
            replace r330 := r330.up g382.f
            replace r337 := r337.up g382.f
            replace r357 := r357.up g382.f
            replace s362 := ex_t g382.f s362
            replace a363 := a363.up g382.f
            replace s366 := ex_t g382.f s366
            replace a367 := a367.up g382.f
            replace r42 := r42.up g383.f
            replace r56 := r56.up g383.f
            replace s61 := ex_t g383.f s61
            replace a62 := a62.up g383.f
            replace r70 := r70.up g383.f
            replace s94 := g383.f _ _ s94
            replace a95 := a95.up g383.f
            replace r99 := r99.up g383.f
            replace r105 := r105.up g383.f
            replace w332 := w332.keep g383
            replace r330 := r330.up g383.f
            replace r337 := r337.up g383.f
            replace r357 := r357.up g383.f
            replace s362 := ex_t g383.f s362
            replace a363 := a363.up g383.f
            replace s366 := ex_t g383.f s366
            replace a367 := a367.up g383.f
            have eF380 := g383.s
            have gF380 := g388.trans (g383.weak (by simp))
            refine ⟨rfl, _, rfl, ?_⟩
            obtain ⟨p389, x390, x391, rfl, s392, d393, d394⟩ := dp_tup2 r384
            obtain rfl := dp_int d393
            obtain rfl := dp_int d394
            refine ⟨_, _, _, _, rfl, rfl, ex_t eF380 s392, rfl, _, rfl, ?_⟩
            refine ⟨_, _, _, _, rfl, rfl, ex_t eF380 s392, rfl, ?_⟩
            refine ⟨F380, x370.1, x370.2, rfl, eF380, (post_bd k368).mono (fun b395 k368 v400 F396 H397 g398 r399 => ?_) (fun _ z => z)⟩
            have eF396 := g398.s
            have gF396 := gF380.trans (g398.weak (by simp))
            replace r42 := r42.up g398.f
            replace r56 := r56.up g398.f
            replace s61 := ex_t g398.f s61
            replace a62 := a62.up g398.f
            replace r70 := r70.up g398.f
            replace s94 := g398.f _ _ s94
            replace a95 := a95.up g398.f
            replace r99 := r99.up g398.f
            replace r105 := r105.up g398.f
            replace w332 := w332.keep g398
            replace r330 := r330.up g398.f
            replace r337 := r337.up g398.f
            replace r357 := r357.up g398.f
            replace s362 := ex_t g398.f s362
            replace a363 := a363.up g398.f
            replace s366 := ex_t g398.f s366
            replace a367 := a367.up g398.f
            replace r384 := r384.up g398.f
            replace s392 := ex_t g398.f s392
            exact k368.h _ _ _ gF396 r399
          have eF372 := g374.s
          have gF372 := gF354.trans (g374.weak (by simp))
          replace r42 := r42.up g374.f
          replace r56 := r56.up g374.f
          replace s61 := ex_t g374.f s61
          replace a62 := a62.up g374.f
          replace r70 := r70.up g374.f
          replace s94 := g374.f _ _ s94
          replace a95 := a95.up g374.f
          replace r99 := r99.up g374.f
          replace r105 := r105.up g374.f
          replace w332 := w332.keep g374
          replace r330 := r330.up g374.f
          replace r337 := r337.up g374.f
          replace r357 := r357.up g374.f
          replace s362 := ex_t g374.f s362
          replace a363 := a363.up g374.f
          replace s366 := ex_t g374.f s366
          replace a367 := a367.up g374.f
          obtain ⟨p403, xs404, rfl, s405, a406⟩ := dp_lst r375
          refine to_VL (K := K) (M := []) eF372 s405 a406 (en := (e2 PyData.int PyData.int)) (l := b369) fun v411 F407 H408 g409 r410 => ?_
          have eF407 := g409.s
          have gF407 := gF372.trans (g409.weak (by simp))
          replace r42 := r42.up g409.f
          replace r56 := r56.up g409.f
          replace s61 := ex_t g409.f s61
          replace a62 := a62.up g409.f
          replace r70 := r70.up g409.f
          replace s94 := g409.f _ _ s94
          replace a95 := a95.up g409.f
          replace r99 := r99.up g409.f
          replace r105 := r105.up g409.f
          replace w332 := w332.keep g409
          replace r330 := r330.up g409.f
          replace r337 := r337.up g409.f
          replace r357 := r357.up g409.f
          replace s362 := ex_t g409.f s362
          replace a363 := a363.up g409.f
          replace s366 := ex_t g409.f s366
          replace a367 := a367.up g409.f
          replace r375 := r375.up g409.f
          replace s405 := g409.f _ _ s405
          replace a406 := a406.up g409.f
          refine ⟨b333, (some b369), r337.dp eF407, r410.dp eF407, ?_⟩
          refine ⟨rfl, ?_⟩
          rw [decV_bl]
          refine ⟨_, rfl, ?_⟩
          refine cs kfb3 (fun _ kfb3 => ?_) (fun _ kfb3 => ?_)
          · exact (show Post (Mm.ok _) _ _ from kfb3.h).h _
          · exact kfb3.h _ _ _ gF407 ⟨_, _, _, _, _, _, _, _, _, _, _, _, _, _, _, _, rfl, w332⟩
    have g412 := g_.trans (g17.weak (by simp))
    have eF15 := g17.s
    obtain ⟨u413, u414, u415, u416, u417, u418, u419, u420, u421, u422, u423, u424, u425, u426, u427, u428, rfl, w429⟩ := i18
    exact k.h _
end L

set_option Elab.async false
set_option linter.all false
set_option maxRecDepth 100000
set_option maxHeartbeats 0
namespace L
open PySem L2 Evl Wk
/-! ### the head -/
def dd_whole_within : He5.DefA := ⟨gAt "whole_within", "whole_within", "whole_within", defArgs s_whole_within, defBody s_whole_within, defScope s_whole_within, [], []⟩
def dd_check_within : He5.DefA := ⟨gAt "check_within", "check_within", "check_within", defArgs s_check_within, defBody s_check_within, defScope s_check_within, [], []⟩
def dd_lowest : He5.DefA := ⟨gAt "lowest", "lowest", "lowest", defArgs s_lowest, defBody s_lowest, defScope s_lowest, [], []⟩
def dd_plus : He5.DefA := ⟨gAt "plus", "plus", "plus", defArgs s_plus, defBody s_plus, defScope s_plus, [], []⟩
def dd_minus : He5.DefA := ⟨gAt "minus", "minus", "minus", defArgs s_minus, defBody s_minus, defScope s_minus, [], []⟩
def dd_times : He5.DefA := ⟨gAt "times", "times", "times", defArgs s_times, defBody s_times, defScope s_times, [], []⟩
def dd_over : He5.DefA := ⟨gAt "over", "over", "over", defArgs s_over, defBody s_over, defScope s_over, [], []⟩
def dd_is_less : He5.DefA := ⟨gAt "is_less", "is_less", "is_less", defArgs s_is_less, defBody s_is_less, defScope s_is_less, [], []⟩
def dd_with_root : He5.DefA := ⟨gAt "with_root", "with_root", "with_root", defArgs s_with_root, defBody s_with_root, defScope s_with_root, [], []⟩
def dd_with_roots : He5.DefA := ⟨gAt "with_roots", "with_roots", "with_roots", defArgs s_with_roots, defBody s_with_roots, defScope s_with_roots, [], []⟩
def dd_worth : He5.DefA := ⟨gAt "worth", "worth", "worth", defArgs s_worth, defBody s_worth, defScope s_worth, [], []⟩
def dd_only_at : He5.DefA := ⟨gAt "only_at", "only_at", "only_at", defArgs s_only_at, defBody s_only_at, defScope s_only_at, [], []⟩
def dd_trimmed : He5.DefA := ⟨gAt "trimmed", "trimmed", "trimmed", defArgs s_trimmed, defBody s_trimmed, defScope s_trimmed, [], []⟩
def dd_ascending_places : He5.DefA := ⟨gAt "ascending_places", "ascending_places", "ascending_places", defArgs s_ascending_places, defBody s_ascending_places, defScope s_ascending_places, [], []⟩
def dd_checked_places : He5.DefA := ⟨gAt "checked_places", "checked_places", "checked_places", defArgs s_checked_places, defBody s_checked_places, defScope s_checked_places, [], []⟩
def dd_checked_readings : He5.DefA := ⟨gAt "checked_readings", "checked_readings", "checked_readings", defArgs s_checked_readings, defBody s_checked_readings, defScope s_checked_readings, [], []⟩
def dd_polynomial_through : He5.DefA := ⟨gAt "polynomial_through", "polynomial_through", "polynomial_through", defArgs s_polynomial_through, defBody s_polynomial_through, defScope s_polynomial_through, [], []⟩
def dd_polynomial_by : He5.DefA := ⟨gAt "polynomial_by", "polynomial_by", "polynomial_by", defArgs s_polynomial_by, defBody s_polynomial_by, defScope s_polynomial_by, [], []⟩
def dd_without : He5.DefA := ⟨gAt "without", "without", "without", defArgs s_without, defBody s_without, defScope s_without, [], []⟩
def dd_fits : He5.DefA := ⟨gAt "fits", "fits", "fits", defArgs s_fits, defBody s_fits, defScope s_fits, [], []⟩
def dd_false_alone : He5.DefA := ⟨gAt "false_alone", "false_alone", "false_alone", defArgs s_false_alone, defBody s_false_alone, defScope s_false_alone, [], []⟩
def dd_false_ones : He5.DefA := ⟨gAt "false_ones", "false_ones", "false_ones", defArgs s_false_ones, defBody s_false_ones, defScope s_false_ones, [], []⟩
def dd_repaired : He5.DefA := ⟨gAt "repaired", "repaired", "repaired", defArgs s_repaired, defBody s_repaired, defScope s_repaired, [], []⟩
def dd_law_taken : He5.DefA := ⟨gAt "_law_taken", "_law_taken", "_law_taken", defArgs s_law_taken, defBody s_law_taken, defScope s_law_taken, [], []⟩
def dd_law_low : He5.DefA := ⟨gAt "_law_low", "_law_low", "_law_low", defArgs s_law_low, defBody s_law_low, defScope s_law_low, [], []⟩
def dd_law_add : He5.DefA := ⟨gAt "_law_add", "_law_add", "_law_add", defArgs s_law_add, defBody s_law_add, defScope s_law_add, [], []⟩
def dd_law_times : He5.DefA := ⟨gAt "_law_times", "_law_times", "_law_times", defArgs s_law_times, defBody s_law_times, defScope s_law_times, [], []⟩
def dd_law_places : He5.DefA := ⟨gAt "_law_places", "_law_places", "_law_places", defArgs s_law_places, defBody s_law_places, defScope s_law_places, [], []⟩
def dd_law_worth : He5.DefA := ⟨gAt "_law_worth", "_law_worth", "_law_worth", defArgs s_law_worth, defBody s_law_worth, defScope s_law_worth, [], []⟩
def dd_law_fractions : He5.DefA := ⟨gAt "_law_fractions", "_law_fractions", "_law_fractions", defArgs s_law_fractions, defBody s_law_fractions, defScope s_law_fractions, [], []⟩
def dd_law : He5.DefA := ⟨gAt "law", "law", "law", defArgs s_law, defBody s_law, defScope s_law, [], []⟩
def fn : List He5.DefA := [dd_whole_within, dd_check_within, dd_lowest, dd_plus, dd_minus, dd_times, dd_over, dd_is_less, dd_with_root, dd_with_roots, dd_worth, dd_only_at, dd_trimmed, dd_ascending_places, dd_checked_places, dd_checked_readings, dd_polynomial_through, dd_polynomial_by, dd_without, dd_fits, dd_false_alone, dd_false_ones, dd_repaired, dd_law_taken, dd_law_low, dd_law_add, dd_law_times, dd_law_places, dd_law_worth, dd_law_fractions, dd_law]
def fa : List He.Fa := [.free "len", .free "int", .free "bool", .free "str", .free "abs", .free "sum", .free "min", .free "max", .free "list", .free "tuple", .free "set", .free "dict", .free "sorted", .free "range", .free "enumerate", .free "zip", .free "reversed", .free "isinstance", .glo "whole_within", .glo "check_within", .glo "lowest", .glo "plus", .glo "minus", .glo "times", .glo "over", .glo "is_less", .glo "with_root", .glo "with_roots", .glo "worth", .glo "only_at", .glo "trimmed", .glo "ascending_places", .glo "checked_places", .glo "checked_readings", .glo "polynomial_through", .glo "polynomial_by", .glo "without", .glo "fits", .glo "false_alone", .glo "false_ones", .glo "repaired", .glo "_law_taken", .glo "_law_low", .glo "_law_add", .glo "_law_times", .glo "_law_places", .glo "_law_worth", .glo "_law_fractions", .glo "law", .glo "NOUGHT", .glo "ONE", .int "MOST_PLACES" (6), .int "MOST_READ_DEGREE" (4)]
def ex (K : PySem.W.Frag) : Bool := bltB "gcd" "math.gcd" K && (He.tupB K "NOUGHT" [.int (0), .int (1)] && (He.tupB K "ONE" [.int (1), .int (1)]))
abbrev R : PySem.W.OpenRow := PySem.W.OpenLaw.row PySem.Challenge.rw_fewreadings_k52_whole_false_readings_men
abbrev hk : PySem.W.Hook := hookX 6 fa fn ex
def ob (s : PySem.W.SharedT) : He.AlD := obsXG 6 fa fn ex (HandSHeadRun.getT s)
theorem ob_eq (s : PySem.W.SharedT) : ob s = hk.obs s.abs := obsXG_eq (HandSHeadRun.getT_eq s)
abbrev looseN : List Str := (["ReadingError", "InvalidNumber", "InvalidPlaces", "InvalidReadings", "NOUGHT", "ONE", "whole_within", "check_within", "lowest", "plus", "minus", "times", "over", "is_less", "with_root", "with_roots", "worth", "only_at", "trimmed", "MOST_PLACES"] : List Str) ++ (["ascending_places", "checked_places", "MOST_READ_DEGREE", "checked_readings", "polynomial_through", "polynomial_by", "without", "fits", "false_alone", "false_ones", "repaired", "_law_taken", "_law_low", "_law_add", "_law_times", "_law_places", "_law_worth", "_law_fractions"] : List Str)
abbrev vw : Program := PySem.W.view R.prog [0, 44]
theorem run (w : World) : HandSHeadRun.RunEqI R vw hk ob 6000 looseN w := by
  unfold HandSHeadRun.RunEqI
  kernel_rfl
theorem facts {P : Program} {w : World} {K : PySem.W.Frag} {h : Heap} {mg : Str → Option Value} {f : Addr} (X : K.In h) (G : h.Ns mainGlobals mg) (hfa : mg ("law" : Str) = some (.ref f)) (c : SaysX fa fn ex K) :
    ∃ fd : FuncData, (∀ (s : Shared) (v : Value), BindsTo s fd ⟨[v], []⟩ [("_law_script", v)]) ∧ ∀ base : Heap, K.In base → base.Ns mainGlobals mg → FnOk P w K mg base CX0 10 f fd ["_law_script"] (sp_law K) := by
  have B : Bi mg := ⟨He.free_ok X G (c.fact 0 (f := .free "len") rfl), He.free_ok X G (c.fact 1 (f := .free "int") rfl), He.free_ok X G (c.fact 2 (f := .free "bool") rfl), He.free_ok X G (c.fact 3 (f := .free "str") rfl), He.free_ok X G (c.fact 4 (f := .free "abs") rfl), He.free_ok X G (c.fact 5 (f := .free "sum") rfl), He.free_ok X G (c.fact 6 (f := .free "min") rfl), He.free_ok X G (c.fact 7 (f := .free "max") rfl), He.free_ok X G (c.fact 8 (f := .free "list") rfl), He.free_ok X G (c.fact 9 (f := .free "tuple") rfl), He.free_ok X G (c.fact 10 (f := .free "set") rfl), He.free_ok X G (c.fact 11 (f := .free "dict") rfl), He.free_ok X G (c.fact 12 (f := .free "sorted") rfl), He.free_ok X G (c.fact 13 (f := .free "range") rfl), He.free_ok X G (c.fact 14 (f := .free "enumerate") rfl), He.free_ok X G (c.fact 15 (f := .free "zip") rfl), He.free_ok X G (c.fact 16 (f := .free "reversed") rfl), He.free_ok X G (c.fact 17 (f := .free "isinstance") rfl)⟩
  obtain ⟨fd_whole_within, F_whole_within⟩ := c.def_ 0 (d := dd_whole_within) rfl
  obtain ⟨fd_check_within, F_check_within⟩ := c.def_ 1 (d := dd_check_within) rfl
  obtain ⟨fd_lowest, F_lowest⟩ := c.def_ 2 (d := dd_lowest) rfl
  obtain ⟨fd_plus, F_plus⟩ := c.def_ 3 (d := dd_plus) rfl
  obtain ⟨fd_minus, F_minus⟩ := c.def_ 4 (d := dd_minus) rfl
  obtain ⟨fd_times, F_times⟩ := c.def_ 5 (d := dd_times) rfl
  obtain ⟨fd_over, F_over⟩ := c.def_ 6 (d := dd_over) rfl
  obtain ⟨fd_is_less, F_is_less⟩ := c.def_ 7 (d := dd_is_less) rfl
  obtain ⟨fd_with_root, F_with_root⟩ := c.def_ 8 (d := dd_with_root) rfl
  obtain ⟨fd_with_roots, F_with_roots⟩ := c.def_ 9 (d := dd_with_roots) rfl
  obtain ⟨fd_worth, F_worth⟩ := c.def_ 10 (d := dd_worth) rfl
  obtain ⟨fd_only_at, F_only_at⟩ := c.def_ 11 (d := dd_only_at) rfl
  obtain ⟨fd_trimmed, F_trimmed⟩ := c.def_ 12 (d := dd_trimmed) rfl
  obtain ⟨fd_ascending_places, F_ascending_places⟩ := c.def_ 13 (d := dd_ascending_places) rfl
  obtain ⟨fd_checked_places, F_checked_places⟩ := c.def_ 14 (d := dd_checked_places) rfl
  obtain ⟨fd_checked_readings, F_checked_readings⟩ := c.def_ 15 (d := dd_checked_readings) rfl
  obtain ⟨fd_polynomial_through, F_polynomial_through⟩ := c.def_ 16 (d := dd_polynomial_through) rfl
  obtain ⟨fd_polynomial_by, F_polynomial_by⟩ := c.def_ 17 (d := dd_polynomial_by) rfl
  obtain ⟨fd_without, F_without⟩ := c.def_ 18 (d := dd_without) rfl
  obtain ⟨fd_fits, F_fits⟩ := c.def_ 19 (d := dd_fits) rfl
  obtain ⟨fd_false_alone, F_false_alone⟩ := c.def_ 20 (d := dd_false_alone) rfl
  obtain ⟨fd_false_ones, F_false_ones⟩ := c.def_ 21 (d := dd_false_ones) rfl
  obtain ⟨fd_repaired, F_repaired⟩ := c.def_ 22 (d := dd_repaired) rfl
  obtain ⟨fd_law_taken, F_law_taken⟩ := c.def_ 23 (d := dd_law_taken) rfl
  obtain ⟨fd_law_low, F_law_low⟩ := c.def_ 24 (d := dd_law_low) rfl
  obtain ⟨fd_law_add, F_law_add⟩ := c.def_ 25 (d := dd_law_add) rfl
  obtain ⟨fd_law_times, F_law_times⟩ := c.def_ 26 (d := dd_law_times) rfl
  obtain ⟨fd_law_places, F_law_places⟩ := c.def_ 27 (d := dd_law_places) rfl
  obtain ⟨fd_law_worth, F_law_worth⟩ := c.def_ 28 (d := dd_law_worth) rfl
  obtain ⟨fd_law_fractions, F_law_fractions⟩ := c.def_ 29 (d := dd_law_fractions) rfl
  obtain ⟨fd_law, F_law⟩ := c.def_ 30 (d := dd_law) rfl
  have e0 := c.ext
  obtain ⟨x0, e1⟩ := He.ba e0
  obtain ⟨x1, e2⟩ := He.ba e1
  have x2 := e2
  have c_gcd := bltB_ok X G x0
  have c_NOUGHT := He.glo_ok X G (c.fact 49 (f := .glo "NOUGHT") rfl)
  have d_NOUGHT : ∀ F, Dq K F (.ref (He.ga K "NOUGHT")) (.tuple [.int (0), .int (1)]) := fun F => .tup (He.tupB_ok x1 F) (.cons (Dq.int _) (.cons (Dq.int _) (.nil)))
  have c_ONE := He.glo_ok X G (c.fact 50 (f := .glo "ONE") rfl)
  have d_ONE : ∀ F, Dq K F (.ref (He.ga K "ONE")) (.tuple [.int (1), .int (1)]) := fun F => .tup (He.tupB_ok x2 F) (.cons (Dq.int _) (.cons (Dq.int _) (.nil)))
  have c_MOST_PLACES := He.int_ok X G (c.fact 51 (f := .int "MOST_PLACES" (6)) rfl)
  have c_MOST_READ_DEGREE := He.int_ok X G (c.fact 52 (f := .int "MOST_READ_DEGREE" (4)) rfl)
  have e := hfa.symm.trans (He.glo_ok X G (c.fact 48 (f := .glo "law") rfl))
  cases e
  have bl := FunD.bindsA (ps := ["_law_script"]) F_law fun _ _ _ _ _ _ us hl => match us, hl with | [_], _ => rfl
  refine ⟨fd_law, fun s v => bl s [v] rfl, fun base _ _ => ?_⟩
  have G_whole_within : Kn P w K mg base "whole_within" 1 ["number", "low", "high"] (sp_whole_within K) := ⟨_, _, ok_whole_within (C := (0 : Addr)) B F_whole_within, He.glo_ok X G (c.fact 18 (f := .glo "whole_within") rfl), F_whole_within.kp, F_whole_within.bindsN fun _ _ _ _ _ _ us hl => match us, hl with | [_, _, _], _ => rfl⟩
  have G_check_within : Kn P w K mg base "check_within" 2 ["number", "low", "high"] (sp_check_within K) := ⟨_, _, ok_check_within (C := (0 : Addr)) B F_check_within G_whole_within, He.glo_ok X G (c.fact 19 (f := .glo "check_within") rfl), F_check_within.kp, F_check_within.bindsN fun _ _ _ _ _ _ us hl => match us, hl with | [_, _, _], _ => rfl⟩
  have G_lowest : Kn P w K mg base "lowest" 1 ["top", "bottom"] (sp_lowest K) := ⟨_, _, ok_lowest (C := (0 : Addr)) B F_lowest c_gcd, He.glo_ok X G (c.fact 20 (f := .glo "lowest") rfl), F_lowest.kp, F_lowest.bindsN fun _ _ _ _ _ _ us hl => match us, hl with | [_, _], _ => rfl⟩
  have G_plus : Kn P w K mg base "plus" 2 ["one", "other"] (sp_plus K) := ⟨_, _, ok_plus (C := (0 : Addr)) B F_plus G_lowest, He.glo_ok X G (c.fact 21 (f := .glo "plus") rfl), F_plus.kp, F_plus.bindsN fun _ _ _ _ _ _ us hl => match us, hl with | [_, _], _ => rfl⟩
  have G_minus : Kn P w K mg base "minus" 2 ["one", "other"] (sp_minus K) := ⟨_, _, ok_minus (C := (0 : Addr)) B F_minus G_lowest, He.glo_ok X G (c.fact 22 (f := .glo "minus") rfl), F_minus.kp, F_minus.bindsN fun _ _ _ _ _ _ us hl => match us, hl with | [_, _], _ => rfl⟩
  have G_times : Kn P w K mg base "times" 2 ["one", "other"] (sp_times K) := ⟨_, _, ok_times (C := (0 : Addr)) B F_times G_lowest, He.glo_ok X G (c.fact 23 (f := .glo "times") rfl), F_times.kp, F_times.bindsN fun _ _ _ _ _ _ us hl => match us, hl with | [_, _], _ => rfl⟩
  have G_over : Kn P w K mg base "over" 2 ["one", "other"] (sp_over K) := ⟨_, _, ok_over (C := (0 : Addr)) B F_over G_lowest, He.glo_ok X G (c.fact 24 (f := .glo "over") rfl), F_over.kp, F_over.bindsN fun _ _ _ _ _ _ us hl => match us, hl with | [_, _], _ => rfl⟩
  have G_is_less : Kn P w K mg base "is_less" 1 ["one", "other"] (sp_is_less K) := ⟨_, _, ok_is_less (C := (0 : Addr)) B F_is_less, He.glo_ok X G (c.fact 25 (f := .glo "is_less") rfl), F_is_less.kp, F_is_less.bindsN fun _ _ _ _ _ _ us hl => match us, hl with | [_, _], _ => rfl⟩
  have G_with_root : Kn P w K mg base "with_root" 3 ["polynomial", "place"] (sp_with_root K) := ⟨_, _, ok_with_root (C := (0 : Addr)) B F_with_root G_times G_minus c_NOUGHT d_NOUGHT, He.glo_ok X G (c.fact 26 (f := .glo "with_root") rfl), F_with_root.kp, F_with_root.bindsN fun _ _ _ _ _ _ us hl => match us, hl with | [_, _], _ => rfl⟩
  have G_with_roots : Kn P w K mg base "with_roots" 4 ["places"] (sp_with_roots K) := ⟨_, _, ok_with_roots (C := (0 : Addr)) B F_with_roots G_with_root c_ONE d_ONE, He.glo_ok X G (c.fact 27 (f := .glo "with_roots") rfl), F_with_roots.kp, F_with_roots.bindsN fun _ _ _ _ _ _ us hl => match us, hl with | [_], _ => rfl⟩
  have G_worth : Kn P w K mg base "worth" 3 ["polynomial", "place"] (sp_worth K) := ⟨_, _, ok_worth (C := (0 : Addr)) B F_worth G_plus G_times c_NOUGHT d_NOUGHT, He.glo_ok X G (c.fact 28 (f := .glo "worth") rfl), F_worth.kp, F_worth.bindsN fun _ _ _ _ _ _ us hl => match us, hl with | [_, _], _ => rfl⟩
  have G_only_at : Kn P w K mg base "only_at" 5 ["places", "index"] (sp_only_at K) := ⟨_, _, ok_only_at (C := (0 : Addr)) B F_only_at G_with_roots G_worth G_over, He.glo_ok X G (c.fact 29 (f := .glo "only_at") rfl), F_only_at.kp, F_only_at.bindsN fun _ _ _ _ _ _ us hl => match us, hl with | [_, _], _ => rfl⟩
  have G_trimmed : Kn P w K mg base "trimmed" 1 ["polynomial"] (sp_trimmed K) := ⟨_, _, ok_trimmed (C := (0 : Addr)) B F_trimmed c_NOUGHT d_NOUGHT, He.glo_ok X G (c.fact 30 (f := .glo "trimmed") rfl), F_trimmed.kp, F_trimmed.bindsN fun _ _ _ _ _ _ us hl => match us, hl with | [_], _ => rfl⟩
  have G_ascending_places : Kn P w K mg base "ascending_places" 2 ["places", "most"] (sp_ascending_places K) := ⟨_, _, ok_ascending_places (C := (0 : Addr)) B F_ascending_places G_lowest G_is_less, He.glo_ok X G (c.fact 31 (f := .glo "ascending_places") rfl), F_ascending_places.kp, F_ascending_places.bindsN fun _ _ _ _ _ _ us hl => match us, hl with | [_, _], _ => rfl⟩
  have G_checked_places : Kn P w K mg base "checked_places" 3 ["places"] (sp_checked_places K) := ⟨_, _, ok_checked_places (C := (0 : Addr)) B F_checked_places G_ascending_places c_MOST_PLACES, He.glo_ok X G (c.fact 32 (f := .glo "checked_places") rfl), F_checked_places.kp, F_checked_places.bindsN fun _ _ _ _ _ _ us hl => match us, hl with | [_], _ => rfl⟩
  have G_checked_readings : Kn P w K mg base "checked_readings" 2 ["readings", "count"] (sp_checked_readings K) := ⟨_, _, ok_checked_readings (C := (0 : Addr)) B F_checked_readings G_lowest, He.glo_ok X G (c.fact 33 (f := .glo "checked_readings") rfl), F_checked_readings.kp, F_checked_readings.bindsN fun _ _ _ _ _ _ us hl => match us, hl with | [_, _], _ => rfl⟩
  have G_polynomial_through : Kn P w K mg base "polynomial_through" 6 ["found", "worths"] (sp_polynomial_through K) := ⟨_, _, ok_polynomial_through (C := (0 : Addr)) B F_polynomial_through G_only_at G_times G_plus G_trimmed c_NOUGHT d_NOUGHT, He.glo_ok X G (c.fact 34 (f := .glo "polynomial_through") rfl), F_polynomial_through.kp, F_polynomial_through.bindsN fun _ _ _ _ _ _ us hl => match us, hl with | [_, _], _ => rfl⟩
  have G_polynomial_by : Kn P w K mg base "polynomial_by" 7 ["places", "readings"] (sp_polynomial_by K) := ⟨_, _, ok_polynomial_by (C := (0 : Addr)) B F_polynomial_by G_checked_places G_polynomial_through G_checked_readings, He.glo_ok X G (c.fact 35 (f := .glo "polynomial_by") rfl), F_polynomial_by.kp, F_polynomial_by.bindsN fun _ _ _ _ _ _ us hl => match us, hl with | [_, _], _ => rfl⟩
  have G_without : Kn P w K mg base "without" 1 ["listed", "index"] (sp_without K) := ⟨_, _, ok_without (C := (0 : Addr)) B F_without, He.glo_ok X G (c.fact 36 (f := .glo "without") rfl), F_without.kp, F_without.bindsN fun _ _ _ _ _ _ us hl => match us, hl with | [_, _], _ => rfl⟩
  have G_fits : Kn P w K mg base "fits" 7 ["found", "worths", "degree"] (sp_fits K) := ⟨_, _, ok_fits (C := (0 : Addr)) B F_fits G_polynomial_through, He.glo_ok X G (c.fact 37 (f := .glo "fits") rfl), F_fits.kp, F_fits.bindsN fun _ _ _ _ _ _ us hl => match us, hl with | [_, _, _], _ => rfl⟩
  have G_false_alone : Kn P w K mg base "false_alone" 8 ["found", "worths", "degree"] (sp_false_alone K) := ⟨_, _, ok_false_alone (C := (0 : Addr)) B F_false_alone G_fits G_without, He.glo_ok X G (c.fact 38 (f := .glo "false_alone") rfl), F_false_alone.kp, F_false_alone.bindsN fun _ _ _ _ _ _ us hl => match us, hl with | [_, _, _], _ => rfl⟩
  have G_false_ones : Kn P w K mg base "false_ones" 9 ["places", "readings", "degree"] (sp_false_ones K) := ⟨_, _, ok_false_ones (C := (0 : Addr)) B F_false_ones G_checked_places G_checked_readings G_check_within G_false_alone c_MOST_READ_DEGREE, He.glo_ok X G (c.fact 39 (f := .glo "false_ones") rfl), F_false_ones.kp, F_false_ones.bindsN fun _ _ _ _ _ _ us hl => match us, hl with | [_, _, _], _ => rfl⟩
  have G_repaired : Kn P w K mg base "repaired" 9 ["places", "readings", "degree"] (sp_repaired K) := ⟨_, _, ok_repaired (C := (0 : Addr)) B F_repaired G_checked_places G_checked_readings G_check_within G_fits G_false_alone G_polynomial_through G_without G_worth c_MOST_READ_DEGREE, He.glo_ok X G (c.fact 40 (f := .glo "repaired") rfl), F_repaired.kp, F_repaired.bindsN fun _ _ _ _ _ _ us hl => match us, hl with | [_, _, _], _ => rfl⟩
  have G_law_taken : Kn P w K mg base "_law_taken" 1 ["_law_row", "_law_many"] (spTaken takenB K) := ⟨_, _, ok_law_taken B F_law_taken, He.glo_ok X G (c.fact 41 (f := .glo "_law_taken") rfl), F_law_taken.kp, F_law_taken.bindsN fun _ _ _ _ _ _ us hl => match us, hl with | [_, _], _ => rfl⟩
  have G_law_low : Kn P w K mg base "_law_low" 1 ["_law_top", "_law_bottom"] (sp_law_low K) := ⟨_, _, ok_law_low (C := (0 : Addr)) B F_law_low, He.glo_ok X G (c.fact 42 (f := .glo "_law_low") rfl), F_law_low.kp, F_law_low.bindsN fun _ _ _ _ _ _ us hl => match us, hl with | [_, _], _ => rfl⟩
  have G_law_add : Kn P w K mg base "_law_add" 2 ["_law_one", "_law_other"] (sp_law_add K) := ⟨_, _, ok_law_add (C := (0 : Addr)) B F_law_add G_law_low, He.glo_ok X G (c.fact 43 (f := .glo "_law_add") rfl), F_law_add.kp, F_law_add.bindsN fun _ _ _ _ _ _ us hl => match us, hl with | [_, _], _ => rfl⟩
  have G_law_times : Kn P w K mg base "_law_times" 2 ["_law_one", "_law_other"] (sp_law_times K) := ⟨_, _, ok_law_times (C := (0 : Addr)) B F_law_times G_law_low, He.glo_ok X G (c.fact 44 (f := .glo "_law_times") rfl), F_law_times.kp, F_law_times.bindsN fun _ _ _ _ _ _ us hl => match us, hl with | [_, _], _ => rfl⟩
  have G_law_places : Kn P w K mg base "_law_places" 2 ["_law_row", "_law_most"] (sp_law_places K) := ⟨_, _, ok_law_places (C := (0 : Addr)) B F_law_places G_law_taken, He.glo_ok X G (c.fact 45 (f := .glo "_law_places") rfl), F_law_places.kp, F_law_places.bindsN fun _ _ _ _ _ _ us hl => match us, hl with | [_, _], _ => rfl⟩
  have G_law_worth : Kn P w K mg base "_law_worth" 3 ["_law_polynomial", "_law_place"] (sp_law_worth K) := ⟨_, _, ok_law_worth (C := (0 : Addr)) B F_law_worth G_law_add G_law_times, He.glo_ok X G (c.fact 46 (f := .glo "_law_worth") rfl), F_law_worth.kp, F_law_worth.bindsN fun _ _ _ _ _ _ us hl => match us, hl with | [_, _], _ => rfl⟩
  have G_law_fractions : Kn P w K mg base "_law_fractions" 2 ["_law_row", "_law_count"] (sp_law_fractions K) := ⟨_, _, ok_law_fractions (C := (0 : Addr)) B F_law_fractions G_law_taken, He.glo_ok X G (c.fact 47 (f := .glo "_law_fractions") rfl), F_law_fractions.kp, F_law_fractions.bindsN fun _ _ _ _ _ _ us hl => match us, hl with | [_, _], _ => rfl⟩
  exact ok_law (C := (0 : Addr)) B F_law G_law_places G_law_taken G_law_fractions G_law_worth G_repaired G_false_ones G_law_add G_polynomial_by G_law_low
open PySem PySem.W PySem.Calls PyProof.Rows
theorem of_law (math : ∀ scr : List Int, scr.length ≤ 63 → law scr = .ok true) : PySem.Challenge.rw_fewreadings_k52_whole_false_readings_men.Holds := by
  w_on; o_law
  refine HandSHeadRun.head_imp (r := R) (q := vw) (H := hk) (ob := ob) (M := 6000) (loose := looseN) (d := HandSHeadRun.topDef R.prog 44) (kwd := []) ob_eq
    run (by kernel_rfl) (by kernel_rfl) (by kernel_rfl) (by rfl) (by first | assumption | decide +kernel) (by decide +kernel) ⟨rfl, rfl, rfl, rfl, rfl, by decide +kernel⟩ ?hw ?hc
  case hw => w_witness2
  case hc =>
    refine L2.walk_ofE (l := PySem.Challenge.rw_fewreadings_k52_whole_false_readings_men) (n := 63) (k := 10) (x := "_law_script") (CX := L2.CX0) rfl (by decide) (by kernel_rfl) ⟨rfl, by decide, by decide⟩ ?F (fun _ _ _ _ z => z)
    intro w mg fa h Y G hmg0
    obtain ⟨K, KX, c⟩ := Y
    have hmg : mg ("law" : PySem.Str) = some (.ref fa) := by
      have e : (HandSHeadRun.topDef R.prog 44).name = ("law" : PySem.Str) := by kernel_rfl
      rw [← e]
      exact hmg0
    obtain ⟨fd, hb, hF⟩ := facts (P := PySem.Challenge.rw_fewreadings_k52_whole_false_readings_men.prog) (w := w) KX G hmg c
    refine ⟨K, fd, sp_law K, KX, hb, fun H a ns hl _ hS => ⟨a, ns, rfl, hS, ?_⟩, hF⟩
    rw [math ns hl]
    exact ⟨fun H => rfl⟩
end L

set_option Elab.async false
set_option linter.all false
set_option maxRecDepth 100000
set_option maxHeartbeats 2000000
set_option exponentiation.threshold 100
namespace L
open PySem L2 Evl Wk
/-! ### fractions, in any terms -/
theorem lowest_any {a b : Int} {n : Nat} (h : b ≠ 0) (hb : b.natAbs < 2 ^ n) (hn : n < 9000) : lowest a b = .ok (fr ((a : Rat) / (b : Rat))) := by
  unfold lowest
  have g1 := Nat.lt_of_le_of_lt (gcd_leZ (a := a) h) hb
  have g0 := gcd_posZ (a := a) h
  by_cases q : b < 0
  · rw [cT (decide_eq_true q), bdo, div_any (by omega) (by rw [Int.natAbs_neg]; exact g1) hn, bdo, div_any (by omega) (by rw [Int.natAbs_neg]; exact g1) hn, bdo, fr_neg q]
  · rw [cF (decide_eq_false q), bdo, div_any (by omega) g1 hn, bdo, div_any (by omega) g1 hn, bdo, fr_pos (by omega)]
theorem lowest_ok {a b : Int} {n : Nat} (h : 0 < b) (hb : b.natAbs < 2 ^ n) (hn : n < 9000) : lowest a b = .ok (fr ((a : Rat) / (b : Rat))) := lowest_any (by omega) hb hn
theorem lowest_x {x : Int × Int} {q : Rat} {n : Nat} (h : Rx n x q) (hn : n < 9000) : lowest x.1 x.2 = .ok (fr q) := by rw [lowest_any h.nz h.b hn, h.v]
theorem plus_x {x y : Int × Int} {p q : Rat} {a b : Nat} (hx : Rx a x p) (hy : Rx b y q) (h : a + b < 8999) : plus x y = .ok (fr (p + q)) := by
  unfold plus
  rw [mul_ok hx.t hy.b (by omega), bdo, mul_ok hy.t hx.b (by omega), bdo, mul_ok hx.b hy.b (by omega), bdo, lowest_any (mul_nz hx.nz hy.nz) (mul_lt hx.b hy.b (Nat.le_refl _)) (by omega), bdo, rx_add hx hy]
theorem minus_x {x y : Int × Int} {p q : Rat} {a b : Nat} (hx : Rx a x p) (hy : Rx b y q) (h : a + b < 8999) : minus x y = .ok (fr (p - q)) := by
  unfold minus
  rw [mul_ok hx.t hy.b (by omega), bdo, mul_ok hy.t hx.b (by omega), bdo, mul_ok hx.b hy.b (by omega), bdo, lowest_any (mul_nz hx.nz hy.nz) (mul_lt hx.b hy.b (Nat.le_refl _)) (by omega), bdo, rx_sub hx hy]
theorem times_x {x y : Int × Int} {p q : Rat} {a b : Nat} (hx : Rx a x p) (hy : Rx b y q) (h : a + b < 8999) : times x y = .ok (fr (p * q)) := by
  unfold times
  rw [mul_ok hx.t hy.t (by omega), bdo, mul_ok hx.b hy.b (by omega), bdo, lowest_any (mul_nz hx.nz hy.nz) (mul_lt hx.b hy.b (Nat.le_refl _)) (by omega), bdo, rx_mul hx hy]
theorem plus_ok {p q : Rat} {a b : Nat} (ha : Sq a p) (hb : Sq b q) (h : a + b < 8999) : plus (fr p) (fr q) = .ok (fr (p + q)) := plus_x (rx_fr ha) (rx_fr hb) h
theorem minus_ok {p q : Rat} {a b : Nat} (ha : Sq a p) (hb : Sq b q) (h : a + b < 8999) : minus (fr p) (fr q) = .ok (fr (p - q)) := minus_x (rx_fr ha) (rx_fr hb) h
theorem times_ok {p q : Rat} {a b : Nat} (ha : Sq a p) (hb : Sq b q) (h : a + b < 8999) : times (fr p) (fr q) = .ok (fr (p * q)) := times_x (rx_fr ha) (rx_fr hb) h
theorem over_x {x y : Int × Int} {p q : Rat} {a b : Nat} (hx : Rx a x p) (hy : Rx b y q) (hq : q ≠ 0) (h : a + b < 8999) : over x y = .ok (fr (p / q)) := by
  unfold over
  rw [mul_ok hx.t hy.b (by omega), bdo, mul_ok hx.b hy.t (by omega), bdo, lowest_any (mul_nz hx.nz (hy.top hq)) (mul_lt hx.b hy.t (Nat.le_refl _)) (by omega), bdo, rx_div hx hy hq]
theorem over_ok {p q : Rat} {a b : Nat} (ha : Sq a p) (hb : Sq b q) (hq : q ≠ 0) (h : a + b < 8999) : over (fr p) (fr q) = .ok (fr (p / q)) := over_x (rx_fr ha) (rx_fr hb) hq h
theorem is_less_ok {p q : Rat} {a b : Nat} (ha : Sq a p) (hb : Sq b q) (h : a + b < 8999) : is_less (fr p) (fr q) = .ok (decide (p < q)) := by
  unfold is_less
  rw [mul_ok (i := (fr p).1) (j := (fr q).2) ha.1 hb.d (by omega), bdo, mul_ok (i := (fr q).1) (j := (fr p).2) hb.1 ha.d (by omega), bdo]
  congr 1
  exact decide_eq_decide.mpr (Rat.lt_iff p q).symm
theorem worth_ok {p : Rat} {b c : Nat} (hp : Sq b p) (l : List Rat) (h : Sqs c l) (hN : (b + c + 1) * l.length + 1 ≤ 8990) : worth (l.map fr) (fr p) = .ok (fr (ev l p)) := by
  unfold worth
  rw [← List.map_reverse, foldM_map, horner hp 8990 (fun x hx q a ha hN => ?_) l h hN, bdo]
  rw [times_ok ha hp (by omega), bdo, plus_ok (sq_mul ha hp (Nat.le_refl _)) hx (by omega), bdo]
/-! ### places, weights, polynomials that are handed in -/
theorem asc_step {f : List (Int × Int) → Int × (Int × Int) → Mm (List (Int × Int))} {done : List Rat} {p : Rat} {x : Int × Int} {most : Int} {c : Nat} (hc : c < 4000)
    (hf : ∀ s y, f s y = cond ((decide (y.1 = most)) || (decide (y.2.2 = (0 : Int)))) (Mm.bad) ((lowest (y.2.1) (y.2.2)).bd fun b49 => (cond (decide (y.1 > (0 : Int))) ((getM s (-(1 : Int))).bd fun i60 => (is_less (i60) (b49)).bd fun b65 => Mm.ok (!b65)) (Mm.ok false)).bd fun b56 => cond b56 (Mm.bad) ((guardM (s.length < 100000)).bd fun _ => Mm.ok (s ++ [b49]))))
    (hw : Rx c x p) (ha : ∀ q ∈ done, q < p) (hs : Sqs c done) (hl : (done.length : Int) < most) (hm : most ≤ 6) : f (done.map fr) ((done.length : Int), x) = .ok ((done ++ [p]).map fr) := by
  have g : guardM ((done.map fr).length < 100000) = .ok () := guard_ok (by rw [List.length_map]; omega)
  have c1 : (decide ((done.length : Int) = most) || decide (x.2 = 0)) = false := by
    rw [decide_eq_false (by omega), decide_eq_false hw.nz]
    rfl
  have e1 : cond (decide ((done.length : Int) > 0)) ((getM (done.map fr) (-(1 : Int))).bd fun i60 => (is_less (i60) (fr p)).bd fun b65 => Mm.ok (!b65)) (Mm.ok false) = Mm.ok false := by
    rcases List.eq_nil_or_concat done with e | ⟨l, q, e⟩
    · subst e
      rfl
    · rw [List.concat_eq_append] at e
      subst e
      rw [cT (decide_eq_true (by rw [List.length_append, List.length_singleton]; omega))]
      have hq : q ∈ l ++ [q] := by simp
      rw [List.map_append, List.map_cons, List.map_nil, getM_last, bdo, is_less_ok (hs q hq) hw.sq (by omega), bdo, decide_eq_true (ha q hq)]
      rfl
  rw [hf, cF (c := decide (((done.length : Int), x).1 = most) || decide (((done.length : Int), x).2.2 = 0)) c1, lowest_x hw (by omega), bdo, e1, bdo, cF rfl, g, bdo, List.map_append]
  rfl
theorem asc_fold {f : List (Int × Int) → Int × (Int × Int) → Mm (List (Int × Int))} {most : Int} {c : Nat} (hc : c < 4000) (hm : most ≤ 6)
    (hf : ∀ s y, f s y = cond ((decide (y.1 = most)) || (decide (y.2.2 = (0 : Int)))) (Mm.bad) ((lowest (y.2.1) (y.2.2)).bd fun b49 => (cond (decide (y.1 > (0 : Int))) ((getM s (-(1 : Int))).bd fun i60 => (is_less (i60) (b49)).bd fun b65 => Mm.ok (!b65)) (Mm.ok false)).bd fun b56 => cond b56 (Mm.bad) ((guardM (s.length < 100000)).bd fun _ => Mm.ok (s ++ [b49])))) :
    ∀ (ps : List Rat) (pl : List (Int × Int)) (done : List Rat), All2 (fun p x => Rx c x p) ps pl → (done ++ ps).Pairwise (· < ·) → Sqs c done → ((done ++ ps).length : Int) ≤ most → foldM f (done.map fr) (numL (done.length : Int) pl) = .ok ((done ++ ps).map fr) := by
  intro ps
  induction ps with
  | nil =>
    intro pl done h _ _ _
    cases h
    rw [List.append_nil]
    rfl
  | cons p ps ih =>
    intro pl done h ha hs hl
    cases h with
    | cons hw hr =>
      rw [List.length_append, List.length_cons] at hl
      have ha' := List.pairwise_append.mp ha
      unfold numL foldM
      rw [asc_step hc hf hw (fun q hq => ha'.2.2 q hq p (List.mem_cons_self ..)) hs (by omega) hm, bdo]
      have e : done ++ p :: ps = (done ++ [p]) ++ ps := by simp
      rw [e] at ha ⊢
      have := ih _ (done ++ [p]) hr ha (fun q hq => by
        rcases List.mem_append.mp hq with z | z
        · exact hs q z
        · rw [List.mem_singleton.mp z]; exact hw.sq) (by simp only [List.length_append, List.length_singleton]; omega)
      have e2 : ((done ++ [p]).length : Int) = (done.length : Int) + 1 := by simp
      rw [e2] at this
      exact this
theorem ascending_places_ok {ps : List Rat} {pl : List (Int × Int)} {c : Nat} {most : Int} (hc : c < 4000) (h : All2 (fun p x => Rx c x p) ps pl) (ha : ps.Pairwise (· < ·)) (hl : (ps.length : Int) ≤ most) (hm : most ≤ 6) : ascending_places pl most = .ok (ps.map fr) := by
  unfold ascending_places
  have f := asc_fold hc hm (fun _ _ => rfl) ps pl [] h ha (fun q hq => by cases hq) hl
  rw [enumL_eq]
  refine (congrArg (fun m => Mm.bd m _) f).trans ?_
  rfl
theorem checked_places_x {ps : List Rat} {pl : List (Int × Int)} {c : Nat} (hc : c < 4000) (h : All2 (fun p x => Rx c x p) ps pl) (ha : ps.Pairwise (· < ·)) (hl : ps.length ≤ 6) (h0 : 0 < ps.length) : checked_places pl = .ok (ps.map fr) := by
  have l := h.len
  unfold checked_places
  rw [cF (decide_eq_false (by omega)), ascending_places_ok hc h ha (by omega) (by decide), bdo]
theorem weights_fold {f : Unit → Int × (Int × Int) → Mm Unit} {count : Int} (hf : ∀ s y, f s y = cond ((decide (y.1 = count)) || (decide (y.2.2 = (0 : Int)))) (Mm.bad) (Mm.ok ())) : ∀ (l : List (Int × Int)) (k : Int), k + l.length ≤ count → (∀ x ∈ l, x.2 ≠ 0) → foldM f () (numL k l) = .ok ()
  | [], k, _, _ => rfl
  | x :: l, k, h, hn => by
    rw [List.length_cons] at h
    unfold numL foldM
    rw [hf, cF (by rw [decide_eq_false (by show ¬ k = count; omega), decide_eq_false (hn x (List.mem_cons_self ..))]; rfl), bdo]
    exact weights_fold hf l (k + 1) (by omega) fun y hy => hn y (List.mem_cons_of_mem _ hy)
def toR (l : List Int) : List Rat := l.map fun x => ((x : Int) : Rat)
theorem toR_fr (l : List Int) : (toR l).map fr = l.map fun x => (x, (1 : Int)) := by
  unfold toR
  rw [List.map_map]
  exact List.map_congr_left fun x _ => fr_of_int x
theorem toR_sq {l : List Int} {c : Nat} (h : ∀ x ∈ l, x.natAbs < 2 ^ c) (h0 : 0 < c) : Sqs c (toR l) := fun q hq => by
  obtain ⟨x, hx, rfl⟩ := List.mem_map.mp hq
  exact sq_int (h x hx) h0
def zipR (ps ws : List Rat) (f : List Rat) : List Rat := (ps.zip ws).map fun x => x.2 * ev f x.1
/-- what a rule tells -/
def Rd (ps ws f : List Rat) : Rat := (zipR ps ws f).sum
/-! ### the law's own fractions -/
theorem law_low_any {a b : Int} {n : Nat} (h : b ≠ 0) (hb : b.natAbs < 2 ^ n) (hn : n < 9000) : law_low a b = .ok (fr ((a : Rat) / (b : Rat))) := by
  unfold law_low
  rw [euclid _ _ _ (abs_nn a) (abs_nn b) (by omega), abs_na, abs_na, bdo]
  have g1 := Nat.lt_of_le_of_lt (gcd_leZ (a := a) h) hb
  have g0 := gcd_posZ (a := a) h
  by_cases q : b > 0
  · rw [cT (decide_eq_true q), bdo, div_any (by omega) g1 hn, bdo, div_any (by omega) g1 hn, bdo, fr_pos q]
  · have e : (0 : Int) - ((Nat.gcd a.natAbs b.natAbs : Nat) : Int) = -((Nat.gcd a.natAbs b.natAbs : Nat) : Int) := by omega
    rw [cF (decide_eq_false q), bdo, e, div_any (by omega) (by rw [Int.natAbs_neg]; exact g1) hn, bdo, div_any (by omega) (by rw [Int.natAbs_neg]; exact g1) hn, bdo, fr_neg (by omega)]
theorem law_low_x {x : Int × Int} {q : Rat} {n : Nat} (h : Rx n x q) (hn : n < 9000) : law_low x.1 x.2 = .ok (fr q) := by rw [law_low_any h.nz h.b hn, h.v]
theorem law_add_x {x y : Int × Int} {p q : Rat} {a b : Nat} (hx : Rx a x p) (hy : Rx b y q) (h : a + b < 8999) : law_add x y = .ok (fr (p + q)) := by
  unfold law_add
  rw [mul_ok hx.t hy.b (by omega), bdo, mul_ok hy.t hx.b (by omega), bdo, mul_ok hx.b hy.b (by omega), bdo, law_low_any (mul_nz hx.nz hy.nz) (mul_lt hx.b hy.b (Nat.le_refl _)) (by omega), bdo, rx_add hx hy]
theorem law_times_x {x y : Int × Int} {p q : Rat} {a b : Nat} (hx : Rx a x p) (hy : Rx b y q) (h : a + b < 8999) : law_times x y = .ok (fr (p * q)) := by
  unfold law_times
  rw [mul_ok hx.t hy.t (by omega), bdo, mul_ok hx.b hy.b (by omega), bdo, law_low_any (mul_nz hx.nz hy.nz) (mul_lt hx.b hy.b (Nat.le_refl _)) (by omega), bdo, rx_mul hx hy]
theorem law_add_ok {p q : Rat} {a b : Nat} (ha : Sq a p) (hb : Sq b q) (h : a + b < 8999) : law_add (fr p) (fr q) = .ok (fr (p + q)) := law_add_x (rx_fr ha) (rx_fr hb) h
theorem law_times_ok {p q : Rat} {a b : Nat} (ha : Sq a p) (hb : Sq b q) (h : a + b < 8999) : law_times (fr p) (fr q) = .ok (fr (p * q)) := law_times_x (rx_fr ha) (rx_fr hb) h
theorem law_worth_okB {p : Rat} {x : Int × Int} {b c : Nat} (hp : Rx b x p) (l : List Rat) (h : Sqs c l) (hN : (b + c + 1) * l.length + 1 ≤ 8990) (hl : l.length < 1000) : law_worth (l.map fr) x = .ok (fr (ev l p)) := by
  unfold law_worth
  have e1 : ((((l.map fr).length : Nat) : Int) - 1 - (0 - 1)).toNat = (l.map fr).length := by omega
  have e2 : rangeM3 (((l.map fr).length : Int) - (1 : Int)) ((0 : Int) - (1 : Int)) = .ok (rangeDn (((l.map fr).length : Int) - 1) (l.map fr).length) := by
    unfold rangeM3
    rw [if_pos (by rw [List.length_map]; omega), e1]
  rw [e2, bdo, e1, rangeDn_rev, fold_ixR (h := fun (s : Int × Int) (v : Int × Int) => (law_times s x).bd fun b33 => (law_add b33 v).bd fun b45 => Mm.ok b45) (l.map fr) (fun s i v hv => by rw [getM_nat hv]; rfl), ← List.map_reverse, foldM_map, horner hp.sq 8990 (fun y hy q a ha hN => ?_) l h hN, bdo]
  rw [law_times_x (rx_fr ha) hp (by omega), bdo, law_add_ok (sq_mul ha hp.sq (Nat.le_refl _)) hy (by omega), bdo]
/-! ### what the law draws -/
structure PlB (most : Nat) (x : List (Int × Int)) (ps : List Rat) : Prop where
  rx : All2 (fun p x => Rx 7 x p) ps x
  asc : ps.Pairwise (· < ·)
  len : ps.length ≤ most
  pos : 0 < ps.length
  dn : ∃ B : Int, 1 ≤ B ∧ B ≤ 3 ∧ ∀ p ∈ ps, ∃ s : Int, s.natAbs ≤ 40 ∧ p = (s : Rat) / (B : Rat)
theorem rat_lt_div {a b c : Int} (h : 0 < c) (k : a < b) : (a : Rat) / (c : Rat) < (b : Rat) / (c : Rat) := by
  have e : (a : Rat) < (b : Rat) := Rat.intCast_lt_intCast.mpr k
  have f : (0 : Rat) < (c : Rat) := Rat.intCast_pos.mpr h
  rw [Rat.div_def, Rat.div_def]
  exact Rat.mul_lt_mul_of_pos_right e (Rat.inv_pos.mpr f)
theorem law_places_okB {scr : List Int} {st : Rw} {most : Int} {N : Nat} (r : Rk N st) (h0 : 1 ≤ most) (h1 : most ≤ 6) (hN : N < 9000) : Yes (law_places scr st most) fun r => (∃ ps, PlB most.toNat r.1 ps) ∧ Rk (N + 20) r.2 := by
  unfold law_places
  refine (takenB_ok r (by omega) (by omega) (by omega)).bd fun a ha => ?_
  refine (takenB_ok ha.2 (by omega) (by omega) (by omega)).bd fun b hb => ?_
  refine (takenB_ok hb.2 (by omega) (by omega) (by omega)).bd fun c hc => ?_
  have a1 := ha.1
  have b1 := hb.1
  have c1 := hc.1
  rw [range_ok (by omega) (by omega), bdo]
  refine (yes_fold (fun (s : Int × List (Int × Int) × Rw) (l : List Int) => (∃ ps, All2 (fun p x => Rx 7 x p) ps s.2.1 ∧ ps.Pairwise (· < ·) ∧ (∀ p ∈ ps, ∃ z : Int, z.natAbs ≤ 40 ∧ p = (z : Rat) / ((1 + a.1 : Int) : Rat) ∧ z ≤ s.1) ∧ ps.length + l.length = (1 + c.1).toNat) ∧ (-9 ≤ s.1 ∧ s.1 + 4 * l.length ≤ 30) ∧ ∃ M, Rk M s.2.2 ∧ M + 2 * l.length ≤ N + 20) _ _ ⟨⟨[], .nil, .nil, (fun p hp => by cases hp), by rw [rangeL_len]; show 0 + _ = _; omega⟩, ⟨by show -9 ≤ b.1 - 9; omega, by rw [rangeL_len]; show b.1 - 9 + _ ≤ 30; omega⟩, N + 3, hc.2, by rw [rangeL_len]; omega⟩ fun s x l hs => ?_).bd fun z hz => ?_
  · obtain ⟨⟨ps, p1, p2, p3, p4⟩, ⟨q1, q2⟩, M, rk, hM⟩ := hs
    rw [List.length_cons] at p4 q2 hM
    refine (takenB_ok rk (by omega) (by omega) (by omega)).bd fun d hd => ?_
    refine (takenB_ok hd.2 (by omega) (by omega) (by omega)).bd fun e he => ?_
    have d1 := hd.1
    have e1 := he.1
    obtain ⟨i, hi, gi⟩ := getM_ok (l := [(1 : Int), (1 : Int), (2 : Int), ((0 : Int) - (1 : Int))]) e1.1 (by show e.1 < 4; exact e1.2)
    refine .eq gi ?_
    simp only [List.mem_cons, List.not_mem_nil, or_false] at hi
    have i4 : i.natAbs < 2 ^ 2 ∧ i ≠ 0 := by omega
    refine .eq (mul_ok (a := 6) (b := 2) (by show (s.1 + 1 + d.1).natAbs < 2 ^ 6; have : (2 : Nat) ^ 6 = 64 := by decide
                                             omega) i4.1 (by decide)) (.eq (mul_ok (a := 2) (b := 2) (by have : (2 : Nat) ^ 2 = 4 := by decide
                                                                                                         omega) i4.1 (by decide)) ?_)
    have l1 := p1.len
    refine .guard (by omega) (.ok ⟨⟨ps ++ [((s.1 + 1 + d.1 : Int) : Rat) / ((1 + a.1 : Int) : Rat)], p1.app ?_, ?_, ?_, ?_⟩, ⟨by show -9 ≤ s.1 + 1 + d.1; omega, by show s.1 + 1 + d.1 + 4 * (l.length : Int) ≤ 30; omega⟩, M + 2, he.2, by omega⟩)
    · have n1 : (1 + a.1) * i ≠ 0 := mul_nz (by omega) i4.2
      refine ⟨n1, ?_, ?_, ?_⟩
      · have : (2 : Nat) ^ 7 = 128 := by decide
        rcases hi with h | h | h | h <;> (rw [h]; show ((s.1 + 1 + d.1) * _).natAbs < _; omega)
      · have : (2 : Nat) ^ 7 = 128 := by decide
        rcases hi with h | h | h | h <;> (rw [h]; show ((1 + a.1) * _).natAbs < _; omega)
      · have n2 := intc_ne i4.2
        have n3 := intc_ne (n := 1 + a.1) (by omega)
        show (((s.1 + 1 + d.1) * i : Int) : Rat) / (((1 + a.1) * i : Int) : Rat) = _
        push_cast
        push_cast at n2 n3
        grind
    · refine List.pairwise_append.mpr ⟨p2, List.pairwise_singleton .., fun p hp q hq => ?_⟩
      obtain ⟨z, z1, z2, z3⟩ := p3 p hp
      rw [List.mem_singleton.mp hq, z2]
      exact rat_lt_div (by omega) (by omega)
    · intro p hp
      rcases List.mem_append.mp hp with h | h
      · obtain ⟨z, z1, z2, z3⟩ := p3 p h
        exact ⟨z, z1, z2, by show z ≤ s.1 + 1 + d.1; omega⟩
      · exact ⟨s.1 + 1 + d.1, by omega, List.mem_singleton.mp h, Int.le_refl _⟩
    · rw [List.length_append, List.length_singleton]
      omega
  · obtain ⟨⟨ps, p1, p2, p3, p4⟩, q, M, rk, hM⟩ := hz
    rw [List.length_nil] at p4 hM
    exact .ok ⟨⟨ps, p1, p2, by omega, by omega, 1 + a.1, by omega, by omega, fun p hp => by
      obtain ⟨z, z1, z2, z3⟩ := p3 p hp
      exact ⟨z, z1, z2⟩⟩, rk.up (by omega)⟩
theorem law_fractions_ok {scr : List Int} {st : Rw} {n : Int} {N : Nat} (r : Rk N st) (h0 : 0 ≤ n) (h1 : n ≤ 100) (hN : N < 9000) : Yes (law_fractions scr st n) fun r => (∃ qs, All2 (fun q x => Rx 5 x q) qs r.1 ∧ (qs.length : Int) = n) ∧ Rk (N + 2 * n.toNat) r.2 := by
  unfold law_fractions
  rw [range_ok (by omega) (by omega), bdo]
  refine .guard (by rw [rangeL_len]; omega) ?_
  refine (yes_draws 2 (fun x : Int × Int => Rx 5 x ((x.1 : Rat) / (x.2 : Rat))) (rangeL 0 n.toNat) st N r (by rw [rangeL_len]; omega) fun s x M hx rk hM => ?_).bd fun c hc => ?_
  · refine (takenB_ok rk (by omega) (by omega) (by omega)).bd fun d hd => ?_
    refine (takenB_ok hd.2 (by omega) (by omega) (by omega)).bd fun e he => ?_
    obtain ⟨i, hi, gi⟩ := getM_ok (l := [(1 : Int), (1 : Int), (2 : Int), (6 : Int), ((0 : Int) - (4 : Int))]) he.1.1 (by show e.1 < 5; exact he.1.2)
    simp only [List.mem_cons, List.not_mem_nil, or_false] at hi
    have d1 := hd.1
    have e5 : (2 : Nat) ^ 5 = 32 := by decide
    exact .eq gi (.ok ⟨⟨by show i ≠ 0; omega, by show (d.1 - 20).natAbs < _; omega, by show i.natAbs < _; omega, rfl⟩, he.2⟩)
  · obtain ⟨⟨c1, c2⟩, c3⟩ := hc
    rw [rangeL_len] at c1 c3
    refine .ok ⟨⟨c.1.map fun x => (x.1 : Rat) / (x.2 : Rat), ?_, by rw [List.length_map]; show ((c.1.length : Nat) : Int) = n; omega⟩, c3⟩
    have k : ∀ l : List (Int × Int), (∀ y ∈ l, Rx 5 y ((y.1 : Rat) / (y.2 : Rat))) → All2 (fun q x => Rx 5 x q) (l.map fun x => (x.1 : Rat) / (x.2 : Rat)) l := fun l => by
      induction l with
      | nil => exact fun _ => .nil
      | cons y l ih => exact fun h => .cons (h y (List.mem_cons_self ..)) (ih fun z hz => h z (List.mem_cons_of_mem _ hz))
    exact k c.1 c2
/-! ### weightings that are right, their sums -/
theorem pow_fold {f : Int → Int → Mm Int} {base : Int} {b : Nat} (hb : base.natAbs < 2 ^ b) (hf : ∀ s x, f s x = (mulM s base).bd fun m => Mm.ok m) : ∀ (l : List Int) (s : Int) (a : Nat), s.natAbs < 2 ^ a → a + b * (l.length + 1) ≤ 900000 → foldM f s l = .ok (s * base ^ l.length)
  | [], s, a, _, _ => by simp [foldM]
  | x :: l, s, a, ha, h => by
    have e : a + b + b * (l.length + 1) ≤ 900000 := by
      rw [List.length_cons] at h
      have : b * (l.length + 1 + 1) = b * (l.length + 1) + b := by rw [Nat.mul_succ]
      omega
    unfold foldM
    rw [hf, mul_ok ha hb (by omega)]
    show foldM f (s * base) l = _
    rw [pow_fold hb hf l (s * base) (a + b) (mul_lt ha hb (Nat.le_refl _)) e, List.length_cons, Int.mul_assoc, Int.pow_succ']
theorem pow_lt {base : Int} {b : Nat} (hb : base.natAbs < 2 ^ b) : ∀ n : Nat, (base ^ n).natAbs < 2 ^ (b * n + 1)
  | 0 => by simp
  | n + 1 => by
    rw [Int.pow_succ]
    exact mul_lt (pow_lt hb n) hb (by rw [Nat.mul_succ]; omega)
theorem sum_lt {a : Nat} : ∀ l : List Int, (∀ x ∈ l, x.natAbs < 2 ^ a) → l.sum.natAbs < 2 ^ (a + l.length)
  | [], _ => by
    have := two_le (a + 0)
    show 0 < 2 ^ (a + 0)
    omega
  | x :: l, h => by
    rw [List.sum_cons]
    refine add_lt (h x (List.mem_cons_self ..)) (sum_lt l fun y hy => h y (List.mem_cons_of_mem _ hy)) ?_ ?_ <;> (rw [List.length_cons]; omega)
structure Good (w : Wt) : Prop where
  ms : ∀ m ∈ w.1, m.1.natAbs ≤ 20 ∧ 1 ≤ m.2 ∧ m.2 ≤ 20
  ss : ∀ s ∈ w.2, s.1.natAbs ≤ 20 ∧ s.2.1.natAbs ≤ 20 ∧ 1 ≤ s.2.2 ∧ s.2.2 ≤ 20 ∧ s.1 < s.2.1
  lm : w.1.length ≤ 6
  ls : w.2.length ≤ 4
  ne : w.1 ≠ [] ∨ w.2 ≠ []
def mI (k : Nat) (m : Int × Int) : Int := m.2 * m.1 ^ k
def sI (k : Nat) (s : Int × Int × Int) : Int := s.2.2 * (s.2.1 ^ (k + 1) - s.1 ^ (k + 1))
def PS (w : Wt) (k : Nat) : Rat := (((w.1.map (mI k)).sum * ((k : Int) + 1) + (w.2.map (sI k)).sum : Int) : Rat) / (((k : Int) + 1 : Int) : Rat)
theorem pow_lt20 {x : Int} {k : Nat} (h : x.natAbs ≤ 20) (hk : k ≤ 61) : (x ^ k).natAbs < 2 ^ 306 := up_lt (pow_lt (b := 5) (by omega) k) (by omega)
theorem mI_lt {k : Nat} {m : Int × Int} (h : m.1.natAbs ≤ 20 ∧ 1 ≤ m.2 ∧ m.2 ≤ 20) (hk : k ≤ 60) : (mI k m).natAbs < 2 ^ 320 :=
  mul_lt (a := 5) (by omega) (pow_lt20 h.1 (by omega)) (by decide)
theorem sI_lt {k : Nat} {s : Int × Int × Int} (h : s.1.natAbs ≤ 20 ∧ s.2.1.natAbs ≤ 20 ∧ 1 ≤ s.2.2 ∧ s.2.2 ≤ 20 ∧ s.1 < s.2.1) (hk : k ≤ 60) : (sI k s).natAbs < 2 ^ 320 :=
  mul_lt (a := 5) (by omega) (sub_lt (n := 307) (pow_lt20 h.2.1 (by omega)) (pow_lt20 h.1 (by omega)) (by decide) (by decide)) (by decide)
theorem small_lt {k : Nat} (hk : k ≤ 60) : ((k : Int) + 1).natAbs < 2 ^ 6 := by
  have : (2 : Nat) ^ 6 = 64 := by decide
  omega
theorem sums_lt {w : Wt} (g : Good w) {k : Nat} (hk : k ≤ 60) : (w.1.map (mI k)).sum.natAbs < 2 ^ 326 ∧ (w.2.map (sI k)).sum.natAbs < 2 ^ 326 := by
  constructor
  · refine up_lt (sum_lt (a := 320) _ fun x hx => ?_) (by rw [List.length_map]; have := g.lm; omega)
    obtain ⟨m, hm, rfl⟩ := List.mem_map.mp hx
    exact mI_lt (g.ms m hm) hk
  · refine up_lt (sum_lt (a := 320) _ fun x hx => ?_) (by rw [List.length_map]; have := g.ls; omega)
    obtain ⟨m, hm, rfl⟩ := List.mem_map.mp hx
    exact sI_lt (g.ss m hm) hk
theorem sq_PS {w : Wt} (g : Good w) {k : Nat} (hk : k ≤ 60) : Sq 340 (PS w k) := by
  obtain ⟨a, b⟩ := sums_lt g hk
  refine sq_div (by omega) ?_ (up_lt (small_lt hk) (by decide))
  exact add_lt (mul_lt a (small_lt hk) (Nat.le_refl _)) b (by decide) (by decide)
theorem whole_ok {n l h : Int} (a : l ≤ n) (b : n ≤ h) : whole_within n l h = .ok true := by
  unfold whole_within
  rw [decide_eq_true a, decide_eq_true b]
  rfl
theorem check_within_ok {n l h : Int} (a : l ≤ n) (b : n ≤ h) : check_within n l h = .ok () := by
  unfold check_within
  rw [whole_ok a b, bdo]
  rfl
theorem sum_cast {α : Type} (f : α → Int) : ∀ l : List α, (l.map fun x => ((f x : Int) : Rat)).sum = (((l.map f).sum : Int) : Rat)
  | [] => rfl
  | x :: l => by
    rw [List.map_cons, List.sum_cons, List.map_cons, List.sum_cons, sum_cast f l]
    push_cast
    rfl
theorem sum_castD {α : Type} (f : α → Int) (c : Rat) : ∀ l : List α, (l.map fun x => ((f x : Int) : Rat) / c).sum = (((l.map f).sum : Int) : Rat) / c
  | [] => by
    show (0 : Rat) = ((0 : Int) : Rat) / c
    push_cast
    grind
  | x :: l => by
    rw [List.map_cons, List.sum_cons, List.map_cons, List.sum_cons, sum_castD f c l]
    push_cast
    grind
theorem sum_nn : ∀ l : List Int, (∀ x ∈ l, 0 < x) → 0 ≤ l.sum ∧ (l ≠ [] → 0 < l.sum)
  | [], _ => ⟨by decide, fun h => absurd rfl h⟩
  | x :: l, h => by
    have a := (sum_nn l fun y hy => h y (List.mem_cons_of_mem _ hy)).1
    have b := h x (List.mem_cons_self ..)
    rw [List.sum_cons]
    exact ⟨by omega, fun _ => by omega⟩
theorem PS0_pos {w : Wt} (g : Good w) : 0 < PS w 0 := by
  have a := sum_nn (w.1.map (mI 0)) fun x hx => by
    obtain ⟨m, hm, rfl⟩ := List.mem_map.mp hx
    have := g.ms m hm
    unfold mI
    rw [Int.pow_zero]
    omega
  have b := sum_nn (w.2.map (sI 0)) fun x hx => by
    obtain ⟨s, hs, rfl⟩ := List.mem_map.mp hx
    have := g.ss s hs
    unfold sI
    rw [Int.pow_succ, Int.pow_zero, Int.pow_succ, Int.pow_zero, Int.one_mul, Int.one_mul]
    exact Int.mul_pos (by omega) (by omega)
  have c : 0 < (w.1.map (mI 0)).sum + (w.2.map (sI 0)).sum := by
    rcases g.ne with h | h
    · have := a.2 (by simpa using h)
      omega
    · have := b.2 (by simpa using h)
      omega
  unfold PS
  have e : (((w.1.map (mI 0)).sum * (((0 : Nat) : Int) + 1) + (w.2.map (sI 0)).sum : Int) : Rat) / (((((0 : Nat) : Int) + 1 : Int)) : Rat) = (((w.1.map (mI 0)).sum + (w.2.map (sI 0)).sum : Int) : Rat) := by
    push_cast
    grind
  rw [e]
  exact Rat.intCast_pos.mpr c
theorem pow_lt12 {x : Int} {k : Nat} (h : x.natAbs ≤ 20) (hk : k ≤ 13) : (x ^ k).natAbs < 2 ^ 66 := up_lt (pow_lt (b := 5) (by omega) k) (by omega)
theorem sq_PS12 {w : Wt} (g : Good w) {k : Nat} (hk : k ≤ 12) : Sq 90 (PS w k) := by
  have sm : ((k : Int) + 1).natAbs < 2 ^ 4 := by
    have : (2 : Nat) ^ 4 = 16 := by decide
    omega
  have a : (w.1.map (mI k)).sum.natAbs < 2 ^ 80 := by
    refine up_lt (sum_lt (a := 72) _ fun x hx => ?_) (by rw [List.length_map]; have := g.lm; omega)
    obtain ⟨m, hm, rfl⟩ := List.mem_map.mp hx
    have q := g.ms m hm
    exact mul_lt (a := 5) (by omega) (pow_lt12 q.1 (by omega)) (by decide)
  have b : (w.2.map (sI k)).sum.natAbs < 2 ^ 80 := by
    refine up_lt (sum_lt (a := 72) _ fun x hx => ?_) (by rw [List.length_map]; have := g.ls; omega)
    obtain ⟨s, hs, rfl⟩ := List.mem_map.mp hx
    have q := g.ss s hs
    exact mul_lt (a := 5) (by omega) (sub_lt (n := 67) (pow_lt12 q.2.1 (by omega)) (pow_lt12 q.1 (by omega)) (by decide) (by decide)) (by decide)
  refine sq_div (by omega) ?_ (up_lt sm (by decide))
  exact add_lt (mul_lt a sm (Nat.le_refl _)) b (by decide) (by decide)
def tW (w : Wt) (x : Int × Rat) : Rat := x.2 * PS w x.1.toNat
def WS (w : Wt) (l : List Rat) : Rat := ((numL 0 l).map (tW w)).sum
structure MsOk (ms : Ms) : Prop where
  each : ∀ m ∈ ms, m.1.natAbs ≤ 20 ∧ 1 ≤ m.2 ∧ m.2 ≤ 20
  asc : (ms.map (·.1)).Pairwise (· < ·)
  len : ms.length ≤ 6
theorem zeroW : MsOk [(0, 1)] := ⟨by decide, by decide, by decide⟩
def SsTo : Int → Ss → Int → Prop
  | a, [], z => a ≤ z
  | a, s :: l, z => a ≤ s.1 ∧ s.1 < s.2.1 ∧ 1 ≤ s.2.2 ∧ s.2.2 ≤ 20 ∧ SsTo s.2.1 l z
theorem SsTo.le : ∀ {l : Ss} {a z : Int}, SsTo a l z → a ≤ z
  | [], _, _, h => h
  | s :: l, a, z, h => by
    have := SsTo.le h.2.2.2.2
    have := h.1
    have := h.2.1
    omega
theorem SsTo.up : ∀ {l : Ss} {a z z' : Int}, SsTo a l z → z ≤ z' → SsTo a l z'
  | [], _, _, _, h, k => Int.le_trans h k
  | s :: l, _, _, _, ⟨a, b, c, d, e⟩, k => ⟨a, b, c, d, SsTo.up e k⟩
theorem SsTo.low : ∀ {l : Ss} {a a' z : Int}, SsTo a l z → a' ≤ a → SsTo a' l z
  | [], _, _, _, h, k => Int.le_trans k h
  | s :: l, _, _, _, ⟨a, b, c, d, e⟩, k => ⟨Int.le_trans k a, b, c, d, e⟩
theorem SsTo.app {lo hi h : Int} : ∀ {l : Ss} {a y : Int}, SsTo a l y → y ≤ lo → lo < hi → 1 ≤ h → h ≤ 20 → SsTo a (l ++ [(lo, hi, h)]) hi
  | [], a, y, h1, h2, h3, h4, h5 => ⟨Int.le_trans h1 h2, h3, h4, h5, Int.le_refl _⟩
  | s :: l, a, y, ⟨a1, b, c, d, e⟩, h2, h3, h4, h5 => ⟨a1, b, c, d, SsTo.app e h2 h3 h4 h5⟩
theorem SsTo.each : ∀ {l : Ss} {a z : Int}, SsTo a l z → -20 ≤ a → z ≤ 20 → ∀ s ∈ l, s.1.natAbs ≤ 20 ∧ s.2.1.natAbs ≤ 20 ∧ 1 ≤ s.2.2 ∧ s.2.2 ≤ 20 ∧ s.1 < s.2.1
  | [], _, _, _, _, _, _, h => by cases h
  | t :: l, a, z, ⟨a1, b, c, d, e⟩, ha, hz, s, h => by
    have := SsTo.le e
    rcases List.mem_cons.mp h with rfl | h
    · omega
    · exact SsTo.each e (by omega) hz s h
structure WOk (w : Wt) : Prop where
  ms : MsOk w.1
  ss : SsTo (-20) w.2 20
  ls : w.2.length ≤ 4
  ne : w.1 ≠ [] ∨ w.2 ≠ []
theorem WOk.good {w : Wt} (h : WOk w) : Good w := ⟨h.ms.each, h.ss.each (by decide) (by decide), h.ms.len, h.ls, h.ne⟩
theorem map_id3 (l : Ss) : l.map (fun x => (x.1, x.2.1, x.2.2)) = l := by
  conv => rhs; rw [← List.map_id l]
  rfl
theorem map_id2 (l : Ms) : l.map (fun x => (x.1, x.2)) = l := by
  conv => rhs; rw [← List.map_id l]
  rfl
/-! ### polynomials by their roots -/
def rp (p : Rat) : Rat → List Rat → List Rat
  | z, [] => [z]
  | z, x :: l => (z - x * p) :: rp p x l
theorem rp_len (p : Rat) : ∀ (l : List Rat) (z : Rat), (rp p z l).length = l.length + 1
  | [], _ => rfl
  | x :: l, z => by
    unfold rp
    rw [List.length_cons, rp_len p l, List.length_cons]
theorem zip_rp (p : Rat) : ∀ (l : List Rat) (z : Rat), ((z :: l).zip (l.map (· * p) ++ [0])).map (fun x => x.1 - x.2) = rp p z l
  | [], z => by
    show [z - 0] = [z]
    congr 1
    grind
  | x :: l, z => by
    rw [List.map_cons, List.cons_append, List.zip_cons_cons, List.map_cons, zip_rp p l x]
    rfl
theorem with_root_ok {p : Rat} {l : List Rat} {a b : Nat} (hp : Sq b p) (hl : Sqs a l) (ha : 0 < a) (h : 2 * a + b < 8990) (hn : l.length < 40000) : with_root (l.map fr) (fr p) = .ok ((rp p 0 l).map fr) := by
  unfold with_root
  rw [bd_guard (by simp only [List.length_map, List.length_cons, List.length_nil]; omega), bd_guard (by rw [List.length_map]; omega), mapMm_map, mapMm_eq (g := fun x => fr (x * p)) _ fun x hx => ?_]
  · have e1 : [((0, 1) : Int × Int)] ++ l.map fr = (0 :: l).map fr := by rw [List.map_cons, fr_zero]; rfl
    have e2 : l.map (fun x => fr (x * p)) ++ [((0, 1) : Int × Int)] = (l.map (· * p) ++ [0]).map fr := by
      rw [List.map_append, List.map_map, List.map_cons, fr_zero]
      rfl
    show (guardM _).bd _ = _
    rw [bd_guard (by simp only [List.length_map, List.length_cons, List.length_nil]; omega), e1, e2, List.zip_map, bd_guard (by simp only [List.length_map, List.length_zip, List.length_cons, List.length_append, List.length_nil]; omega), mapMm_map, mapMm_eq (g := fun x => fr (x.1 - x.2)) _ fun x hx => ?_]
    · show Mm.ok _ = _
      rw [← zip_rp, List.map_map]
      rfl
    · have m := List.of_mem_zip (a := x.1) (b := x.2) hx
      have h1 : Sq a x.1 := by
        rcases List.mem_cons.mp m.1 with e | e
        · rw [e]; exact zero_sqn ha
        · exact hl _ e
      have h2 : Sq (a + b) x.2 := by
        rcases List.mem_append.mp m.2 with e | e
        · obtain ⟨y, hy, e⟩ := List.mem_map.mp e
          rw [← e]
          exact sq_mul (hl y hy) hp (Nat.le_refl _)
        · rw [List.mem_singleton.mp e]
          exact zero_sqn (by omega)
      show (minus (fr x.1) (fr x.2)).bd _ = _
      rw [minus_ok h1 h2 (by omega)]
      rfl
  · show (times (fr x) (fr p)).bd _ = _
    rw [times_ok (hl x hx) hp (by omega)]
    rfl
def WRf (ps l : List Rat) : List Rat := ps.foldl (fun l p => rp p 0 l) l
def WR (ps : List Rat) : List Rat := WRf ps [1]
theorem WRf_len : ∀ (ps l : List Rat), (WRf ps l).length = l.length + ps.length
  | [], l => rfl
  | p :: ps, l => by
    show (WRf ps (rp p 0 l)).length = _
    rw [WRf_len ps, rp_len, List.length_cons]
    omega
theorem WR_len (ps : List Rat) : (WR ps).length = ps.length + 1 := by
  unfold WR
  rw [WRf_len]
  show 1 + _ = _
  omega
/-! ### what has a bottom in common -/
def Dv (D : Int) (a : Nat) (q : Rat) : Prop := ∃ n : Int, q = (n : Rat) / (D : Rat) ∧ n.natAbs < 2 ^ a
theorem Dv.sq {D : Int} {a : Nat} {q : Rat} (h : Dv D a q) (h0 : 0 < D) (hD : D.natAbs < 2 ^ a) : Sq a q := by
  obtain ⟨n, rfl, hn⟩ := h
  exact sq_div h0 hn hD
theorem Dv.up {D : Int} {a b : Nat} {q : Rat} (h : Dv D a q) (k : a ≤ b) : Dv D b q := by
  obtain ⟨n, e, hn⟩ := h
  exact ⟨n, e, up_lt hn k⟩
theorem dv_zero {D : Int} {a : Nat} : Dv D a 0 := ⟨0, by push_cast; grind, by have := two_le a; show 0 < 2 ^ a; omega⟩
theorem dv_step {D B : Int} {a e : Nat} {z x p : Rat} (hD : 0 < D) (hB : 0 < B) (hz : Dv D a z) (hx : Dv D a x) (hp : Dv B e p) (hBe : B.natAbs < 2 ^ e) : Dv (D * B) (a + e + 1) (z - x * p) := by
  obtain ⟨n, rfl, hn⟩ := hz
  obtain ⟨m, rfl, hm⟩ := hx
  obtain ⟨s, rfl, hs⟩ := hp
  refine ⟨n * B - m * s, ?_, sub_lt (mul_lt hn hBe (Nat.le_refl _)) (mul_lt hm hs (Nat.le_refl _)) (by omega) (by omega)⟩
  have k1 := intc_ne (n := D) (by omega)
  have k2 := intc_ne (n := B) (by omega)
  push_cast
  grind
theorem dv_last {D B : Int} {a e : Nat} {z : Rat} (hD : 0 < D) (hB : 0 < B) (hz : Dv D a z) (hBe : B.natAbs < 2 ^ e) : Dv (D * B) (a + e + 1) z := by
  obtain ⟨n, rfl, hn⟩ := hz
  refine ⟨n * B, ?_, mul_lt hn hBe (by omega)⟩
  have k1 := intc_ne (n := D) (by omega)
  have k2 := intc_ne (n := B) (by omega)
  push_cast
  grind
theorem rp_dv {D B : Int} {a e : Nat} {p : Rat} (hD : 0 < D) (hB : 0 < B) (hp : Dv B e p) (hBe : B.natAbs < 2 ^ e) : ∀ (l : List Rat) (z : Rat), Dv D a z → (∀ x ∈ l, Dv D a x) → ∀ q ∈ rp p z l, Dv (D * B) (a + e + 1) q
  | [], z, hz, _, q, hq => by
    rw [List.mem_singleton.mp hq]
    exact dv_last hD hB hz hBe
  | x :: l, z, hz, hl, q, hq => by
    have hx := hl x (List.mem_cons_self ..)
    rcases List.mem_cons.mp hq with rfl | hq
    · exact dv_step hD hB hz hx hp hBe
    · exact rp_dv hD hB hp hBe l x hx (fun y hy => hl y (List.mem_cons_of_mem _ hy)) q hq
theorem wrf_dv {B : Int} {e : Nat} (hB : 0 < B) (hBe : B.natAbs < 2 ^ e) : ∀ (ps l : List Rat) (D : Int) (a : Nat), 0 < D → (∀ p ∈ ps, Dv B e p) → (∀ x ∈ l, Dv D a x) → ∀ q ∈ WRf ps l, Dv (D * B ^ ps.length) (a + (e + 1) * ps.length) q
  | [], l, D, a, _, _, hl, q, hq => by
    rw [List.length_nil, Int.pow_zero, Int.mul_one]
    exact hl q hq
  | p :: ps, l, D, a, hD, hp, hl, q, hq => by
    have h := wrf_dv hB hBe ps (rp p 0 l) (D * B) (a + e + 1) (Int.mul_pos hD hB) (fun q hq => hp q (List.mem_cons_of_mem _ hq)) (rp_dv hD hB (hp p (List.mem_cons_self ..)) hBe l 0 dv_zero hl) q hq
    have e1 : D * B * B ^ ps.length = D * B ^ (p :: ps).length := by rw [List.length_cons, Int.pow_succ, Int.mul_assoc, Int.mul_comm B]
    have e2 : a + e + 1 + (e + 1) * ps.length = a + (e + 1) * (p :: ps).length := by rw [List.length_cons, Nat.mul_succ]; omega
    rw [e1, e2] at h
    exact h
structure PB (B : Int) (e : Nat) (ps : List Rat) : Prop where
  b0 : 0 < B
  be : B.natAbs < 2 ^ e
  each : ∀ p ∈ ps, Dv B e p
theorem PB.sq {B : Int} {e : Nat} {ps : List Rat} (h : PB B e ps) : Sqs e ps := fun p hp => (h.each p hp).sq h.b0 h.be
theorem PB.sub {B : Int} {e : Nat} {ps qs : List Rat} (h : PB B e ps) (k : ∀ p ∈ qs, p ∈ ps) : PB B e qs := ⟨h.b0, h.be, fun p hp => h.each p (k p hp)⟩
theorem pow_ltZ {B : Int} {e : Nat} (h : B.natAbs < 2 ^ e) : ∀ n : Nat, (B ^ n).natAbs < 2 ^ (e * n + 1)
  | 0 => by simp
  | n + 1 => by
    rw [Int.pow_succ]
    exact mul_lt (pow_ltZ h n) h (by rw [Nat.mul_succ]; omega)
theorem pow_posZ {B : Int} (h : 0 < B) : ∀ n : Nat, 0 < B ^ n
  | 0 => by rw [Int.pow_zero]; decide
  | n + 1 => by
    rw [Int.pow_succ]
    exact Int.mul_pos (pow_posZ h n) h
theorem dv_one {a : Nat} : Dv 1 (a + 1) 1 := ⟨1, by decide +kernel, by have := two_le a; show 1 < 2 ^ (a + 1); rw [Nat.pow_succ]; omega⟩
theorem WR_sq {B : Int} {e : Nat} {ps : List Rat} (h : PB B e ps) : Sqs (1 + (e + 1) * ps.length) (WR ps) := fun q hq => by
  have d := wrf_dv h.b0 h.be ps [1] 1 1 (by decide) h.each (fun x hx => by rw [List.mem_singleton.mp hx]; exact dv_one) q hq
  rw [Int.one_mul] at d
  refine d.sq (pow_posZ h.b0 _) (up_lt (pow_ltZ h.be _) ?_)
  rw [Nat.succ_mul]
  omega
theorem with_roots_fold {B : Int} {e : Nat} {f : List (Int × Int) → (Int × Int) → Mm (List (Int × Int))} (hf : ∀ s x, f s x = (with_root s x).bd fun b => .ok b) (hB : 0 < B) (hBe : B.natAbs < 2 ^ e) : ∀ (ps l : List Rat) (D : Int) (a : Nat), 0 < D → D.natAbs < 2 ^ a → 0 < a → (∀ p ∈ ps, Dv B e p) → (∀ x ∈ l, Dv D a x) → 2 * (a + (e + 1) * ps.length) + e < 8990 → l.length + ps.length < 1000 → foldM f (l.map fr) (ps.map fr) = .ok ((WRf ps l).map fr)
  | [], l, D, a, _, _, _, _, _, _, _ => rfl
  | p :: ps, l, D, a, hD, hDa, ha, hp, hl, hN, hn => by
    have e2 : (e + 1) * (p :: ps).length = (e + 1) * ps.length + (e + 1) := by rw [List.length_cons, Nat.mul_succ]
    rw [List.length_cons] at hn
    have sp := (hp p (List.mem_cons_self ..)).sq hB hBe
    have sl : Sqs a l := fun x hx => (hl x hx).sq hD hDa
    rw [List.map_cons]
    unfold foldM
    rw [hf, with_root_ok sp sl ha (by omega) (by omega), bdo, bdo]
    exact with_roots_fold hf hB hBe ps (rp p 0 l) (D * B) (a + e + 1) (Int.mul_pos hD hB) (mul_lt hDa hBe (by omega)) (by omega) (fun q hq => hp q (List.mem_cons_of_mem _ hq)) (rp_dv hD hB (hp p (List.mem_cons_self ..)) hBe l 0 dv_zero hl) (by omega) (by rw [rp_len]; omega)
theorem with_roots_ok {B : Int} {e : Nat} {ps : List Rat} (h : PB B e ps) (hl : ps.length ≤ 12) (he : e ≤ 100) : with_roots (ps.map fr) = .ok ((WR ps).map fr) := by
  unfold with_roots
  have m : (e + 1) * ps.length ≤ 101 * 12 := Nat.mul_le_mul (by omega) hl
  have := with_roots_fold (f := fun (b10 : (List (Int × Int))) (x11 : (Int × Int)) => (with_root (b10) (x11)).bd fun b31 => Mm.ok b31) (fun _ _ => rfl) h.b0 h.be ps [1] 1 1 (by decide) (by decide) (by decide) h.each (fun x hx => by rw [List.mem_singleton.mp hx]; exact dv_one) (by omega) (by show 1 + ps.length < 1000; omega)
  rw [List.map_cons, fr_one] at this
  rw [show ([((1, 1) : Int × Int)] : List (Int × Int)) = (1, 1) :: List.map fr [] from rfl, this]
  rfl
/-! ### values -/
theorem ev_rp (p x : Rat) : ∀ (l : List Rat) (z : Rat), ev (rp p z l) x = z + ev l x * (x - p)
  | [], z => by
    show z + x * 0 = z + 0 * (x - p)
    grind
  | c :: l, z => by
    show (z - c * p) + x * ev (rp p c l) x = z + (c + x * ev l x) * (x - p)
    rw [ev_rp p x l c]
    grind
def prd (x : Rat) (ps : List Rat) : Rat := ps.foldl (fun a p => a * (x - p)) 1
theorem prd_from (x : Rat) : ∀ (ps : List Rat) (a : Rat), ps.foldl (fun a p => a * (x - p)) a = a * prd x ps
  | [], a => by
    show a = a * 1
    grind
  | p :: ps, a => by
    unfold prd
    rw [List.foldl_cons, List.foldl_cons, prd_from x ps, prd_from x ps]
    grind
theorem prd_cons (x p : Rat) (ps : List Rat) : prd x (p :: ps) = (x - p) * prd x ps := by
  unfold prd
  rw [List.foldl_cons, prd_from]
  show 1 * (x - p) * prd x ps = _
  unfold prd
  grind
theorem ev_WRf (x : Rat) : ∀ (ps l : List Rat), ev (WRf ps l) x = ev l x * prd x ps
  | [], l => by
    show ev l x = ev l x * 1
    grind
  | p :: ps, l => by
    show ev (WRf ps (rp p 0 l)) x = _
    rw [ev_WRf x ps, ev_rp, prd_cons]
    grind
theorem ev_WR (x : Rat) (ps : List Rat) : ev (WR ps) x = prd x ps := by
  unfold WR
  rw [ev_WRf]
  show (1 + x * 0) * _ = _
  grind
theorem prd_ne {x : Rat} : ∀ {ps : List Rat}, x ∉ ps → prd x ps ≠ 0
  | [], _ => by
    show (1 : Rat) ≠ 0
    decide
  | p :: ps, h => by
    have h1 : x ≠ p := fun e => h (by rw [e]; exact List.mem_cons_self ..)
    have h2 := prd_ne (x := x) (ps := ps) fun e => h (List.mem_cons_of_mem _ e)
    rw [prd_cons]
    intro z
    rcases Rat.mul_eq_zero.mp z with q | q
    · exact h1 (by grind)
    · exact h2 q
theorem prd_zero {x : Rat} : ∀ {ps : List Rat}, x ∈ ps → prd x ps = 0
  | [], h => by cases h
  | p :: ps, h => by
    rw [prd_cons]
    rcases List.mem_cons.mp h with rfl | h
    · grind
    · rw [prd_zero h]
      grind
theorem prd_sq {B : Int} {e : Nat} {x : Rat} : ∀ {ps : List Rat}, 0 < B → B.natAbs < 2 ^ e → Dv B e x → (∀ p ∈ ps, Dv B e p) → Sq (1 + (e + 1) * ps.length) (prd x ps)
  | [], _, _, _, _ => one_sq
  | p :: ps, hB, hBe, hx, hp => by
    have ih := prd_sq (ps := ps) hB hBe hx fun q hq => hp q (List.mem_cons_of_mem _ hq)
    have d : Sq (e + 1) (x - p) := by
      obtain ⟨n, rfl, hn⟩ := hx
      obtain ⟨m, rfl, hm⟩ := hp p (List.mem_cons_self ..)
      have k := intc_ne (n := B) (by omega)
      have e1 : (n : Rat) / (B : Rat) - (m : Rat) / (B : Rat) = ((n - m : Int) : Rat) / (B : Rat) := by
        push_cast
        grind
      rw [e1]
      exact sq_div hB (sub_lt hn hm (by omega) (by omega)) (up_lt hBe (by omega))
    rw [prd_cons]
    exact sq_mul d ih (by rw [List.length_cons, Nat.mul_succ]; omega)
/-! ### the polynomial that is 1 at one place and 0 at the others -/
def oth (ps : List Rat) (i : Nat) : List Rat := ps.take i ++ ps.drop (i + 1)
def LB (ps : List Rat) (i : Nat) : List Rat := (WR (oth ps i)).map fun c => c / prd (ps.getD i 0) (oth ps i)
theorem oth_len {ps : List Rat} {i : Nat} (h : i < ps.length) : (oth ps i).length = ps.length - 1 := by
  unfold oth
  rw [List.length_append, List.length_take, List.length_drop]
  omega
theorem oth_mem {ps : List Rat} {i : Nat} {q : Rat} (h : q ∈ oth ps i) : q ∈ ps := by
  rcases List.mem_append.mp h with h | h
  · exact List.mem_of_mem_take h
  · exact List.mem_of_mem_drop h
theorem oth_not {ps : List Rat} {i : Nat} (ha : ps.Pairwise (· < ·)) (h : i < ps.length) : ps[i] ∉ oth ps i := by
  have e : ps = ps.take i ++ ps[i] :: ps.drop (i + 1) := by
    rw [← List.drop_eq_getElem_cons h, List.take_append_drop]
  have k : ∀ (l r : List Rat) (x : Rat), (l ++ x :: r).Pairwise (· < ·) → x ∉ l ++ r := fun l r x hp hx => by
    obtain ⟨_, h2, h3⟩ := List.pairwise_append.mp hp
    rcases List.mem_append.mp hx with q | q
    · exact absurd (h3 x q x (List.mem_cons_self ..)) (by grind)
    · exact absurd ((List.pairwise_cons.mp h2).1 x q) (by grind)
  exact k _ _ _ (by rw [← e]; exact ha)
theorem getD_at {ps : List Rat} {i : Nat} (h : i < ps.length) : ps.getD i 0 = ps[i] := by
  rw [List.getD_eq_getElem?_getD, List.getElem?_eq_getElem h]
  rfl
theorem cut_lo {α : Type} (l : List α) (n : Nat) (h : n ≤ l.length) : cutL l none (some (n : Int)) = l.take n := by
  unfold cutL
  rw [HT.sIx_none, HT.sIx_nat, Nat.min_eq_left h]
  rfl
theorem cut_hi {α : Type} (l : List α) (n : Nat) (h : n ≤ l.length) : cutL l (some (n : Int)) none = l.drop n := by
  unfold cutL
  rw [HT.sIx_none, HT.sIx_nat, Nat.min_eq_left h]
  exact List.take_of_length_le (by rw [List.length_drop]; omega)
theorem LB_len {ps : List Rat} {i : Nat} (h : i < ps.length) : (LB ps i).length = ps.length := by
  unfold LB
  rw [List.length_map, WR_len, oth_len h]
  omega
theorem LB_sq {B : Int} {e : Nat} {ps : List Rat} (hp : PB B e ps) (ha : ps.Pairwise (· < ·)) {i : Nat} (h : i < ps.length) : Sqs (2 * (1 + (e + 1) * (ps.length - 1))) (LB ps i) := fun q hq => by
  have ho : PB B e (oth ps i) := hp.sub fun p hp => oth_mem hp
  obtain ⟨c, hc, rfl⟩ := List.mem_map.mp hq
  have s1 := WR_sq ho c hc
  have s2 := prd_sq (ps := oth ps i) hp.b0 hp.be (hp.each ps[i] (List.getElem_mem h)) ho.each
  rw [oth_len h] at s1 s2
  have ne := prd_ne (oth_not ha h)
  rw [getD_at h]
  exact sq_divB s1 s2 ne (by omega)
theorem only_at_ok {B : Int} {e : Nat} {ps : List Rat} (hp : PB B e ps) (ha : ps.Pairwise (· < ·)) (hl : ps.length ≤ 6) (he : e ≤ 30) {i : Nat} (h : i < ps.length) : only_at (ps.map fr) (i : Int) = .ok ((LB ps i).map fr) := by
  have ho : PB B e (oth ps i) := hp.sub fun p hp => oth_mem hp
  have ol := oth_len h
  have sW := WR_sq ho
  have m : (e + 1) * (oth ps i).length ≤ 31 * 5 := Nat.mul_le_mul (by omega) (by omega)
  have s2 := prd_sq (ps := oth ps i) hp.b0 hp.be (hp.each ps[i] (List.getElem_mem h)) ho.each
  have wl := WR_len (oth ps i)
  have mm : (e + (1 + (e + 1) * (oth ps i).length) + 1) * (WR (oth ps i)).length ≤ 200 * 6 := Nat.mul_le_mul (by omega) (by omega)
  unfold only_at
  rw [cut_lo _ _ (by rw [List.length_map]; omega), show ((i : Int) + 1) = ((i + 1 : Nat) : Int) by omega, cut_hi _ _ (by rw [List.length_map]; omega), guard_ok (by rw [List.length_take, List.length_drop, List.length_map]; omega), bdo]
  have e1 : (ps.map fr).take i ++ (ps.map fr).drop (i + 1) = (oth ps i).map fr := by
    unfold oth
    rw [List.map_append, List.map_take, List.map_drop]
  rw [e1, with_roots_ok ho (by omega) (by omega), bdo, getM_map (List.getElem?_eq_getElem h), bdo, worth_ok (hp.sq _ (List.getElem_mem h)) _ sW (by omega), bdo, ev_WR, guard_ok (by rw [List.length_map]; omega), bdo, mapMm_map, mapMm_eq (g := fun c => fr (c / prd ps[i] (oth ps i))) _ fun c hc => ?_, bdo]
  · congr 1
    unfold LB
    rw [List.map_map, getD_at h]
    rfl
  · rw [over_ok (sW c hc) s2 (prd_ne (oth_not ha h)) (by omega), bdo]
/-! ### weights -/
def Wts (w : Wt) (ps : List Rat) : List Rat := (List.range ps.length).map fun i => WS w (LB ps i)
theorem Wts_len (w : Wt) (ps : List Rat) : (Wts w ps).length = ps.length := by
  unfold Wts
  rw [List.length_map, List.length_range]
theorem WS_sq {w : Wt} (g : Good w) {B : Int} {e : Nat} {ps : List Rat} (hp : PB B e ps) (ha : ps.Pairwise (· < ·)) (hl : ps.length ≤ 6) (he : e ≤ 30) {i : Nat} (h : i < ps.length) : Sq (1 + (2 * (1 + (e + 1) * (ps.length - 1)) + 91) * ps.length) (WS w (LB ps i)) := by
  have sL := LB_sq hp ha h
  have k : ∀ l : List (Int × Rat), (∀ x ∈ l, Sq (2 * (1 + (e + 1) * (ps.length - 1)) + 90) (tW w x)) → Sq (1 + (2 * (1 + (e + 1) * (ps.length - 1)) + 91) * l.length) (l.map (tW w)).sum := fun l => by
    induction l with
    | nil => intro _; exact zero_sqn (by omega)
    | cons x l ih =>
      intro hx
      rw [List.map_cons, List.sum_cons]
      exact sq_add (hx x (List.mem_cons_self ..)) (ih fun y hy => hx y (List.mem_cons_of_mem _ hy)) (by rw [List.length_cons, Nat.mul_succ]; omega)
  have q := k (numL 0 (LB ps i)) fun x hx => by
    obtain ⟨a, b, m⟩ := numL_mem _ 0 x hx
    have := LB_len h
    exact sq_mul (sL _ m) (sq_PS12 g (by omega)) (Nat.le_refl _)
  rw [numL_len, LB_len h] at q
  exact q
/-! ### indexes -/
theorem filMm_eq {α γ : Type} {f : α → Mm (Option γ)} (g : α → Option γ) : ∀ l : List α, (∀ x ∈ l, f x = .ok (g x)) → filMm f l = .ok (l.filterMap g)
  | [], _ => rfl
  | x :: l, h => by
    unfold filMm
    rw [h x (List.mem_cons_self ..), bdo, filMm_eq g l fun y hy => h y (List.mem_cons_of_mem _ hy), bdo, List.filterMap_cons]
    cases g x <;> rfl
theorem filMm_map {α β γ : Type} {f : β → Mm (Option γ)} {g : α → β} : ∀ l : List α, filMm f (l.map g) = filMm (fun x => f (g x)) l
  | [] => rfl
  | x :: l => by
    rw [List.map_cons]
    unfold filMm
    rw [filMm_map l]
theorem numL_fst {α : Type} : ∀ (l : List α) (k : Int), (numL k l).map (·.1) = rangeL k l.length
  | [], k => rfl
  | x :: l, k => by
    unfold numL
    rw [List.map_cons, numL_fst l, List.length_cons, rangeL_succ]
theorem numL_at {α : Type} {l : List α} {y : Int × α} (h : y ∈ numL 0 l) : l[y.1.toNat]? = some y.2 ∧ 0 ≤ y.1 := by
  have k : ∀ (l pre : List α) (y : Int × α), y ∈ numL (pre.length : Int) l → (pre ++ l)[y.1.toNat]? = some y.2 := fun l => by
    induction l with
    | nil => intro pre y h; cases h
    | cons x l ih =>
      intro pre y h
      rcases List.mem_cons.mp h with rfl | h
      · show (pre ++ x :: l)[((pre.length : Int)).toNat]? = some x
        rw [Int.toNat_natCast]
        simp
      · have := ih (pre ++ [x]) y (by rw [List.length_append, List.length_singleton]; exact h)
        simpa using this
  exact ⟨by simpa using k l [] y h, (numL_mem l 0 y h).1⟩
def idx (P : Rat → Bool) (l : List Rat) : List Int := (numL 0 l).filterMap fun y => if P y.2 then some y.1 else none
theorem idx_prog {f : Int × (Int × Int) → Mm (Option Int)} (P : Rat → Bool) (l : List Rat) (hf : ∀ (i : Int) (q : Rat), q ∈ l → f (i, fr q) = .ok (if P q then some i else none)) : filMm f (enumL (l.map fr)) = .ok (idx P l) := by
  rw [enumL_eq, numL_map, filMm_map]
  exact filMm_eq _ _ fun y hy => hf y.1 y.2 (numL_mem l 0 y hy).2.2
theorem idx_law {f : Int → Mm (Option Int)} (P : Rat → Bool) (l : List Rat) (hf : ∀ (i : Nat) (q : Rat), l[i]? = some q → f (i : Int) = .ok (if P q then some (i : Int) else none)) : filMm f (rangeL 0 l.length) = .ok (idx P l) := by
  rw [← numL_fst, filMm_map]
  refine filMm_eq _ _ fun y hy => ?_
  obtain ⟨h1, h2⟩ := numL_at hy
  have e : y.1 = ((y.1.toNat : Nat) : Int) := by omega
  have := hf y.1.toNat y.2 h1
  rw [← e] at this
  exact this
theorem fr_isz (q : Rat) : decide (fr q = ((0, 1) : Int × Int)) = decide (q = 0) := by
  rw [← fr_zero]
  exact decide_eq_decide.mpr ⟨fr_inj, fun h => by rw [h]⟩
theorem fr_isp (q : Rat) : decide ((fr q).1 > (0 : Int)) = decide (0 < q) := decide_eq_decide.mpr (by
  constructor
  · intro h
    have v := fr_val q
    have p : (0 : Rat) < ((fr q).1 : Rat) := Rat.intCast_pos.mpr h
    have d : (0 : Rat) < ((fr q).2 : Rat) := Rat.intCast_pos.mpr (den_posI q)
    rw [← v, Rat.div_def]
    exact Rat.mul_pos p (Rat.inv_pos.mpr d)
  · exact fun h => num_pos' h)
structure Pls (n : Nat) (pl : List (Int × Int)) (ps : List Rat) : Prop where
  rx : All2 (fun p x => Rx 7 x p) ps pl
  asc : ps.Pairwise (· < ·)
  len : ps.length ≤ n
  pos : 0 < ps.length
  pb : ∃ B, PB B 6 ps
theorem PlB.pls {n : Nat} {pl : List (Int × Int)} {ps : List Rat} (h : PlB n pl ps) : Pls n pl ps := by
  obtain ⟨B, b1, b3, hB⟩ := h.dn
  have e6 : (2 : Nat) ^ 6 = 64 := by decide
  refine ⟨h.rx, h.asc, h.len, h.pos, B, by omega, by omega, fun p hp => ?_⟩
  obtain ⟨s, s1, s2⟩ := hB p hp
  exact ⟨s, s2, by omega⟩
theorem int_pls {n : Nat} (zs : List Int) (h : zs.Pairwise (· < ·)) (hb : ∀ z ∈ zs, z.natAbs ≤ 40) (hl : zs.length ≤ n) (h0 : 0 < zs.length) : Pls n (zs.map fun z => (z, (1 : Int))) (zs.map fun z => ((z : Int) : Rat)) := by
  have e6 : (2 : Nat) ^ 6 = 64 := by decide
  have e7 : (2 : Nat) ^ 7 = 128 := by decide
  refine ⟨?_, ?_, by rw [List.length_map]; exact hl, by rw [List.length_map]; exact h0, 1, by decide, by decide, fun p hp => ?_⟩
  · clear h hl h0
    induction zs with
    | nil => exact .nil
    | cons z zs ih => exact .cons (rx_int (by have := hb z (List.mem_cons_self ..); omega) (by decide)) (ih fun y hy => hb y (List.mem_cons_of_mem _ hy))
  · rw [List.pairwise_map]
    exact h.imp fun k => Rat.intCast_lt_intCast.mpr k
  · obtain ⟨z, hz, rfl⟩ := List.mem_map.mp hp
    refine ⟨z, ?_, by have := hb z hz; omega⟩
    push_cast
    grind
theorem mass_places (w : Wt) : w.1.map (fun x => (x.1, (1 : Int))) = (w.1.map (·.1)).map fun z => (z, (1 : Int)) := by rw [List.map_map]; rfl
/-! ### interpolation -/
theorem ev_map_mul (c x : Rat) : ∀ l : List Rat, ev (l.map (c * ·)) x = c * ev l x
  | [] => by
    show (0 : Rat) = c * 0
    grind
  | y :: l => by
    show c * y + x * ev (l.map (c * ·)) x = c * (y + x * ev l x)
    rw [ev_map_mul c x l]
    grind
theorem ev_zipWith (x : Rat) : ∀ l r : List Rat, l.length = r.length → ev (List.zipWith (· + ·) l r) x = ev l x + ev r x
  | [], [], _ => by
    show (0 : Rat) = 0 + 0
    grind
  | [], _ :: _, h => by cases h
  | _ :: _, [], h => by cases h
  | a :: l, b :: r, h => by
    show a + b + x * ev (List.zipWith (· + ·) l r) x = a + x * ev l x + (b + x * ev r x)
    rw [ev_zipWith x l r (by simpa using h)]
    grind
theorem ev_LB (ps : List Rat) (i : Nat) (x : Rat) : ev (LB ps i) x = prd x (oth ps i) / prd (ps.getD i 0) (oth ps i) := by
  unfold LB
  rw [map_divI, ev_map_mul, ev_WR]
  grind
where map_divI {c : Rat} {l : List Rat} : l.map (fun y => y / c) = l.map ((1 / c) * ·) := List.map_congr_left fun y _ => by grind
theorem mem_oth {ps : List Rat} {i j : Nat} (hj : j < ps.length) (h : j ≠ i) : ps[j] ∈ oth ps i := by
  unfold oth
  by_cases q : j < i
  · refine List.mem_append_left _ (List.mem_iff_getElem.mpr ⟨j, by rw [List.length_take]; omega, ?_⟩)
    rw [List.getElem_take]
  · refine List.mem_append_right _ (List.mem_iff_getElem.mpr ⟨j - (i + 1), by rw [List.length_drop]; omega, ?_⟩)
    rw [List.getElem_drop]
    congr 1
    omega
theorem ev_LB_self {ps : List Rat} (ha : ps.Pairwise (· < ·)) {i : Nat} (h : i < ps.length) : ev (LB ps i) ps[i] = 1 := by
  rw [ev_LB, getD_at h]
  have := prd_ne (oth_not ha h)
  grind
theorem ev_LB_other {ps : List Rat} {i j : Nat} (hj : j < ps.length) (h : j ≠ i) : ev (LB ps i) ps[j] = 0 := by
  rw [ev_LB, prd_zero (mem_oth hj h)]
  grind
/-- the polynomial through worths, as far as some indexes are done -/
def IPk (ps ys : List Rat) : Nat → List Rat
  | 0 => List.replicate ps.length 0
  | k + 1 => List.zipWith (· + ·) (IPk ps ys k) ((LB ps k).map (ys.getD k 0 * ·))
def IP (ps ys : List Rat) : List Rat := IPk ps ys ps.length
theorem IPk_len (ps ys : List Rat) : ∀ k, k ≤ ps.length → (IPk ps ys k).length = ps.length
  | 0, _ => by
    unfold IPk
    rw [List.length_replicate]
  | k + 1, h => by
    unfold IPk
    rw [List.length_zipWith, IPk_len ps ys k (by omega), List.length_map, LB_len (by omega), Nat.min_self]
theorem IP_len (ps ys : List Rat) : (IP ps ys).length = ps.length := IPk_len ps ys _ (Nat.le_refl _)
theorem ev_repl (x : Rat) : ∀ n : Nat, ev (List.replicate n 0) x = 0
  | 0 => rfl
  | n + 1 => by
    rw [List.replicate_succ]
    show 0 + x * ev (List.replicate n 0) x = 0
    rw [ev_repl x n]
    grind
theorem ev_IPk {ps ys : List Rat} (ha : ps.Pairwise (· < ·)) {j : Nat} (hj : j < ps.length) : ∀ k, k ≤ ps.length → ev (IPk ps ys k) ps[j] = if j < k then ys.getD j 0 else 0
  | 0, _ => by
    rw [if_neg (by omega)]
    exact ev_repl _ _
  | k + 1, h => by
    have ih := ev_IPk ha hj k (ys := ys) (by omega)
    show ev (List.zipWith (· + ·) (IPk ps ys k) ((LB ps k).map (ys.getD k 0 * ·))) ps[j] = _
    rw [ev_zipWith _ _ _ (by rw [IPk_len ps ys k (by omega), List.length_map, LB_len (by omega)]), ih, ev_map_mul]
    by_cases q : j = k
    · subst q
      rw [ev_LB_self ha hj, if_neg (by omega), if_pos (by omega)]
      grind
    · rw [ev_LB_other hj q]
      by_cases z : j < k
      · rw [if_pos z, if_pos (by omega)]
        grind
      · rw [if_neg z, if_neg (by omega)]
        grind
theorem ev_IP {ps ys : List Rat} (ha : ps.Pairwise (· < ·)) {j : Nat} (hj : j < ps.length) : ev (IP ps ys) ps[j] = ys.getD j 0 := by
  unfold IP
  rw [ev_IPk ha hj _ (Nat.le_refl _), if_pos hj]
theorem ev_IPf {ps : List Rat} (ha : ps.Pairwise (· < ·)) (f : Rat → Rat) : ∀ p ∈ ps, ev (IP ps (ps.map f)) p = f p := fun p hp => by
  obtain ⟨i, hi, rfl⟩ := List.getElem_of_mem hp
  rw [ev_IP ha hi, List.getD_eq_getElem?_getD, List.getElem?_map, List.getElem?_eq_getElem hi]
  rfl
/-! ### a polynomial is told by as many worths as it has coefficients -/
def sx (p : Rat) : List Rat → List Rat
  | [] => []
  | c :: l => ev (c :: l) p :: sx p l
theorem sx_len (p : Rat) : ∀ l, (sx p l).length = l.length
  | [] => rfl
  | c :: l => by
    unfold sx
    rw [List.length_cons, sx_len p l, List.length_cons]
theorem rp_sx (p : Rat) : ∀ (l : List Rat) (z c : Rat), z = c + ev l p * p → rp p z (sx p l) = c :: l
  | [], z, c, h => by
    show [z] = [c]
    congr 1
    rw [h]
    show c + 0 * p = c
    grind
  | d :: l, z, c, h => by
    show (z - ev (d :: l) p * p) :: rp p (ev (d :: l) p) (sx p l) = c :: d :: l
    rw [rp_sx p l (ev (d :: l) p) d (by show d + p * ev l p = d + ev l p * p; grind), h]
    congr 1
    grind
theorem factor {p : Rat} {c : Rat} {l : List Rat} (h : ev (c :: l) p = 0) : rp p 0 (sx p l) = c :: l := rp_sx p l 0 c (by
  have : c + p * ev l p = 0 := h
  grind)
theorem rp_zero (p : Rat) : ∀ (l : List Rat) (z : Rat), z = 0 → (∀ c ∈ l, c = 0) → ∀ c ∈ rp p z l, c = 0
  | [], z, hz, _, c, hc => by rw [List.mem_singleton.mp hc, hz]
  | x :: l, z, hz, h, c, hc => by
    have hx := h x (List.mem_cons_self ..)
    rcases List.mem_cons.mp hc with rfl | hc
    · rw [hz, hx]
      grind
    · exact rp_zero p l x hx (fun y hy => h y (List.mem_cons_of_mem _ hy)) c hc
theorem zero_of_roots : ∀ (ps l : List Rat), ps.Pairwise (· ≠ ·) → l.length ≤ ps.length → (∀ p ∈ ps, ev l p = 0) → ∀ c ∈ l, c = 0
  | _, [], _, _, _, c, hc => by cases hc
  | [], _ :: _, _, h, _, c, hc => by simp at h
  | p :: ps, c :: l, hn, hl, hr, d, hd => by
    obtain ⟨n1, n2⟩ := List.pairwise_cons.mp hn
    have f := factor (hr p (List.mem_cons_self ..))
    rw [List.length_cons, List.length_cons] at hl
    have z := zero_of_roots ps (sx p l) n2 (by rw [sx_len]; omega) fun q hq => by
      have e := hr q (List.mem_cons_of_mem _ hq)
      rw [← f, ev_rp] at e
      have : q - p ≠ 0 := fun z => n1 q hq (by grind)
      grind
    rw [← f] at hd
    exact rp_zero p _ 0 rfl z d hd
theorem asc_ne {ps : List Rat} (h : ps.Pairwise (· < ·)) : ps.Pairwise (· ≠ ·) := h.imp fun {a b} k e => by rw [e] at k; exact absurd k (by grind)
/-- two polynomials of so many coefficients that agree at as many places are one -/
theorem same_poly {ps : List Rat} (hn : ps.Pairwise (· ≠ ·)) {l r : List Rat} (h1 : l.length = r.length) (h2 : l.length ≤ ps.length) (h : ∀ p ∈ ps, ev l p = ev r p) : l = r := by
  have z := zero_of_roots ps (List.zipWith (· + ·) l (r.map ((-1) * ·))) hn (by rw [List.length_zipWith, List.length_map]; omega) fun p hp => by
    rw [ev_zipWith _ _ _ (by rw [List.length_map]; exact h1), ev_map_mul, h p hp]
    grind
  have k : ∀ l r : List Rat, l.length = r.length → (∀ c ∈ List.zipWith (· + ·) l (r.map ((-1) * ·)), c = 0) → l = r := fun l => by
    induction l with
    | nil =>
      intro r h _
      cases r with
      | nil => rfl
      | cons => cases h
    | cons a l ih =>
      intro r h k
      cases r with
      | nil => cases h
      | cons b r =>
        have e := k (a + -1 * b) (by simp)
        rw [ih r (by simpa using h) fun c hc => k c (by simp only [List.map_cons, List.zipWith_cons_cons]; exact List.mem_cons_of_mem _ hc)]
        congr 1
        grind
  exact k l r h1 z
/-! ### without the zeros at the end -/
def tl (l : List Rat) : Nat → Nat
  | 0 => 0
  | n + 1 => if l.getD n 0 = 0 then tl l n else n + 1
def trim (l : List Rat) : List Rat := l.take (tl l l.length)
theorem tl_le (l : List Rat) : ∀ n, tl l n ≤ n
  | 0 => Nat.le_refl _
  | n + 1 => by
    unfold tl
    split
    · have := tl_le l n
      omega
    · exact Nat.le_refl _
theorem tl_zero {l : List Rat} : ∀ {n k : Nat}, tl l n ≤ k → k < n → l.getD k 0 = 0
  | 0, k, _, h => absurd h (by omega)
  | n + 1, k, h, h2 => by
    unfold tl at h
    split at h
    · rename_i z
      by_cases q : k = n
      · rw [q]; exact z
      · exact tl_zero h (by omega)
    · omega
theorem tl_min {l : List Rat} {m : Nat} : ∀ {n : Nat}, (∀ k, m ≤ k → k < n → l.getD k 0 = 0) → tl l n ≤ m
  | 0, _ => Nat.zero_le _
  | n + 1, h => by
    unfold tl
    split
    · exact tl_min fun k h1 h2 => h k h1 (by omega)
    · rename_i z
      apply Classical.byContradiction
      intro q
      exact z (h n (by omega) (by omega))
theorem getD_beyond {l : List Rat} {k : Nat} (h : l.length ≤ k) : l.getD k 0 = 0 := by
  rw [List.getD_eq_getElem?_getD, List.getElem?_eq_none h]
  rfl
theorem ev_take (x : Rat) : ∀ (l : List Rat) (m : Nat), (∀ k, m ≤ k → l.getD k 0 = 0) → ev (l.take m) x = ev l x
  | [], m, _ => by rw [List.take_nil]
  | c :: l, 0, h => by
    have z : ∀ r : List Rat, (∀ k, r.getD k 0 = 0) → ev r x = 0 := fun r => by
      induction r with
      | nil => intro _; rfl
      | cons d r ih =>
        intro hr
        have h0 : d = 0 := hr 0
        show d + x * ev r x = 0
        rw [ih fun k => hr (k + 1), h0]
        grind
    rw [z (c :: l) fun k => h k (Nat.zero_le _)]
    rfl
  | c :: l, m + 1, h => by
    rw [List.take_succ_cons]
    show c + x * ev (l.take m) x = c + x * ev l x
    rw [ev_take x l m fun k hk => h (k + 1) (by omega)]
theorem trim_ev (l : List Rat) (x : Rat) : ev (trim l) x = ev l x := ev_take x l _ fun k hk => by
  by_cases q : k < l.length
  · exact tl_zero hk q
  · exact getD_beyond (by omega)
theorem trim_len (l : List Rat) : (trim l).length = tl l l.length := by
  unfold trim
  rw [List.length_take]
  have := tl_le l l.length
  omega
theorem trim_le {l : List Rat} {m : Nat} : (trim l).length ≤ m ↔ ∀ k, m ≤ k → l.getD k 0 = 0 := by
  rw [trim_len]
  constructor
  · intro h k hk
    by_cases q : k < l.length
    · exact tl_zero (by omega) q
    · exact getD_beyond (by omega)
  · exact fun h => tl_min fun k h1 _ => h k h1
theorem tl_congr {l r : List Rat} : ∀ {n : Nat}, (∀ k, k < n → l.getD k 0 = r.getD k 0) → tl l n = tl r n
  | 0, _ => rfl
  | n + 1, h => by
    unfold tl
    rw [h n (by omega), tl_congr fun k hk => h k (by omega)]
theorem getD_app_lt {l r : List Rat} {k : Nat} (h : k < l.length) : (l ++ r).getD k 0 = l.getD k 0 := by
  rw [List.getD_eq_getElem?_getD, List.getD_eq_getElem?_getD, List.getElem?_append_left h]
theorem getD_snoc (l : List Rat) (x : Rat) : (l ++ [x]).getD l.length 0 = x := by
  rw [List.getD_eq_getElem?_getD]
  simp
theorem trim_snoc0 (l : List Rat) : trim (l ++ [0]) = trim l := by
  unfold trim
  rw [List.length_append, List.length_singleton]
  have e : tl (l ++ [0]) (l.length + 1) = tl l l.length := by
    show (if (l ++ [0]).getD l.length 0 = 0 then tl (l ++ [0]) l.length else l.length + 1) = _
    rw [getD_snoc, if_pos rfl]
    exact tl_congr fun k hk => getD_app_lt hk
  rw [e, List.take_append_of_le_length (tl_le _ _)]
theorem trim_snoc {l : List Rat} {x : Rat} (h : x ≠ 0) : trim (l ++ [x]) = l ++ [x] := by
  unfold trim
  rw [List.length_append, List.length_singleton]
  have e : tl (l ++ [x]) (l.length + 1) = l.length + 1 := by
    show (if (l ++ [x]).getD l.length 0 = 0 then tl (l ++ [x]) l.length else l.length + 1) = _
    rw [getD_snoc, if_neg h]
  rw [e]
  exact List.take_of_length_le (by simp)
theorem trim_mem {l : List Rat} {c : Rat} (h : c ∈ trim l) : c ∈ l := List.mem_of_mem_take h
theorem trimmed_ok {l : List Rat} (hl : l.length ≤ 1000) : trimmed (l.map fr) = .ok ((trim l).map fr) := by
  have k : ∀ (N n : Nat), n < N → n ≤ l.length → foldW (fun (b5 : Int) => (cond (decide (b5 > (0 : Int))) ((getM (l.map fr) (b5 - (1 : Int))).bd fun i27 => Mm.ok (decide (i27 = ((0, 1) : (Int × Int))))) (Mm.ok false)).bd fun b23 => Mm.ok b23) (fun (b6 : Int) => Mm.ok (b6 - (1 : Int))) N (n : Int) = .ok ((tl l n : Nat) : Int) := fun N => by
    induction N with
    | zero => intro n h; omega
    | succ N ih =>
      intro n hn hl'
      unfold foldW
      cases n with
      | zero =>
        rw [cF (c := decide (((0 : Nat) : Int) > 0)) (by decide), bdo, bdo]
        rfl
      | succ n =>
        have at_ : l[n]? = some (l.getD n 0) := by
          rw [List.getD_eq_getElem?_getD, List.getElem?_eq_getElem (by omega)]
          rfl
        have e : ((n + 1 : Nat) : Int) - 1 = (n : Int) := by omega
        rw [cT (c := decide (((n + 1 : Nat) : Int) > 0)) (decide_eq_true (by omega)), e, getM_map at_, bdo, bdo, bdo, show decide (fr (l.getD n 0) = ((0, 1) : Int × Int)) = decide (l.getD n 0 = 0) from by
          rw [← fr_zero]
          exact decide_eq_decide.mpr ⟨fr_inj, fun h => by rw [h]⟩]
        by_cases z : l.getD n 0 = 0
        · have e2 : tl l (n + 1) = tl l n := if_pos z
          rw [decide_eq_true z, e2, ← ih n (by omega) (by omega)]
          rfl
        · have e2 : tl l (n + 1) = n + 1 := if_neg z
          rw [decide_eq_false z, e2]
  have q := k (l.length + 1) l.length (by omega) (Nat.le_refl _)
  unfold trimmed
  rw [List.length_map, Int.toNat_natCast]
  refine (congrArg (fun m => Mm.bd m _) q).trans ?_
  rw [bdo, cut_lo _ _ (by rw [List.length_map]; exact tl_le _ _)]
  unfold trim
  rw [List.map_take]
theorem trim_pop : ∀ (N : Nat) (l : List Rat), l.length < N → foldW (fun (b137 : (List (Int × Int))) => (cond (!(decide (b137 = []))) ((getM b137 (-(1 : Int))).bd fun i170 => Mm.ok (decide (i170 = ((0 : Int), (1 : Int))))) (Mm.ok false)).bd fun b166 => Mm.ok b166) (fun (b138 : (List (Int × Int))) => (popN b138).bd fun _ => Mm.ok (List.dropLast b138)) N (l.map fr) = .ok ((trim l).map fr) := fun N => by
  induction N with
  | zero => intro l h; omega
  | succ N ih =>
    intro l hl
    unfold foldW
    rcases List.eq_nil_or_concat l with q | ⟨r, x, q⟩
    · subst q
      rfl
    · rw [List.concat_eq_append] at q
      subst q
      rw [List.length_append, List.length_singleton] at hl
      have e1 : (r ++ [x]).map fr = r.map fr ++ [fr x] := by rw [List.map_append]; rfl
      rw [e1, cT (c := !decide (r.map fr ++ [fr x] = [])) (by rw [decide_eq_false (by simp)]; rfl), getM_last, bdo, bdo, bdo, show decide (fr x = ((0 : Int), (1 : Int))) = decide (x = 0) from by
        rw [← fr_zero]
        exact decide_eq_decide.mpr ⟨fr_inj, fun h => by rw [h]⟩]
      by_cases z : x = 0
      · have p1 : popN (r.map fr ++ [fr x]) = .ok (r.map fr ++ [fr x]).dropLast := by
          cases h : r.map fr with
          | nil => rfl
          | cons a b => rfl
        rw [decide_eq_true z, z, trim_snoc0, ← ih r (by omega)]
        rw [z] at p1
        show ((popN _).bd fun _ => Mm.ok _).bd _ = _
        rw [p1, bdo, bdo]
        congr 1
        simp
      · rw [decide_eq_false z, trim_snoc z, e1]
/-! ### fitting a degree -/
def Fit (ps ys : List Rat) (m : Nat) : Prop := ∃ r : List Rat, r.length ≤ m ∧ ∀ j, j < ps.length → ev r (ps.getD j 0) = ys.getD j 0
theorem ev_pad (x : Rat) (n : Nat) : ∀ l : List Rat, ev (l ++ List.replicate n 0) x = ev l x
  | [] => ev_repl x n
  | c :: l => by
    show c + x * ev (l ++ List.replicate n 0) x = c + x * ev l x
    rw [ev_pad x n l]
theorem ev_IPg {ps ys : List Rat} (ha : ps.Pairwise (· < ·)) {j : Nat} (hj : j < ps.length) : ev (IP ps ys) (ps.getD j 0) = ys.getD j 0 := by
  rw [getD_at hj]
  exact ev_IP ha hj
theorem fit_iff {ps ys : List Rat} {m : Nat} (ha : ps.Pairwise (· < ·)) : (trim (IP ps ys)).length ≤ m ↔ Fit ps ys m := by
  constructor
  · exact fun h => ⟨trim (IP ps ys), h, fun j hj => by rw [trim_ev, ev_IPg ha hj]⟩
  · rintro ⟨r, hr, h⟩
    have il := IP_len ps ys
    by_cases q : ps.length ≤ m
    · have := tl_le (IP ps ys) (IP ps ys).length
      rw [trim_len]
      omega
    · have e : IP ps ys = r ++ List.replicate (ps.length - r.length) 0 := same_poly (asc_ne ha) (by rw [List.length_append, List.length_replicate]; omega) (by omega) fun p hp => by
        obtain ⟨i, hi, rfl⟩ := List.getElem_of_mem hp
        rw [ev_IP ha hi, ev_pad, ← h i hi, getD_at hi]
      rw [trim_le]
      intro k hk
      rw [e, List.getD_eq_getElem?_getD]
      by_cases z : r.length ≤ k
      · rw [List.getElem?_append_right z]
        by_cases y : k - r.length < ps.length - r.length
        · rw [List.getElem?_replicate, if_pos y]
          rfl
        · rw [List.getElem?_eq_none (by rw [List.length_replicate]; omega)]
          rfl
      · omega
theorem pad_len (l : List Rat) {n : Nat} (h : l.length ≤ n) : (l ++ List.replicate (n - l.length) 0).length = n := by
  rw [List.length_append, List.length_replicate]
  omega
/-- two short polynomials that agree at enough places tell the same everywhere -/
theorem same_ev {ps l r : List Rat} {m : Nat} (hn : ps.Pairwise (· ≠ ·)) (hm : m ≤ ps.length) (h1 : l.length ≤ m) (h2 : r.length ≤ m) (h : ∀ p ∈ ps, ev l p = ev r p) (x : Rat) : ev l x = ev r x := by
  have := same_poly hn (l := l ++ List.replicate (m - l.length) 0) (r := r ++ List.replicate (m - r.length) 0) (by rw [pad_len l h1, pad_len r h2]) (by rw [pad_len l h1]; exact hm) fun p hp => by rw [ev_pad, ev_pad, h p hp]
  rw [← ev_pad x (m - l.length) l, this, ev_pad]
theorem take_asc {ps : List Rat} (h : ps.Pairwise (· < ·)) (m : Nat) : (ps.take m).Pairwise (· < ·) := h.sublist (List.take_sublist ..)
theorem getD_take {l : List Rat} {m j : Nat} (h : j < m) : (l.take m).getD j 0 = l.getD j 0 := by
  rw [List.getD_eq_getElem?_getD, List.getD_eq_getElem?_getD, List.getElem?_take_of_lt h]
/-- a polynomial by the first places goes through all just where one fits -/
theorem fit_first {ps ys : List Rat} {m : Nat} (ha : ps.Pairwise (· < ·)) : (∀ j, j < ps.length → ev (IP (ps.take m) (ys.take m)) (ps.getD j 0) = ys.getD j 0) ↔ Fit ps ys m := by
  have il := IP_len (ps.take m) (ys.take m)
  rw [List.length_take] at il
  have at_ : ∀ j, j < m → j < ps.length → ev (IP (ps.take m) (ys.take m)) (ps.getD j 0) = ys.getD j 0 := fun j h1 h2 => by
    have := ev_IPg (ys := ys.take m) (take_asc ha m) (j := j) (by rw [List.length_take]; omega)
    rw [getD_take h1, getD_take h1] at this
    exact this
  constructor
  · exact fun h => ⟨IP (ps.take m) (ys.take m), by omega, h⟩
  · rintro ⟨r, hr, h⟩ j hj
    by_cases q : ps.length ≤ m
    · exact at_ j (by omega) hj
    · rw [← h j hj]
      refine same_ev (ps := ps.take m) (m := m) (asc_ne (take_asc ha m)) (by rw [List.length_take]; omega) (by omega) hr (fun p hp => ?_) _
      obtain ⟨i, hi, rfl⟩ := List.getElem_of_mem hp
      rw [List.length_take] at hi
      rw [List.getElem_take]
      have e := getD_at (ps := ps) (i := i) (by omega)
      rw [← e, at_ i (by omega) (by omega), h i (by omega)]
/-! ### the polynomial through readings, as the program tells it -/
theorem LB_sq6 {B : Int} {e : Nat} {ps : List Rat} (hp : PB B e ps) (ha : ps.Pairwise (· < ·)) (hl : ps.length ≤ 6) (he : e ≤ 10) {i : Nat} (h : i < ps.length) : Sqs 112 (LB ps i) := by
  have m : (e + 1) * (ps.length - 1) ≤ 11 * 5 := Nat.mul_le_mul (by omega) (by omega)
  exact (LB_sq hp ha h).up (by omega)
theorem zw_sq {a b : Nat} : ∀ l r : List Rat, Sqs a l → Sqs b r → Sqs (a + b + 1) (List.zipWith (· + ·) l r)
  | [], _, _, _ => fun q hq => by cases hq
  | _ :: _, [], _, _ => fun q hq => by cases hq
  | x :: l, y :: r, h1, h2 => fun q hq => by
    rw [List.zipWith_cons_cons] at hq
    rcases List.mem_cons.mp hq with rfl | hq
    · exact sq_add (h1 x (List.mem_cons_self ..)) (h2 y (List.mem_cons_self ..)) (by omega)
    · exact zw_sq l r (fun z hz => h1 z (List.mem_cons_of_mem _ hz)) (fun z hz => h2 z (List.mem_cons_of_mem _ hz)) q hq
theorem getD_sq {ys : List Rat} {c : Nat} (hy : Sqs c ys) (h0 : 0 < c) (k : Nat) : Sq c (ys.getD k 0) := by
  by_cases q : k < ys.length
  · rw [getD_at q]
    exact hy _ (List.getElem_mem q)
  · rw [getD_beyond (by omega)]
    exact zero_sqn h0
theorem IPk_sq {B : Int} {e c : Nat} {ps ys : List Rat} (hp : PB B e ps) (ha : ps.Pairwise (· < ·)) (hl : ps.length ≤ 6) (he : e ≤ 10) (hy : Sqs c ys) (h0 : 0 < c) : ∀ k, k ≤ ps.length → Sqs (1 + (c + 113) * k) (IPk ps ys k)
  | 0, _ => fun q hq => by
    rw [List.eq_of_mem_replicate hq]
    exact zero_sqn (by omega)
  | k + 1, h => by
    have a := IPk_sq hp ha hl he hy h0 k (by omega)
    have b : Sqs (c + 112) ((LB ps k).map (ys.getD k 0 * ·)) := fun q hq => by
      obtain ⟨z, hz, rfl⟩ := List.mem_map.mp hq
      exact sq_mul (getD_sq hy h0 k) (LB_sq6 hp ha hl he (by omega) z hz) (Nat.le_refl _)
    exact (zw_sq _ _ a b).up (by rw [Nat.mul_succ]; omega)
theorem IP_sq {B : Int} {e c : Nat} {ps ys : List Rat} (hp : PB B e ps) (ha : ps.Pairwise (· < ·)) (hl : ps.length ≤ 6) (he : e ≤ 10) (hy : Sqs c ys) (h0 : 0 < c) : Sqs (1 + (c + 113) * 6) (IP ps ys) := by
  have m : (c + 113) * ps.length ≤ (c + 113) * 6 := Nat.mul_le_mul_left _ hl
  exact (IPk_sq hp ha hl he hy h0 _ (Nat.le_refl _)).up (by omega)
theorem zip_map_fr (l r : List Rat) : (l.map fr).zip (r.map fr) = (l.zip r).map fun x => (fr x.1, fr x.2) := by
  rw [List.zip_map]
  rfl
theorem zw_zip (l r : List Rat) : (l.zip r).map (fun x => x.1 + x.2) = List.zipWith (· + ·) l r := by
  rw [List.zip, List.map_zipWith]
theorem rep0 (n : Nat) (h : n ≤ 100000) : repM [((0, 1) : Int × Int)] (n : Int) = .ok ((List.replicate n (0 : Rat)).map fr) := by
  have k : ∀ n : Nat, (List.replicate n [((0, 1) : Int × Int)]).flatten = List.replicate n (0, 1) := fun n => by
    induction n with
    | zero => rfl
    | succ n ih =>
      rw [List.replicate_succ, List.flatten_cons, ih, List.replicate_succ]
      rfl
  unfold repM
  rw [if_pos ⟨by omega, by omega, by show 1 * _ ≤ _; omega⟩, Int.toNat_natCast, k, List.map_replicate, fr_zero]
theorem polynomial_through_ok {B : Int} {e c : Nat} {ps ys : List Rat} (hp : PB B e ps) (ha : ps.Pairwise (· < ·)) (hl : ps.length ≤ 6) (he : e ≤ 10) (hy : Sqs c ys) (h0 : 0 < c) (hc : c ≤ 1000) (hn : ys.length = ps.length) : polynomial_through (ps.map fr) (ys.map fr) = .ok ((trim (IP ps ys)).map fr) := by
  have loop : ∀ (r pre : List Rat), ys = pre ++ r → foldM (fun (b26 : (List (Int × Int))) (x27 : (Int × (Int × Int))) => (only_at (ps.map fr) (x27.1)).bd fun b58 => (guardM (b58.length ≤ 50000)).bd fun _ => (mapMm (fun (x71 : (Int × Int)) => (times (x27.2) (x71)).bd fun b90 => Mm.ok b90) b58).bd fun b70 => (guardM ((b26.zip b70).length ≤ 50000)).bd fun _ => (mapMm (fun (x108 : ((Int × Int) × (Int × Int))) => (plus (x108.1) (x108.2)).bd fun b133 => Mm.ok b133) (b26.zip b70)).bd fun b107 => Mm.ok b107) ((IPk ps ys pre.length).map fr) (numL (pre.length : Int) (r.map fr)) = .ok ((IPk ps ys (pre.length + r.length)).map fr) := fun r => by
    induction r with
    | nil => intro pre _; rfl
    | cons y r ih =>
      intro pre e1
      have lt : pre.length < ps.length := by rw [← hn, e1, List.length_append, List.length_cons]; omega
      have gy : ys.getD pre.length 0 = y := by
        rw [e1, List.getD_eq_getElem?_getD]
        simp
      have sy : Sq c y := hy y (by rw [e1]; simp)
      have sL := LB_sq6 hp ha hl he lt
      have ll := LB_len lt
      have il := IPk_len ps ys pre.length (by omega)
      have sI := IPk_sq hp ha hl he hy h0 pre.length (by omega)
      have m : (c + 113) * pre.length ≤ (c + 113) * 5 := Nat.mul_le_mul_left _ (by omega)
      rw [List.map_cons]
      unfold numL foldM
      have sz : ∀ x ∈ (IPk ps ys pre.length).zip ((LB ps pre.length).map (y * ·)), plus (fr x.1) (fr x.2) = .ok (fr (x.1 + x.2)) := fun x hx => by
        have q := List.of_mem_zip (a := x.1) (b := x.2) hx
        obtain ⟨z, hz, e2⟩ := List.mem_map.mp q.2
        exact plus_ok (sI _ q.1) (b := c + 112) (by rw [← e2]; exact sq_mul sy (sL z hz) (Nat.le_refl _)) (by omega)
      rw [only_at_ok hp ha hl (by omega) lt, bdo, guard_ok (by rw [List.length_map]; omega), bdo, mapMm_map, mapMm_eq (g := fun z => fr (y * z)) _ fun z hz => by rw [times_ok sy (sL z hz) (by omega), bdo], bdo]
      have e3 : (LB ps pre.length).map (fun z => fr (y * z)) = ((LB ps pre.length).map (y * ·)).map fr := by rw [List.map_map]; rfl
      rw [e3, zip_map_fr, guard_ok (by rw [List.length_map, List.length_zip]; omega), bdo, mapMm_map, mapMm_eq (g := fun x => fr (x.1 + x.2)) _ fun x hx => by rw [sz x hx, bdo], bdo, bdo]
      have e4 : ((IPk ps ys pre.length).zip ((LB ps pre.length).map (y * ·))).map (fun x => fr (x.1 + x.2)) = (IPk ps ys (pre.length + 1)).map fr := by
        have e5 : IPk ps ys (pre.length + 1) = List.zipWith (· + ·) (IPk ps ys pre.length) ((LB ps pre.length).map (ys.getD pre.length 0 * ·)) := rfl
        rw [e5, gy, ← zw_zip, List.map_map]
        rfl
      have := ih (pre ++ [y]) (by rw [e1]; simp)
      rw [List.length_append, List.length_singleton] at this
      have e6 : ((pre.length + 1 : Nat) : Int) = (pre.length : Int) + 1 := by omega
      rw [e6] at this
      rw [e4, List.length_cons, show pre.length + (r.length + 1) = pre.length + 1 + r.length by omega]
      exact this
  have L := loop ys [] rfl
  unfold polynomial_through
  rw [List.length_map, rep0 _ (by omega), bdo, enumL_eq]
  have s0 : IPk ps ys ([] : List Rat).length = List.replicate ps.length 0 := rfl
  rw [s0] at L
  refine (congrArg (fun m => Mm.bd m _) L).trans ?_
  rw [bdo, show ([] : List Rat).length + ys.length = ps.length by show 0 + _ = _; omega, show IPk ps ys ps.length = IP ps ys from rfl, trimmed_ok (by rw [IP_len]; omega), bdo]
theorem fits_ok {B : Int} {e c : Nat} {ps ys : List Rat} {d : Int} (hp : PB B e ps) (ha : ps.Pairwise (· < ·)) (hl : ps.length ≤ 6) (he : e ≤ 10) (hy : Sqs c ys) (h0 : 0 < c) (hc : c ≤ 1000) (hn : ys.length = ps.length) (hd : 0 ≤ d) : fits (ps.map fr) (ys.map fr) d = .ok (decide ((trim (IP ps ys)).length ≤ (d + 1).toNat)) := by
  unfold fits
  rw [polynomial_through_ok hp ha hl he hy h0 hc hn, bdo, List.length_map]
  congr 1
  exact decide_eq_decide.mpr (by omega)
theorem without_ok (l : List Rat) (i : Nat) (h : i < l.length) (hl : l.length ≤ 1000) : without (l.map fr) (i : Int) = .ok ((oth l i).map fr) := by
  unfold without
  rw [cut_lo _ _ (by rw [List.length_map]; omega), show ((i : Int) + 1) = ((i + 1 : Nat) : Int) by omega, cut_hi _ _ (by rw [List.length_map]; omega), guard_ok (by rw [List.length_take, List.length_drop, List.length_map]; omega), bdo]
  congr 1
  unfold oth
  rw [List.map_append, List.map_take, List.map_drop]
theorem oth_asc {ps : List Rat} (ha : ps.Pairwise (· < ·)) (i : Nat) : (oth ps i).Pairwise (· < ·) := by
  have s : (oth ps i).Sublist ps := by
    unfold oth
    conv => rhs; rw [← List.take_append_drop i ps]
    exact (List.Sublist.refl _).append (List.drop_sublist_drop_left _ (by omega))
  exact ha.sublist s
def alone (ps ys : List Rat) (m : Nat) (i : Nat) : Bool := decide ((trim (IP (oth ps i) (oth ys i))).length ≤ m)
def FA (ps ys : List Rat) (m : Nat) : List Int := (rangeL 0 ps.length).filterMap fun x => if alone ps ys m x.toNat then some x else none
theorem rng_nat {n : Nat} {x : Int} (h : x ∈ rangeL 0 n) : ∃ k : Nat, x = (k : Int) ∧ k < n := by
  obtain ⟨i, hi, rfl⟩ := List.mem_map.mp h
  have := List.mem_range.mp hi
  exact ⟨i, by omega, this⟩
theorem false_alone_ok {B : Int} {e c : Nat} {ps ys : List Rat} {d : Int} (hp : PB B e ps) (ha : ps.Pairwise (· < ·)) (hl : ps.length ≤ 6) (he : e ≤ 10) (hy : Sqs c ys) (h0 : 0 < c) (hc : c ≤ 1000) (hn : ys.length = ps.length) (hd : 0 ≤ d) : false_alone (ps.map fr) (ys.map fr) d = .ok (FA ps ys (d + 1).toNat) := by
  unfold false_alone
  rw [List.length_map, rangeM_ok (by omega), bdo, Int.toNat_natCast, guard_ok (by rw [rangeL_len]; omega), bdo, filMm_eq (fun x => if alone ps ys (d + 1).toNat x.toNat then some x else none) _ fun x hx => ?_, bdo]
  · rfl
  · obtain ⟨k, rfl, hk⟩ := rng_nat hx
    rw [without_ok ps k hk (by omega), bdo, without_ok ys k (by omega) (by omega), bdo, fits_ok (hp.sub fun p hp => oth_mem hp) (oth_asc ha k) (by rw [oth_len hk]; omega) he (fun q hq => hy q (oth_mem hq)) h0 hc (by rw [oth_len (by omega), oth_len hk]; omega) hd, bdo, Int.toNat_natCast]
    show cond (alone ps ys (d + 1).toNat k) _ _ = _
    cases alone ps ys (d + 1).toNat k <;> rfl
theorem readings_fold {f : Unit → Int × (Int × Int) → Mm Unit} (hf : ∀ s y, f s y = cond (decide (y.2.2 = (0 : Int))) (Mm.bad) (Mm.ok ())) : ∀ (l : List (Int × Int)) (k : Int), (∀ x ∈ l, x.2 ≠ 0) → foldM f () (numL k l) = .ok ()
  | [], k, _ => rfl
  | x :: l, k, hn => by
    unfold numL foldM
    rw [hf, cF (decide_eq_false (hn x (List.mem_cons_self ..))), bdo]
    exact readings_fold hf l (k + 1) fun y hy => hn y (List.mem_cons_of_mem _ hy)
theorem checked_readings_x {ys : List Rat} {yl : List (Int × Int)} {c : Nat} {n : Int} (hc : c < 9000) (h : All2 (fun p x => Rx c x p) ys yl) (hn : n = ys.length) (hl : ys.length ≤ 50000) : checked_readings yl n = .ok (ys.map fr) := by
  have l := h.len
  have nz := h.right (q := fun x => x.2 ≠ 0) fun _ _ r => r.nz
  unfold checked_readings
  rw [enumL_eq, readings_fold (fun _ _ => rfl) yl 0 nz, bdo, cF (c := !decide ((yl.length : Int) = n)) (by rw [decide_eq_true (by omega)]; rfl), guard_ok (by omega), bdo, h.map_eq (g := fr) fun x y _ r => by rw [lowest_x r hc, bdo], bdo]
structure FR (B : Int) (e c : Nat) (pl yl : List (Int × Int)) (ps ys : List Rat) : Prop where
  rp : All2 (fun p x => Rx 30 x p) ps pl
  ry : All2 (fun p x => Rx c x p) ys yl
  pb : PB B e ps
  asc : ps.Pairwise (· < ·)
  len : ps.length ≤ 6
  pos : 0 < ps.length
  eq : ys.length = ps.length
  e10 : e ≤ 10
  c0 : 0 < c
  c1 : c ≤ 180
theorem FR.sy {B : Int} {e c : Nat} {pl yl : List (Int × Int)} {ps ys : List Rat} (h : FR B e c pl yl ps ys) : Sqs c ys := h.ry.left fun _ _ r => r.sq
theorem false_ones_ok {B : Int} {e c : Nat} {pl yl : List (Int × Int)} {ps ys : List Rat} {d : Int} (h : FR B e c pl yl ps ys) (hd : 0 ≤ d) (hd4 : d ≤ 4) : false_ones pl yl d = .ok (FA ps ys (d + 1).toNat) := by
  have hl := h.len
  have e := h.eq
  unfold false_ones
  rw [checked_places_x (by decide) h.rp h.asc hl h.pos, bdo, List.length_map, checked_readings_x (by have := h.c1; omega) h.ry (by omega) (by omega), bdo, check_within_ok hd hd4, bdo, false_alone_ok h.pb h.asc hl h.e10 h.sy h.c0 (by have := h.c1; omega) e hd, bdo]
/-- the readings with that of an index as the others ask -/
def mend (ps ys : List Rat) (i : Nat) : List Rat := ys.take i ++ (ev (IP (oth ps i) (oth ys i)) (ps.getD i 0) :: ys.drop (i + 1))
def Rep (ps ys : List Rat) (m : Nat) : Option (List Rat) := if (trim (IP ps ys)).length ≤ m then some ys else match FA ps ys m with
  | [i] => some (mend ps ys i.toNat)
  | _ => none
theorem repaired_ok {B : Int} {e c : Nat} {pl yl : List (Int × Int)} {ps ys : List Rat} {d : Int} (h : FR B e c pl yl ps ys) (hd : 0 ≤ d) (hd4 : d ≤ 4) : repaired pl yl d = .ok ((Rep ps ys (d + 1).toNat).map (List.map fr)) := by
  have hl := h.len
  have e1 := h.eq
  have c1 := h.c1
  have e10 := h.e10
  unfold repaired
  rw [checked_places_x (by decide) h.rp h.asc hl h.pos, bdo, List.length_map, checked_readings_x (by omega) h.ry (by omega) (by omega), bdo, check_within_ok hd hd4, bdo, fits_ok h.pb h.asc hl e10 h.sy h.c0 (by omega) e1 hd, bdo]
  unfold Rep
  by_cases q : (trim (IP ps ys)).length ≤ (d + 1).toNat
  · rw [cT (decide_eq_true q), if_pos q]
    rfl
  · rw [cF (decide_eq_false q), if_neg q, false_alone_ok h.pb h.asc hl e10 h.sy h.c0 (by omega) e1 hd, bdo]
    have mem : ∀ x ∈ FA ps ys (d + 1).toNat, ∃ k : Nat, x = (k : Int) ∧ k < ps.length := fun x hx => by
      obtain ⟨y, hy, hz⟩ := List.mem_filterMap.mp hx
      split at hz
      · cases hz
        exact rng_nat hy
      · cases hz
    cases hF : FA ps ys (d + 1).toNat with
    | nil => rfl
    | cons x t =>
      cases t with
      | cons y t =>
        rw [cT (c := !decide (((x :: y :: t).length : Int) = 1)) (by rw [decide_eq_false (by simp only [List.length_cons]; omega)]; rfl)]
        rfl
      | nil =>
        obtain ⟨k, rfl, hk⟩ := mem x (by rw [hF]; simp)
        have so := h.sy
        have asc := oth_asc h.asc k
        have pbo : PB B e (oth ps k) := h.pb.sub fun p hp => oth_mem hp
        have syo : Sqs c (oth ys k) := fun q hq => so q (oth_mem hq)
        have ol := oth_len hk
        have ol2 := oth_len (ps := ys) (i := k) (by omega)
        have sI := IP_sq pbo asc (by omega) e10 syo h.c0
        have tlen := tl_le (IP (oth ps k) (oth ys k)) (IP (oth ps k) (oth ys k)).length
        rw [IP_len] at tlen
        have tl2 := trim_len (IP (oth ps k) (oth ys k))
        rw [IP_len] at tl2
        have mm : (e + (1 + (c + 113) * 6) + 1) * (trim (IP (oth ps k) (oth ys k))).length ≤ (e + (1 + (c + 113) * 6) + 1) * 5 := Nat.mul_le_mul_left _ (by omega)
        rw [cF (c := !decide ((([(k : Int)] : List Int).length : Int) = 1)) rfl, show getM [(k : Int)] (0 : Int) = .ok (k : Int) from rfl, bdo, without_ok ps k hk (by omega), bdo, without_ok ys k (by omega) (by omega), bdo, polynomial_through_ok pbo asc (by omega) e10 syo h.c0 (by omega) (by omega), bdo, getM_map (List.getElem?_eq_getElem hk), bdo]
        have st : Sqs (1 + (c + 113) * 6) (trim (IP (oth ps k) (oth ys k))) := fun q hq => sI q (trim_mem hq)
        rw [worth_ok (h.pb.sq _ (List.getElem_mem hk)) _ st (by omega), bdo, trim_ev, cut_lo _ _ (by rw [List.length_map]; omega), show ((k : Int) + 1) = ((k + 1 : Nat) : Int) by omega, cut_hi _ _ (by rw [List.length_map]; omega), guard_ok (by simp only [List.length_append, List.length_take, List.length_drop, List.length_map, List.length_cons, List.length_nil]; omega), bdo]
        show Mm.ok (some _) = Mm.ok (some ((mend ps ys ((k : Int)).toNat).map fr))
        rw [Int.toNat_natCast]
        unfold mend
        rw [getD_at hk, List.append_nil, List.map_append, List.map_cons, List.map_take, List.map_drop]
/-! ### the law's polynomial through readings -/
theorem appL {α γ : Type} {p : α → γ → Prop} {l l' : List α} {r r' : List γ} (h : All2 p l r) (h' : All2 p l' r') : All2 p (l ++ l') (r ++ r') := by
  induction h with
  | nil => exact h'
  | cons a _ ih => exact .cons a ih
theorem takeL {α γ : Type} {p : α → γ → Prop} {l : List α} {r : List γ} (h : All2 p l r) : ∀ n, All2 p (l.take n) (r.take n) := by
  induction h with
  | nil => intro n; rw [List.take_nil, List.take_nil]; exact .nil
  | cons a _ ih =>
    intro n
    cases n with
    | zero => exact .nil
    | succ n => exact .cons a (ih n)
theorem dropL {α γ : Type} {p : α → γ → Prop} {l : List α} {r : List γ} (h : All2 p l r) : ∀ n, All2 p (l.drop n) (r.drop n) := by
  induction h with
  | nil => intro n; rw [List.drop_nil, List.drop_nil]; exact .nil
  | cons a b ih =>
    intro n
    cases n with
    | zero => exact .cons a b
    | succ n => exact ih n
theorem cut_take {α : Type} (l : List α) (n : Nat) : cutL l none (some (n : Int)) = l.take n := by
  by_cases h : n ≤ l.length
  · exact cut_lo l n h
  · unfold cutL
    rw [HT.sIx_none, HT.sIx_nat, Nat.min_eq_right (by omega), List.take_of_length_le (l := l) (i := n) (by omega)]
    exact List.take_of_length_le (Nat.le_refl _)
theorem cut_drop {α : Type} (l : List α) (n : Nat) : cutL l (some (n : Int)) none = l.drop n := by
  by_cases h : n ≤ l.length
  · exact cut_hi l n h
  · unfold cutL
    rw [HT.sIx_none, HT.sIx_nat, Nat.min_eq_right (by omega), List.drop_eq_nil_of_le (as := l) (i := n) (by omega), List.drop_eq_nil_of_le (as := l) (i := l.length) (Nat.le_refl _), List.take_nil]
theorem hornerX {f : Int × Int → Int × Int → Mm (Int × Int)} {p : Rat} {b c : Nat} (hp : Sq b p) (N : Nat) (hf : ∀ y x, Rx c y x → ∀ q a, Sq a q → a + b + c + 1 ≤ N → f (fr q) y = .ok (fr (q * p + x))) : ∀ {l : List Rat} {r : List (Int × Int)}, All2 (fun q y => Rx c y q) l r → (b + c + 1) * l.length + 1 ≤ N → foldM f ((0, 1) : Int × Int) r.reverse = .ok (fr (ev l p)) := by
  intro l r h
  induction h with
  | nil =>
    intro _
    show Mm.ok _ = _
    rw [← fr_zero]
    rfl
  | cons a h ih =>
    rename_i x y l r
    intro hN
    have e : (b + c + 1) * (x :: l).length = (b + c + 1) * l.length + (b + c + 1) := by rw [List.length_cons, Nat.mul_succ]
    have hl : Sqs c l := h.left fun _ _ r => r.sq
    rw [List.reverse_cons, foldM_app, ih (by omega)]
    show (f _ y).bd _ = _
    rw [hf y x a _ _ (ev_sq hp l hl) (by omega)]
    show Mm.ok _ = _
    congr 2
    show _ = x + p * ev l p
    grind
theorem law_worth_rx {p : Rat} {x : Int × Int} {b c : Nat} {l : List Rat} {r : List (Int × Int)} (hp : Rx b x p) (h : All2 (fun q y => Rx c y q) l r) (hN : (b + c + 1) * l.length + 1 ≤ 8990) (hl : l.length < 1000) : law_worth r x = .ok (fr (ev l p)) := by
  have ln := h.len
  unfold law_worth
  have e1 : (((r.length : Nat) : Int) - 1 - (0 - 1)).toNat = r.length := by omega
  have e2 : rangeM3 ((r.length : Int) - (1 : Int)) ((0 : Int) - (1 : Int)) = .ok (rangeDn ((r.length : Int) - 1) r.length) := by
    unfold rangeM3
    rw [if_pos (by omega), e1]
  rw [e2, bdo, e1, rangeDn_rev, fold_ixR (h := fun (s : Int × Int) (v : Int × Int) => (law_times s x).bd fun b33 => (law_add b33 v).bd fun b45 => Mm.ok b45) r (fun s i v hv => by rw [getM_nat hv]; rfl), hornerX hp.sq 8990 (fun y q hy s a ha hN => ?_) h hN, bdo]
  rw [law_times_x (rx_fr ha) hp (by omega), bdo, law_add_x (rx_fr (sq_mul ha hp.sq (Nat.le_refl _))) hy (by omega), bdo]
theorem all_loop {α : Type} {f : Unit → α → Mm (Fl Bool Unit)} (P : α → Bool) : ∀ l : List α, (∀ x ∈ l, f () x = cond (!(P x)) (.ok (.ret false)) (.ok (.go ()))) → (foldL f () l).bd (fun o => o.el (fun _ => Mm.ok true) (fun r => Mm.ok r)) = .ok (l.all P)
  | [], _ => rfl
  | x :: l, h => by
    unfold foldL
    rw [h x (List.mem_cons_self ..), List.all_cons]
    cases hx : P x with
    | false => rfl
    | true =>
      rw [cF (c := !true) rfl, bdo]
      exact all_loop P l fun y hy => h y (List.mem_cons_of_mem _ hy)
/-! ### readings, set and found -/
theorem setL {α γ : Type} {p : α → γ → Prop} {l : List α} {r : List γ} {x : α} {y : γ} (h : All2 p l r) (hxy : p x y) : ∀ i : Nat, All2 p (l.set i x) (r.set i y) := by
  induction h with
  | nil => intro i; exact .nil
  | cons a b ih =>
    intro i
    cases i with
    | zero => exact .cons hxy b
    | succ i => exact .cons a (ih i)
theorem setM_ok {α : Type} {l : List α} {i : Int} (v : α) (h0 : 0 ≤ i) (h : i < l.length) : setM l i v = .ok (l.set i.toNat v) := by
  unfold setM ixN
  rw [if_pos h0, if_pos h]
theorem rx_list {c : Nat} {n : Int} {l : List (Int × Int)} {ps : List Rat} (h : All2 (fun p x => Rx c x p) ps l) : ∀ i : Nat, i < ps.length → All2 (fun p x => Rx c x p) (oth ps i) (l.take i ++ l.drop (i + 1)) := fun i _ => appL (takeL h i) (dropL h (i + 1))
theorem mend_set (ps ys : List Rat) {i : Nat} (h : i < ys.length) (v : Rat) : ys.take i ++ v :: ys.drop (i + 1) = ys.set i v := by
  rw [List.set_eq_take_append_cons_drop, if_pos h]
theorem FA_mem {ps ys : List Rat} {m : Nat} {x : Int} (h : x ∈ FA ps ys m) : ∃ k : Nat, x = (k : Int) ∧ k < ps.length ∧ alone ps ys m k = true := by
  obtain ⟨y, hy, hz⟩ := List.mem_filterMap.mp h
  obtain ⟨k, rfl, hk⟩ := rng_nat hy
  rw [Int.toNat_natCast] at hz
  split at hz
  · rename_i q
    cases hz
    exact ⟨k, rfl, hk, q⟩
  · cases hz
theorem mend_ev {ps ys : List Rat} {m i : Nat} (ha : ps.Pairwise (· < ·)) (hi : i < ps.length) (hn : m + 1 ≤ ps.length) (h : alone ps ys m i = true) (x : Rat) : ev (IP ((oth ps i).take m) ((oth ys i).take m)) x = ev (IP (oth ps i) (oth ys i)) x := by
  have ao := oth_asc ha i
  have ol := oth_len hi
  have f := of_decide_eq_true h
  have il := IP_len ((oth ps i).take m) ((oth ys i).take m)
  rw [List.length_take] at il
  rw [← trim_ev (IP (oth ps i) (oth ys i))]
  refine same_ev (ps := (oth ps i).take m) (m := m) (asc_ne (take_asc ao m)) (by rw [List.length_take]; omega) (by omega) f (fun p hp => ?_) x
  obtain ⟨j, hj, rfl⟩ := List.getElem_of_mem hp
  have hj' := hj
  rw [List.length_take] at hj'
  rw [trim_ev, ev_IP (take_asc ao m) hj, List.getElem_take, ev_IP ao (by omega), getD_take (by omega)]
theorem fold_append {R : Type} {f : (List Int × R) → Int → Mm (List Int × R)} {P : Nat → Bool} {r : R} {n : Nat} (hf : ∀ (acc : List Int) (k : Nat), k < n → acc.length ≤ k → f (acc, r) (k : Int) = .ok (acc ++ (if P k then [(k : Int)] else []), r)) : ∀ (m k : Nat) (acc : List Int), k + m = n → acc.length ≤ k → foldM f (acc, r) (rangeL (k : Int) m) = .ok (acc ++ (rangeL (k : Int) m).filterMap (fun x => if P x.toNat then some x else none), r)
  | 0, k, acc, _, _ => by
    show Mm.ok _ = Mm.ok (acc ++ [], r)
    rw [List.append_nil]
  | m + 1, k, acc, h, ha => by
    have e4 : (k : Int) + 1 = ((k + 1 : Nat) : Int) := by omega
    rw [rangeL_succ]
    unfold foldM
    rw [hf acc k (by omega) ha, bdo, e4, fold_append hf m (k + 1) _ (by omega) (by
      rw [List.length_append]
      have : (if P k then [(k : Int)] else []).length ≤ 1 := by split <;> simp
      omega), List.filterMap_cons, Int.toNat_natCast, List.append_assoc]
    cases P k <;> rfl
/-! ### readings that are mended, as the law's other family tells them -/
theorem polynomial_by_x {B : Int} {e c : Nat} {pl yl : List (Int × Int)} {ps ys : List Rat} (hr : All2 (fun p x => Rx 30 x p) ps pl) (hy : All2 (fun p x => Rx c x p) ys yl) (pb : PB B e ps) (ha : ps.Pairwise (· < ·)) (hl : ps.length ≤ 6) (h1 : 0 < ps.length) (hn : ys.length = ps.length) (he : e ≤ 10) (h0 : 0 < c) (hc : c ≤ 1000) : polynomial_by pl yl = .ok ((trim (IP ps ys)).map fr) := by
  have sy : Sqs c ys := hy.left fun _ _ r => r.sq
  unfold polynomial_by
  rw [checked_places_x (by decide) hr ha hl h1, bdo, List.length_map, checked_readings_x (by omega) hy (by omega) (by omega), bdo, polynomial_through_ok pb ha hl he sy h0 hc hn, bdo]
theorem repaired_fits {B : Int} {e c : Nat} {pl yl : List (Int × Int)} {ps ys : List Rat} {d : Int} (hr : All2 (fun p x => Rx 30 x p) ps pl) (hy : All2 (fun p x => Rx c x p) ys yl) (pb : PB B e ps) (ha : ps.Pairwise (· < ·)) (hl : ps.length ≤ 6) (h1 : 0 < ps.length) (hn : ys.length = ps.length) (he : e ≤ 10) (h0 : 0 < c) (hc : c ≤ 1000) (hd : 0 ≤ d) (hd4 : d ≤ 4) (q : (trim (IP ps ys)).length ≤ (d + 1).toNat) : repaired pl yl d = .ok (some (ys.map fr)) := by
  have sy : Sqs c ys := hy.left fun _ _ r => r.sq
  unfold repaired
  rw [checked_places_x (by decide) hr ha hl h1, bdo, List.length_map, checked_readings_x (by omega) hy (by omega) (by omega), bdo, check_within_ok hd hd4, bdo, fits_ok pb ha hl he sy h0 hc hn hd, bdo, cT (decide_eq_true q)]
theorem ev_IPk_sq {B : Int} {e c : Nat} {ps ys : List Rat} {x : Rat} (hp : PB B e ps) (hx : Dv B e x) (ha : ps.Pairwise (· < ·)) (hl : ps.length ≤ 6) (he : e ≤ 10) (hy : Sqs c ys) (h0 : 0 < c) : ∀ k, k ≤ ps.length → Sq (1 + (c + 113) * k) (ev (IPk ps ys k) x)
  | 0, _ => by
    show Sq _ (ev (List.replicate ps.length 0) x)
    rw [ev_repl]
    exact zero_sqn (by omega)
  | k + 1, h => by
    have ih := ev_IPk_sq hp hx ha hl he hy h0 k (by omega)
    have lt : k < ps.length := by omega
    have ho : PB B e (oth ps k) := hp.sub fun p hp => oth_mem hp
    have ol := oth_len lt
    have m : (e + 1) * (oth ps k).length ≤ 11 * 5 := Nat.mul_le_mul (by omega) (by omega)
    have s1 := (prd_sq (ps := oth ps k) hp.b0 hp.be hx ho.each).up (n := 56) (by omega)
    have s2 := (prd_sq (ps := oth ps k) hp.b0 hp.be (hp.each ps[k] (List.getElem_mem lt)) ho.each).up (n := 56) (by omega)
    have s3 := sq_divB s1 s2 (prd_ne (oth_not ha lt)) (Nat.le_refl _)
    show Sq _ (ev (List.zipWith (· + ·) (IPk ps ys k) ((LB ps k).map (ys.getD k 0 * ·))) x)
    rw [ev_zipWith _ _ _ (by rw [IPk_len ps ys k (by omega), List.length_map, LB_len (by omega)]), ev_map_mul, ev_LB, getD_at lt]
    exact sq_add ih (sq_mul (getD_sq hy h0 k) s3 (Nat.le_refl _)) (by rw [Nat.mul_succ]; omega)
theorem oth_get {l : List Rat} {i j : Nat} (hi : i < l.length) (h : j ≠ i) : (oth l i).getD (if j < i then j else j - 1) 0 = l.getD j 0 := by
  unfold oth
  rw [List.getD_eq_getElem?_getD, List.getD_eq_getElem?_getD]
  by_cases q : j < i
  · rw [if_pos q, List.getElem?_append_left (by rw [List.length_take]; omega), List.getElem?_take_of_lt q]
  · rw [if_neg q, List.getElem?_append_right (by rw [List.length_take]; omega), List.length_take, List.getElem?_drop, Nat.min_eq_left (by omega)]
    congr 2
    omega
theorem set_getD {l : List Rat} {i j : Nat} {v : Rat} (hi : i < l.length) : (l.set i v).getD j 0 = if j = i then v else l.getD j 0 := by
  rw [List.getD_eq_getElem?_getD, List.getD_eq_getElem?_getD, List.getElem?_set]
  by_cases q : i = j
  · subst q
    rw [if_pos rfl, if_pos hi, if_pos rfl]
    rfl
  · rw [if_neg q, if_neg fun e => q e.symm]
theorem mend_fits {ps ys : List Rat} {m i : Nat} (ha : ps.Pairwise (· < ·)) (hi : i < ps.length) (hn : ys.length = ps.length) (h : alone ps ys m i = true) : (trim (IP ps (mend ps ys i))).length ≤ m := by
  refine (fit_iff ha).mpr ⟨trim (IP (oth ps i) (oth ys i)), of_decide_eq_true h, fun j hj => ?_⟩
  unfold mend
  rw [trim_ev, mend_set ps ys (by omega), set_getD (by omega)]
  by_cases q : j = i
  · rw [if_pos q, q]
  · have ol := oth_len hi
    have e1 := oth_get (l := ps) hi q
    have e2 := oth_get (l := ys) (by omega) q
    rw [if_neg q, ← e2, ← e1]
    exact ev_IPg (oth_asc ha i) (by split <;> omega)
theorem Rep_some {B : Int} {e c : Nat} {ps ys zs : List Rat} {m : Nat} (pb : PB B e ps) (ha : ps.Pairwise (· < ·)) (hl : ps.length ≤ 6) (he : e ≤ 10) (hn : ys.length = ps.length) (hy : Sqs c ys) (h0 : 0 < c) (hc : c ≤ 80) (h : Rep ps ys m = some zs) : (trim (IP ps zs)).length ≤ m ∧ zs.length = ps.length ∧ Sqs 1000 zs := by
  unfold Rep at h
  split at h
  · rename_i q
    cases h
    exact ⟨q, hn, hy.up (by omega)⟩
  · cases hF : FA ps ys m with
    | nil => rw [hF] at h; cases h
    | cons x t =>
      cases t with
      | cons y t => rw [hF] at h; cases h
      | nil =>
        rw [hF] at h
        cases h
        obtain ⟨k, rfl, hk, al⟩ := FA_mem (show x ∈ FA ps ys m by rw [hF]; simp)
        rw [Int.toNat_natCast]
        have ol := oth_len hk
        have mm : (c + 113) * (oth ps k).length ≤ (c + 113) * 5 := Nat.mul_le_mul_left _ (by omega)
        refine ⟨mend_fits ha hk hn al, ?_, ?_⟩
        · unfold mend
          rw [mend_set ps ys (by omega), List.length_set, hn]
        · unfold mend
          rw [mend_set ps ys (by omega)]
          intro q hq
          rcases List.mem_or_eq_of_mem_set hq with hq | rfl
          · exact (hy q hq).up (by omega)
          · rw [getD_at hk]
            exact (ev_IPk_sq (pb.sub fun p hp => oth_mem hp) (pb.each _ (List.getElem_mem hk)) (oth_asc ha k) (by omega) he (fun q hq => hy q (oth_mem hq)) h0 _ (Nat.le_refl _)).up (by omega)
/-! ### cuts -/
def hf (lo hi n : Int) : Rat := ((hi - lo : Int) : Rat) / ((2 * n : Int) : Rat)
def mid (lo hi n x : Int) : Rat := (lo : Rat) + ((2 * x + 1 : Int) : Rat) * hf lo hi n
def CSt (lo hi n : Int) (ps ws f : List Rat) (x : Int) : Rat := Rd (ps.map fun p => mid lo hi n x + hf lo hi n * p) (ws.map fun w => w * hf lo hi n) f
def CS (lo hi n : Int) (ps ws f : List Rat) : Rat := ((rangeL 0 n.toNat).map (CSt lo hi n ps ws f)).sum
theorem hf_pos {lo hi n : Int} (h : lo < hi) (n1 : 1 ≤ n) : 0 < hf lo hi n := by
  unfold hf
  rw [Rat.div_def]
  exact Rat.mul_pos (Rat.intCast_pos.mpr (by omega)) (Rat.inv_pos.mpr (Rat.intCast_pos.mpr (by omega)))
theorem rangeL_mem {n : Nat} {x : Int} (h : x ∈ rangeL 0 n) : 0 ≤ x ∧ x < n := by
  obtain ⟨i, hi, rfl⟩ := List.mem_map.mp h
  have := List.mem_range.mp hi
  omega
theorem hf_sq {lo hi n : Int} (h1 : -20 ≤ lo) (h2 : lo < hi) (h3 : hi ≤ 20) (n1 : 1 ≤ n) (n12 : n ≤ 12) : Sq 6 (hf lo hi n) := by
  have : (2 : Nat) ^ 6 = 64 := by decide
  exact sq_div (by omega) (by omega) (by omega)
theorem mid_sq {lo hi n x : Int} (h1 : -20 ≤ lo) (h2 : lo < hi) (h3 : hi ≤ 20) (n1 : 1 ≤ n) (n12 : n ≤ 12) (x0 : 0 ≤ x) (x1 : x < n) : Sq 17 (mid lo hi n x) := by
  have e5 : (2 : Nat) ^ 5 = 32 := by decide
  exact sq_add (sq_int (a := 5) (by omega) (by decide)) (sq_mul (sq_int (a := 5) (by omega) (by decide)) (hf_sq h1 h2 h3 n1 n12) (Nat.le_refl _)) (by decide)
theorem All2.mapL {α β γ : Type} {p : α → γ → Prop} {q : β → γ → Prop} {g : α → β} {l : List α} {r : List γ} (h : All2 p l r) (k : ∀ x y, p x y → q (g x) y) : All2 q (l.map g) r := by
  induction h with
  | nil => exact .nil
  | cons a _ ih => exact .cons (k _ _ a) ih
theorem self_rx {b : Nat} {ps : List Rat} (h : Sqs b ps) : All2 (fun p x => Rx b x p) ps (ps.map fr) := All2.self ps fun p hp => rx_fr (h p hp)
theorem cutW_ok {lo hi : Int} (h1 : -20 ≤ lo) (h2 : lo < hi) (h3 : hi ≤ 20) : WOk ([], [(lo, hi, 1)]) :=
  ⟨⟨by simp, by simp, by simp⟩, ⟨h1, h2, by show (1 : Int) ≤ 1; decide, by show (1 : Int) ≤ 20; decide, h3⟩, by simp, .inr (by simp)⟩
theorem fit_oth {ps ys : List Rat} {m i : Nat} (hi : i < ps.length) (hn : ys.length = ps.length) : Fit (oth ps i) (oth ys i) m ↔ ∃ r : List Rat, r.length ≤ m ∧ ∀ j, j < ps.length → j ≠ i → ev r (ps.getD j 0) = ys.getD j 0 := by
  have ol := oth_len hi
  constructor
  · rintro ⟨r, hr, h⟩
    refine ⟨r, hr, fun j hj hji => ?_⟩
    have := h (if j < i then j else j - 1) (by rw [ol]; split <;> omega)
    rw [oth_get hi hji, oth_get (by omega) hji] at this
    exact this
  · rintro ⟨r, hr, h⟩
    refine ⟨r, hr, fun j hj => ?_⟩
    rw [ol] at hj
    have ne : (if j < i then j else j + 1) ≠ i := by split <;> omega
    have lt : (if j < i then j else j + 1) < ps.length := by split <;> omega
    have back : (if (if j < i then j else j + 1) < i then (if j < i then j else j + 1) else (if j < i then j else j + 1) - 1) = j := by
      by_cases c : j < i
      · rw [if_pos c, if_pos c]
      · rw [if_neg c, if_neg (by omega)]
        omega
    have a := oth_get hi ne
    have b := oth_get (l := ys) (by omega) ne
    rw [back] at a b
    rw [a, b]
    exact h _ lt ne
theorem alone_iff {ps ys : List Rat} {m i : Nat} (ha : ps.Pairwise (· < ·)) (hi : i < ps.length) (hn : ys.length = ps.length) : alone ps ys m i = true ↔ ∃ r : List Rat, r.length ≤ m ∧ ∀ j, j < ps.length → j ≠ i → ev r (ps.getD j 0) = ys.getD j 0 := by
  unfold alone
  rw [decide_eq_true_iff, fit_iff (oth_asc ha i), fit_oth hi hn]
theorem mem_getD {ps : List Rat} {p : Rat} (h : p ∈ ps) : ∃ j, j < ps.length ∧ ps.getD j 0 = p := by
  obtain ⟨j, hj, e⟩ := List.mem_iff_getElem.mp h
  exact ⟨j, hj, by rw [getD_at hj, e]⟩
theorem one_out {ps r s : List Rat} {m k : Nat} (ha : ps.Pairwise (· < ·)) (hk : k < ps.length) (hm : m + 1 ≤ ps.length) (h1 : r.length ≤ m) (h2 : s.length ≤ m) (h : ∀ j, j < ps.length → j ≠ k → ev r (ps.getD j 0) = ev s (ps.getD j 0)) (x : Rat) : ev r x = ev s x := by
  refine same_ev (ps := oth ps k) (m := m) (asc_ne (oth_asc ha k)) (by rw [oth_len hk]; omega) h1 h2 (fun p hp => ?_) x
  obtain ⟨j, hj, e⟩ := mem_getD (oth_mem hp)
  have nk : p ≠ ps.getD k 0 := fun c => oth_not ha hk (by rw [← getD_at hk, ← c]; exact hp)
  rw [← e]
  exact h j hj fun c => nk (by rw [← e, c])
theorem two_out {ps r s : List Rat} {m i k : Nat} (ha : ps.Pairwise (· < ·)) (hi : i < ps.length) (hk : k < ps.length) (hik : i ≠ k) (hm : m + 2 ≤ ps.length) (h1 : r.length ≤ m) (h2 : s.length ≤ m) (h : ∀ j, j < ps.length → j ≠ i → j ≠ k → ev r (ps.getD j 0) = ev s (ps.getD j 0)) (x : Rat) : ev r x = ev s x := by
  have ol := oth_len hk
  have li : (if i < k then i else i - 1) < (oth ps k).length := by rw [ol]; split <;> omega
  refine same_ev (ps := oth (oth ps k) (if i < k then i else i - 1)) (m := m) (asc_ne (oth_asc (oth_asc ha k) _)) (by rw [oth_len li]; omega) h1 h2 (fun p hp => ?_) x
  have hp1 := oth_mem hp
  obtain ⟨j, hj, e⟩ := mem_getD (oth_mem hp1)
  have nk : p ≠ ps.getD k 0 := fun c => oth_not ha hk (by rw [← getD_at hk, ← c]; exact hp1)
  have ni : p ≠ ps.getD i 0 := fun c => oth_not (oth_asc ha k) li (by rw [← getD_at li, oth_get hk hik, ← c]; exact hp)
  rw [← e]
  exact h j hj (fun c => ni (by rw [← e, c])) (fun c => nk (by rw [← e, c]))
theorem fm_none {P : Nat → Bool} : ∀ (n lo : Nat), (∀ i, lo ≤ i → i < lo + n → P i = false) → (rangeL (lo : Int) n).filterMap (fun x => if P x.toNat then some x else none) = []
  | 0, _, _ => rfl
  | n + 1, lo, h => by
    have e : (lo : Int) + 1 = ((lo + 1 : Nat) : Int) := by omega
    rw [rangeL_succ, List.filterMap_cons, Int.toNat_natCast, h lo (Nat.le_refl _) (by omega), e, fm_none n (lo + 1) fun i h1 h2 => h i (by omega) (by omega)]
    rfl
theorem fm_one {P : Nat → Bool} {k : Nat} (hk : P k = true) : ∀ (n lo : Nat), lo ≤ k → k < lo + n → (∀ i, lo ≤ i → i < lo + n → i ≠ k → P i = false) → (rangeL (lo : Int) n).filterMap (fun x => if P x.toNat then some x else none) = [(k : Int)]
  | 0, lo, h1, h2, _ => by omega
  | n + 1, lo, h1, h2, h => by
    have e : (lo : Int) + 1 = ((lo + 1 : Nat) : Int) := by omega
    rw [rangeL_succ, List.filterMap_cons, Int.toNat_natCast, e]
    by_cases c : lo = k
    · subst c
      rw [hk, fm_none n (lo + 1) fun i h1 h2 => h i (by omega) (by omega) (by omega)]
      rfl
    · rw [h lo (Nat.le_refl _) (by omega) c, fm_one hk n (lo + 1) (by omega) (by omega) fun i h1 h2 => h i (by omega) (by omega)]
      rfl
theorem fm_all {P : Nat → Bool} : ∀ (n lo : Nat), (∀ i, lo ≤ i → i < lo + n → P i = true) → (rangeL (lo : Int) n).filterMap (fun x => if P x.toNat then some x else none) = rangeL (lo : Int) n
  | 0, _, _ => rfl
  | n + 1, lo, h => by
    have e : (lo : Int) + 1 = ((lo + 1 : Nat) : Int) := by omega
    rw [rangeL_succ, List.filterMap_cons, Int.toNat_natCast, h lo (Nat.le_refl _) (by omega), e, fm_all n (lo + 1) fun i h1 h2 => h i (by omega) (by omega)]
    rfl
theorem FA_one {ps ys : List Rat} {m k : Nat} (hk : k < ps.length) (h : alone ps ys m k = true) (h' : ∀ i, i < ps.length → i ≠ k → alone ps ys m i = false) : FA ps ys m = [(k : Int)] :=
  fm_one (P := alone ps ys m) h ps.length 0 (by omega) (by omega) fun i _ hi => h' i (by omega)
theorem FA_all {ps ys : List Rat} {m : Nat} (h : ∀ i, i < ps.length → alone ps ys m i = true) : FA ps ys m = rangeL 0 ps.length :=
  fm_all (P := alone ps ys m) ps.length 0 fun i _ hi => h i (by omega)
theorem FA_in {ps ys : List Rat} {m k : Nat} (hk : k < ps.length) (h : alone ps ys m k = true) : hasM (FA ps ys m) (k : Int) = true := by
  unfold hasM
  rw [List.contains_iff_mem]
  unfold FA
  rw [List.mem_filterMap]
  refine ⟨(k : Int), ?_, by rw [Int.toNat_natCast, if_pos h]⟩
  unfold rangeL
  rw [List.mem_map]
  exact ⟨k, List.mem_range.mpr hk, by rw [Int.zero_add]⟩
theorem alone_up {ps ys : List Rat} {m m' i : Nat} (h : alone ps ys m i = true) (l : m ≤ m') : alone ps ys m' i = true := by
  unfold alone at h ⊢
  rw [decide_eq_true_iff] at h ⊢
  omega
/-- readings of a polynomial with a false one among them -/
theorem spoilt {ps f : List Rat} {m k : Nat} {z : Rat} (ha : ps.Pairwise (· < ·)) (hk : k < ps.length) (hf : f.length ≤ m) (hz : z ≠ ev f (ps.getD k 0)) :
    alone ps ((ps.map fun p => ev f p).set k z) m k = true ∧ (m + 1 < ps.length → FA ps ((ps.map fun p => ev f p).set k z) m = [(k : Int)] ∧ Rep ps ((ps.map fun p => ev f p).set k z) m = some (ps.map fun p => ev f p)) ∧
    (ps.length = m + 1 → FA ps ((ps.map fun p => ev f p).set k z) m = rangeL 0 ps.length ∧ (0 < m → Rep ps ((ps.map fun p => ev f p).set k z) m = none)) ∧ (ps.length ≤ m → Rep ps ((ps.map fun p => ev f p).set k z) m = some ((ps.map fun p => ev f p).set k z)) := by
  have yn : (ps.map fun p => ev f p).length = ps.length := List.length_map ..
  have yg : ∀ j, j < ps.length → (ps.map fun p => ev f p).getD j 0 = ev f (ps.getD j 0) := fun j hj => by
    rw [List.getD_eq_getElem?_getD, List.getElem?_map, List.getElem?_eq_getElem hj, getD_at hj]
    rfl
  generalize hy : (ps.map fun p => ev f p) = ys at *
  have zn : (ys.set k z).length = ps.length := by rw [List.length_set]; exact yn
  have zg : ∀ j, j < ps.length → (ys.set k z).getD j 0 = if j = k then z else ev f (ps.getD j 0) := fun j hj => by
    rw [set_getD (by omega)]
    by_cases c : j = k
    · rw [if_pos c, if_pos c]
    · rw [if_neg c, if_neg c, yg j hj]
  have ak : alone ps (ys.set k z) m k = true := (alone_iff ha hk zn).mpr ⟨f, hf, fun j hj hjk => by rw [zg j hj, if_neg hjk]⟩
  have nofit : m + 1 ≤ ps.length → ¬ (trim (IP ps (ys.set k z))).length ≤ m := fun hm c => by
    rw [fit_iff ha] at c
    obtain ⟨r, hr, h⟩ := c
    have same := one_out (r := r) (s := f) ha hk hm hr hf fun j hj hjk => by rw [h j hj, zg j hj, if_neg hjk]
    have a := h k hk
    rw [zg k hk, if_pos rfl, same] at a
    exact hz a.symm
  refine ⟨ak, fun hm => ?_, fun hm => ?_, fun hm => ?_⟩
  · have F : FA ps (ys.set k z) m = [(k : Int)] := FA_one hk ak fun i hi hik => by
      rw [Bool.eq_false_iff]
      intro c
      obtain ⟨r, hr, h⟩ := (alone_iff ha hi zn).mp c
      have same := two_out (r := r) (s := f) ha hi hk hik hm hr hf fun j hj hji hjk => by rw [h j hj hji, zg j hj, if_neg hjk]
      have a := h k hk (fun e => hik e.symm)
      rw [zg k hk, if_pos rfl, same] at a
      exact hz a.symm
    refine ⟨F, ?_⟩
    unfold Rep
    rw [if_neg (nofit (by omega)), F]
    show some (mend ps (ys.set k z) ((k : Int)).toNat) = some ys
    rw [Int.toNat_natCast]
    unfold mend
    have e1 : ev (IP (oth ps k) (oth (ys.set k z) k)) (ps.getD k 0) = ev f (ps.getD k 0) := by
      have c1 := ak
      unfold alone at c1
      rw [decide_eq_true_iff] at c1
      rw [← trim_ev]
      refine one_out (r := trim (IP (oth ps k) (oth (ys.set k z) k))) (s := f) ha hk (by omega) c1 hf (fun j hj hjk => ?_) _
      rw [trim_ev]
      have li : (if j < k then j else j - 1) < (oth ps k).length := by rw [oth_len hk]; split <;> omega
      have a := ev_IPg (ys := oth (ys.set k z) k) (oth_asc ha k) li
      rw [oth_get hk hjk, oth_get (by omega) hjk, zg j hj, if_neg hjk] at a
      exact a
    rw [e1, mend_set ps _ (by omega), List.set_set, ← yg k hk, List.getD_eq_getElem?_getD, List.getElem?_eq_getElem (by omega)]
    show some (ys.set k ys[k]) = some ys
    rw [List.set_getElem_self]
  · have F : FA ps (ys.set k z) m = rangeL 0 ps.length := FA_all fun i hi => by
      unfold alone
      rw [decide_eq_true_iff]
      have := tl_le (IP (oth ps i) (oth (ys.set k z) i)) (IP (oth ps i) (oth (ys.set k z) i)).length
      rw [trim_len]
      rw [IP_len, oth_len hi] at this ⊢
      omega
    refine ⟨F, fun m0 => ?_⟩
    unfold Rep
    rw [if_neg (nofit (by omega)), F, hm]
    obtain ⟨m', rfl⟩ : ∃ m', m = m' + 1 := ⟨m - 1, by omega⟩
    rw [rangeL_succ, rangeL_succ]
  · unfold Rep
    rw [if_pos]
    have := tl_le (IP ps (ys.set k z)) (IP ps (ys.set k z)).length
    rw [trim_len]
    rw [IP_len] at this ⊢
    omega
theorem el_go {S R β : Type} {s : S} {f : S → Mm β} {g : R → Mm β} : (Fl.go (R := R) s).el f g = f s := rfl
theorem delta {u v : Int} (h0 : 0 ≤ u) (h1 : u < 9) (h2 : 0 ≤ v) (h3 : v < 3) : ∃ q : Rat, 0 < q ∧ Rx 4 ((1 : Int) + u, (1 : Int) + v) q := by
  refine ⟨((1 + u : Int) : Rat) / ((1 + v : Int) : Rat), ?_, ⟨by show (1 : Int) + v ≠ 0; omega, ?_, ?_, rfl⟩⟩
  · rw [Rat.div_def]
    exact Rat.mul_pos (Rat.intCast_pos.mpr (by omega)) (Rat.inv_pos.mpr (Rat.intCast_pos.mpr (by omega)))
  · have : (2 : Nat) ^ 4 = 16 := by decide
    show ((1 : Int) + u).natAbs < _
    omega
  · have : (2 : Nat) ^ 4 = 16 := by decide
    show ((1 : Int) + v).natAbs < _
    omega
theorem fits_of {ps f : List Rat} {m : Nat} (ha : ps.Pairwise (· < ·)) (hf : f.length ≤ m) : (trim (IP ps (ps.map fun p => ev f p))).length ≤ m := by
  rw [fit_iff ha]
  refine ⟨f, hf, fun j hj => ?_⟩
  rw [getD_at hj, List.getD_eq_getElem?_getD, List.getElem?_map, List.getElem?_eq_getElem hj]
  rfl
theorem law_true (scr : List Int) (hl : scr.length ≤ 63) : law scr = .ok true := by
  suffices h : Yes (law scr) fun b => b = true by
    obtain ⟨b, e, rfl⟩ := h
    exact e
  unfold law
  rw [range_ok (by decide) (by decide), bdo]
  refine (yes_foldL (fun (s : Rw) n => ∃ M, Rk M s ∧ M + 100 * n ≤ 400) _ _ ⟨0, ⟨by decide, by decide, by decide, by decide⟩, by rw [rangeL_len]; decide⟩ fun s x n hx hs => ?_).bd fun o ho => ?_
  · obtain ⟨M, rk, hM⟩ := hs
    refine (law_places_okB rk (by decide) (by decide) (by omega)).bd fun d hd => ?_
    obtain ⟨⟨ps, hp0⟩, rd⟩ := hd
    have hp := hp0.pls
    obtain ⟨B, pb⟩ := hp.pb
    have l6 : ps.length ≤ 6 := hp.len
    have rl := hp.rx.len
    have pos := hp.pos
    refine (takenB_ok rd (by decide) (by decide) (by omega)).bd fun t ht => ?_
    have t1 := ht.1
    obtain ⟨D, hD⟩ : ∃ D : Nat, t.1 = (D : Int) := ⟨t.1.toNat, by omega⟩
    refine (law_fractions_ok ht.2 (by omega) (by omega) (by omega)).bd fun e he => ?_
    obtain ⟨⟨f, hf, fn⟩, re⟩ := he
    have fl : f.length ≤ D + 1 := by omega
    have tN : (t.1 + 1).toNat = D + 1 := by omega
    refine .guard (by omega) ?_
    have R0 : mapMm (fun (x65 : (Int × Int)) => (law_worth (e.1) (x65)).bd fun b84 => Mm.ok b84) d.1 = .ok ((ps.map fun p => ev f p).map fr) := by
      rw [hp.rx.map_eq (g := fun p => fr (ev f p)) fun p x hp' r => by rw [law_worth_rx r hf (by omega) (by omega), bdo], List.map_map]
      rfl
    refine .eq R0 ?_
    have sy : Sqs 53 (ps.map fun p => ev f p) := fun q hq' => by
      obtain ⟨p, hp', rfl⟩ := List.mem_map.mp hq'
      exact (ev_sq ((hp.rx.left fun _ _ r => r.sq) p hp') f (hf.left fun _ _ r => r.sq)).up (by omega)
    have yn : (ps.map fun p => ev f p).length = ps.length := List.length_map ..
    have FT := fits_of (m := D + 1) hp.asc fl
    have yg : ∀ j, j < ps.length → (ps.map fun p => ev f p).getD j 0 = ev f (ps.getD j 0) := fun j hj => by
      rw [List.getD_eq_getElem?_getD, List.getElem?_map, List.getElem?_eq_getElem hj, getD_at hj]
      rfl
    have AL : ∀ i, i < ps.length → alone ps (ps.map fun p => ev f p) (D + 1) i = true := fun i hi => (alone_iff hp.asc hi yn).mpr ⟨f, fl, fun j hj _ => (yg j hj).symm⟩
    have SP := fun (k : Nat) (z : Rat) (hk : k < ps.length) (hz : z ≠ ev f (ps.getD k 0)) => spoilt hp.asc hk fl hz
    generalize (ps.map fun p => ev f p) = ys at *
    have rp30 : All2 (fun p x => Rx 30 x p) ps d.1 := hp.rx.mono fun p x r => r.up (by decide)
    have fr0 : FR B 6 53 d.1 (ys.map fr) ps ys := ⟨rp30, self_rx sy, pb, hp.asc, l6, pos, yn, by decide, by decide, by decide⟩
    have d0 : (0 : Int) ≤ t.1 := t1.1
    have R1 := repaired_ok fr0 d0 (by omega)
    rw [tN, show Rep ps ys (D + 1) = some ys from if_pos FT] at R1
    refine .eq R1 ?_
    have F1 := false_ones_ok fr0 d0 (by omega)
    rw [tN, FA_all AL] at F1
    have C1 : (cond (!(decide (Option.map (List.map fr) (some ys) = (some (ys.map fr))))) (Mm.ok true) ((false_ones (d.1) (ys.map fr) (t.1)).bd fun b112 => (guardM (0 ≤ (d.1.length : Int) ∧ (d.1.length : Int) ≤ 100000)).bd fun _ => Mm.ok (!(decide (b112 = (rangeL 0 ((d.1.length : Int)).toNat)))))) = Mm.ok false := by
      rw [cF (c := !decide (Option.map (List.map fr) (some ys) = some (ys.map fr))) (by rw [decide_eq_true (show Option.map (List.map fr) (some ys) = some (ys.map fr) from rfl)]; rfl), F1, bdo, guard_ok (by omega), bdo, Int.toNat_natCast, rl, decide_eq_true rfl]
      rfl
    rw [C1, bdo, cF (c := false) rfl, rl, rangeM_ok (by omega), bdo, Int.toNat_natCast]
    refine (yes_foldL (fun (s : Rw) n => ∃ K, Rk K s ∧ K + 2 * n ≤ M + 50) _ _ ⟨_, re, by rw [rangeL_len]; omega⟩ fun s x n' hx' hs' => ?_).bd fun o' ho' => ?_
    · obtain ⟨K, rK, hK⟩ := hs'
      obtain ⟨k, rfl, hk⟩ := rng_nat hx'
      have at_ : ys[k]? = some (ys.getD k 0) := by
        rw [List.getD_eq_getElem?_getD, List.getElem?_eq_getElem (by omega)]
        rfl
      refine .eq (getM_map at_) ?_
      refine (takenB_ok rK (by decide) (by decide) (by omega)).bd fun u hu => ?_
      refine (takenB_ok hu.2 (by decide) (by decide) (by omega)).bd fun v hv => ?_
      have u1 := hu.1
      have v1 := hv.1
      obtain ⟨q, q0, rq⟩ := delta u1.1 u1.2 v1.1 v1.2
      have s1 := sy _ (List.mem_of_getElem? at_)
      refine .eq (law_add_x (rx_fr s1) rq (by decide)) ?_
      refine .eq (setM_ok (fr (ys.getD k 0 + q)) (by omega) (by rw [List.length_map]; omega)) ?_
      rw [Int.toNat_natCast, ← List.map_set]
      have ez := yg k hk
      have nz : ys.getD k 0 + q ≠ ev f (ps.getD k 0) := by
        rw [← ez]
        intro h
        have : q = 0 := by grind
        rw [this] at q0
        exact absurd q0 (by decide +kernel)
      obtain ⟨Ak, S1, S2, S3⟩ := SP k _ hk nz
      have sz : Sqs 58 (ys.set k (ys.getD k 0 + q)) := fun r hr => by
        rcases List.mem_or_eq_of_mem_set hr with h | h
        · exact (sy r h).up (by decide)
        · rw [h]
          exact sq_add s1 rq.sq (by decide)
      have zn : (ys.set k (ys.getD k 0 + q)).length = ps.length := by rw [List.length_set]; exact yn
      generalize ys.set k (ys.getD k 0 + q) = zs at *
      have fr1 : FR B 6 58 d.1 (zs.map fr) ps zs := ⟨rp30, self_rx sz, pb, hp.asc, l6, pos, zn, by decide, by decide, by decide⟩
      have F2 := false_ones_ok fr1 d0 (by omega)
      have R2 := repaired_ok fr1 d0 (by omega)
      rw [tN] at F2 R2
      refine .eq F2 (.eq R2 ?_)
      have hM2 : minI (4 : Int) (t.1 + (1 : Int)) = t.1 + 1 := by
        unfold minI
        by_cases c : t.1 + 1 < 4
        · rw [if_pos c]
        · rw [if_neg c]
          omega
      have F3 := false_ones_ok (d := t.1 + 1) fr1 (by omega) (by omega)
      have t2 : (t.1 + 1 + 1).toNat = D + 2 := by omega
      rw [t2] at F3
      rw [FA_in hk Ak, cF (c := !true) rfl, hD]
      have D1 : (cond (decide ((ps.length : Int) > ((D : Int) + (2 : Int)))) (Mm.ok ((!(decide (FA ps zs (D + 1) = [(k : Int)]))) || (!(decide ((Rep ps zs (D + 1)).map (List.map fr) = (some (ys.map fr))))))) (Mm.ok false)) = Mm.ok false := by
        by_cases c : (ps.length : Int) > (D : Int) + 2
        · obtain ⟨a, b⟩ := S1 (by omega)
          rw [cT (decide_eq_true c), a, b, decide_eq_true rfl, decide_eq_true (show Option.map (List.map fr) (some ys) = some (ys.map fr) from rfl)]
          rfl
        · rw [cF (decide_eq_false c)]
      rw [D1, bdo, cF (c := false) rfl]
      have D2 : (cond (decide ((ps.length : Int) = ((D : Int) + (2 : Int)))) ((guardM (0 ≤ (ps.length : Int) ∧ (ps.length : Int) ≤ 100000)).bd fun _ => Mm.ok ((!(decide (FA ps zs (D + 1) = (rangeL 0 ps.length)))) || (!((Rep ps zs (D + 1)).map (List.map fr)).isNone))) (Mm.ok false)) = Mm.ok false := by
        by_cases c : (ps.length : Int) = (D : Int) + 2
        · obtain ⟨a, b⟩ := S2 (by omega)
          rw [cT (decide_eq_true c), guard_ok (by omega), bdo, a, b (by omega), decide_eq_true rfl]
          rfl
        · rw [cF (decide_eq_false c)]
      rw [D2, bdo, cF (c := false) rfl]
      have D3 : ((decide ((ps.length : Int) < ((D : Int) + (2 : Int)))) && (!(decide ((Rep ps zs (D + 1)).map (List.map fr) = (some (zs.map fr)))))) = false := by
        by_cases c : (ps.length : Int) < (D : Int) + 2
        · rw [S3 (by omega), decide_eq_true (show Option.map (List.map fr) (some zs) = some (zs.map fr) from rfl)]
          exact Bool.and_false _
        · rw [decide_eq_false c]
          rfl
      rw [D3, cF (c := false) rfl]
      have D4 : (cond (!((Rep ps zs (D + 1)).map (List.map fr)).isNone) ((getO ((Rep ps zs (D + 1)).map (List.map fr))).bd fun a263 => (polynomial_by (d.1) (a263)).bd fun b265 => Mm.ok (decide ((b265.length : Int) > ((D : Int) + (1 : Int))))) (Mm.ok false)) = Mm.ok false := by
        cases hR : Rep ps zs (D + 1) with
        | none => rfl
        | some ws =>
          obtain ⟨a, b, c⟩ := Rep_some pb hp.asc l6 (by decide) zn sz (by decide) (by decide) hR
          rw [cT (c := !(Option.map (List.map fr) (some ws)).isNone) rfl, show getO (Option.map (List.map fr) (some ws)) = .ok (ws.map fr) from rfl, bdo, polynomial_by_x rp30 (self_rx c) pb hp.asc l6 pos b (by decide) (by decide) (by decide), bdo, decide_eq_false (by rw [List.length_map]; omega)]
      rw [D4, bdo, cF (c := false) rfl, ← hD, hM2]
      refine .eq F3 ?_
      refine .guard (by
        have : (FA ps zs (D + 1)).length ≤ (rangeL 0 ps.length).length := List.length_filterMap_le ..
        rw [rangeL_len] at this
        omega) ?_
      have FM : filMm (fun (x289 : Int) => cond (!(hasM (FA ps zs (D + 2)) x289)) (Mm.ok (some x289)) (Mm.ok none)) (FA ps zs (D + 1)) = .ok [] := by
        rw [filMm_eq (g := fun _ => none) _ fun x hx => by
          obtain ⟨j, rfl, hj, al⟩ := FA_mem hx
          rw [FA_in hj (alone_up al (by omega))]
          rfl]
        congr 1
        induction FA ps zs (D + 1) with
        | nil => rfl
        | cons a l ih => exact ih
      refine .eq FM ?_
      rw [cF (c := !decide (([] : List Int) = [])) rfl]
      exact .ok ⟨_, rfl, K + 2, hv.2, by omega⟩
    · obtain ⟨s', rfl, K, rK, hK⟩ := ho'
      rw [el_go]
      refine (law_fractions_ok rK (by omega) (by omega) (by omega)).bd fun g hg => ?_
      obtain ⟨⟨qs, hq, hn⟩, rg⟩ := hg
      have sq5 : Sqs 5 qs := hq.left fun _ _ r => r.sq
      have gl := hq.len
      have fr2 : FR B 6 5 d.1 g.1 ps qs := ⟨rp30, hq, pb, hp.asc, l6, pos, by omega, by decide, by decide, by decide⟩
      have R3 := repaired_ok fr2 d0 (by omega)
      rw [tN] at R3
      refine .eq R3 ?_
      have E1 : (cond (!((Rep ps qs (D + 1)).map (List.map fr)).isNone) ((getO ((Rep ps qs (D + 1)).map (List.map fr))).bd fun a344 => (repaired (d.1) (a344) (t.1)).bd fun b346 => Mm.ok (!(decide (b346 = (some a344))))) (Mm.ok false)) = Mm.ok false := by
        cases hR : Rep ps qs (D + 1) with
        | none => rfl
        | some ws =>
          obtain ⟨a, b, c⟩ := Rep_some pb hp.asc l6 (by decide) (by omega) sq5 (by decide) (by decide) hR
          rw [cT (c := !(Option.map (List.map fr) (some ws)).isNone) rfl, show getO (Option.map (List.map fr) (some ws)) = .ok (ws.map fr) from rfl, bdo, repaired_fits rp30 (self_rx c) pb hp.asc l6 pos b (by decide) (by decide) (by decide) d0 (by omega) (by rw [tN]; exact a), bdo, decide_eq_true rfl]
          rfl
      rw [E1, bdo, cF (c := false) rfl]
      refine .eq (polynomial_by_x rp30 hq pb hp.asc l6 pos (by omega) (by decide) (by decide) (by decide)) ?_
      refine .guard (by omega) ?_
      refine .eq (hq.map_eq (g := fr) fun q y _ r => by rw [law_low_x r (by decide), bdo]) ?_
      have E2 : decide (((((trim (IP ps qs)).map fr).length : Nat) : Int) ≤ t.1 + (1 : Int)) = decide ((Rep ps qs (D + 1)).map (List.map fr) = some (qs.map fr)) := by
        refine decide_eq_decide.mpr ⟨fun h => ?_, fun h => ?_⟩
        · rw [List.length_map] at h
          unfold Rep
          rw [if_pos (by omega)]
          rfl
        · cases hR : Rep ps qs (D + 1) with
          | none => rw [hR] at h; cases h
          | some ws =>
            obtain ⟨a, b, c⟩ := Rep_some pb hp.asc l6 (by decide) (by omega) sq5 (by decide) (by decide) hR
            rw [hR] at h
            have e1 : ws.map fr = qs.map fr := Option.some.inj h
            have e2 : ws = qs := List.map_inj_right (fun _ _ h => fr_inj h) |>.mp e1
            rw [e2] at a
            rw [List.length_map]
            omega
      rw [E2, cF (c := !decide (decide ((Rep ps qs (D + 1)).map (List.map fr) = some (qs.map fr)) = decide ((Rep ps qs (D + 1)).map (List.map fr) = some (qs.map fr)))) (by rw [decide_eq_true rfl]; rfl)]
      exact .ok ⟨_, rfl, M + 100, rg.up (by omega), by omega⟩
  · obtain ⟨s', rfl, _⟩ := ho
    exact .ok rfl
end L

theorem PySem.Challenge.cw_fewreadings_k52_whole_false_readings_men_holds : PySem.Challenge.rw_fewreadings_k52_whole_false_readings_men.Holds := by
  exact L.of_law L.law_true
