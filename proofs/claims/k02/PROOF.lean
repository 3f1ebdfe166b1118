import PyProof.Rows.All
import Wide.All
import OpenK.AllK
import Wide.FinOn
import HandS.ForMost
import HandS.ForExc
import HandS.Wide
import HandS.IsInst
import HandS.EndBits
import HandS.SortKw
import HandS.Flow
import KE.SortKeyed
import KE.SortData
import PySem.Challenge.RW_kithbase_k02_order_of_changes
set_option Elab.async false
set_option linter.all false
set_option maxRecDepth 100000
set_option maxHeartbeats 4000000
namespace Kb
open PySem PySem.Spec PyProof.Rows L2
/-! defs of the text: where they stand, what they promise -/
/-- a def of the top: found by its name, with so many plain parameters -/
structure DefAt (K : PySem.W.Frag) (mg : Str → Option Value) (x : Str) (st : Stmt) (ps : List Str) : Prop where
  ex : ∃ f fd, Fun K x x st f fd ∧ mg x = some (.ref f) ∧ Binds K fd ps []
/-- a def of the top that keeps a promise -/
structure HasF (P : Program) (w : World) (K : PySem.W.Frag) (mg : Str → Option Value) (base : Heap) (CX : CXT) (k : Nat) (x : Str) (ps : List Str) (sp : Sp) : Prop where
  ex : ∃ f fd, FnOk P w K mg base CX k f fd ps sp ∧ mg x = some (.ref f) ∧ PySem.W.keepIn K (.ref f) = true ∧ Binds K fd ps []
section
variable {P : Program} {w : World} {K : PySem.W.Frag} {mg : Str → Option Value} {base : Heap} {x : Str} {st : Stmt} {N ps : List Str} {k : Nat} {sp : Sp}
theorem DefAt.ok (A : DefAt K mg x st ps) (S : FnScope N ps (defScope st)) (len : ∀ vs H Q E, sp vs H Q E → vs.length = ps.length)
    (hbody : ∀ (f : Addr) (cdv : Value) (A : Around) (outer : List Env) (s : Shared) (H : Hp) (vs : List V) (Q : VK) (E : XK), Room k (A.deeper (envOfC x (defScope st) s.heap.objs.size f cdv)) → sp vs H Q E →
      ∃ t, PSs (cxOf CX0 P w K mg base N x (defScope st) f cdv A outer s H E).nox (defBody st) t ∧ t { nx := fun _ H' => Q .non H', rt := Q } (start N vs) H) : HasF P w K mg base CX0 (k + 1) x ps sp := by
  obtain ⟨f, fd, F, hm, hb⟩ := A.ex
  exact ⟨f, fd, F.ok S len (fun cdv A outer s H vs Q E hr h => hbody f cdv A outer s H vs Q E hr h), hm, F.kp, hb⟩
end
section
variable {X : Cx} {CX : CXT} {k : Nat} {x : Str} {ps : List Str} {sp : Sp} {E : XK} {p pos : Pos} {e : Expr} {es : List Expr} {t : TA}
theorem HasF.call (h : HasF X.prog X.w X.K X.mg X.base CX k x ps sp) (hr : Room k X.A) (hg : Gl X x) (hx : Passes CX X E)
    (ha : PA X (e :: es) t) (hdb : (x == ("__debug__" : Str)) = false := by decide) (he : starEach (e :: es) X.env = (false, eval e X.env) :: starEach es X.env := by rfl) (hpl : (backTo pos (starEach es X.env)).any (·.1) = false := by rfl) :
    PE X (.Call (.Name x p) (e :: es) [] pos) (tCall sp [] E t) := by
  obtain ⟨f, fd, F, hm, hk, hb⟩ := h.ex
  exact pe_call F hr hg hm hk hb .nil hx ha hdb he hpl
end
/-! universal operators -/
def CMulX (i j : Int) : Prop := i.natAbs.log2 + j.natAbs.log2 < 100000000
theorem CMulX.ok {i j : Int} (h : CMulX i j) : IntMulOk i j := by
  have bit : ∀ x : Int, Builtin.Int.intBits x ≤ x.natAbs.log2 + 1 := fun x => by
    unfold Builtin.Int.intBits
    split <;> omega
  have g1 := bit i
  have g2 := bit j
  have g3 : i.natAbs.log2 + j.natAbs.log2 < 100000000 := h
  have big : bitsLine = 134217728 := by decide
  intro c
  obtain ⟨_, c2⟩ := Bool.and_eq_true_iff.mp c
  unfold Builtin.Int.intTooBig at c2
  have c3 := of_decide_eq_true c2
  rw [big] at c3
  omega
section
variable {X : Cx}
theorem op_mulX : OpR X (binaryOp .Mult) (rI CMulX fun i j => .int (i * j)) := opI fun _ _ _ _ _ _ _ hc q => mul_int q hc.ok
end
end Kb

/-! A logic over plain data: values D (tuples, lists, instances that no longer change stand inline; what a def still changes is owned, by number). -/
namespace Kb
open PySem PySem.Spec PyProof.Rows L2
/-- data that stay as they are -/
inductive P where
  | non | bl (b : Bool) | int (i : Int) | str (s : Str) | tup (xs : List P) | lst (xs : List P) | ins (C : Addr) (fs : List (Str × P)) | ty (n : String) | cls (C : Addr)
/-- a datum, or what is owned, by its number -/
inductive D where
  | p (x : P) | own (i : Nat)
abbrev dN : D := .p .non
abbrev dB (b : Bool) : D := .p (.bl b)
abbrev dI (i : Int) : D := .p (.int i)
abbrev dS (s : Str) : D := .p (.str s)
abbrev dT (xs : List P) : D := .p (.tup xs)
abbrev dL (xs : List P) : D := .p (.lst xs)
/-- what is owned -/
inductive OO where
  | lst (xs : List D) | ins (C : Addr) (fs : List (Str × D))
abbrev Hs := List (Option OO)
abbrev Env' := List (Option D)
section
variable (K : PySem.W.Frag)
mutual
inductive RP (F : Hp) : P → V → Prop
  | non : RP F .non .non
  | bl (b : Bool) : RP F (.bl b) (.bl b)
  | int (i : Int) : RP F (.int i) (.int i)
  | str (s : Str) : RP F (.str s) (.str s)
  | tup {a : Addr} {xs : List P} {vs : List V} : SqT K F a vs → RPs F xs vs → RP F (.tup xs) (.ref a)
  | lst {a : Addr} {xs : List P} {vs : List V} : SqL K F a vs → RPs F xs vs → RP F (.lst xs) (.ref a)
  | ins {a C dx : Addr} {fs : List (Str × P)} {gs : List (Str × V)} : F a = some (.ins C dx gs) → RPf F fs gs → RP F (.ins C fs) (.ref a)
  | ty (n : String) : RP F (.ty n) (.ty n)
  | cls (C : Addr) : RP F (.cls C) (.ref C)
inductive RPs (F : Hp) : List P → List V → Prop
  | nil : RPs F [] []
  | cons {d : P} {v : V} {ds : List P} {vs : List V} : RP F d v → RPs F ds vs → RPs F (d :: ds) (v :: vs)
inductive RPf (F : Hp) : List (Str × P) → List (Str × V) → Prop
  | nil : RPf F [] []
  | cons {f : Str} {d : P} {v : V} {ds : List (Str × P)} {vs : List (Str × V)} : RP F d v → RPf F ds vs → RPf F ((f, d) :: ds) ((f, v) :: vs)
end
inductive RD (F : Hp) (ρ : List Addr) : D → V → Prop
  | p {x : P} {v : V} : RP K F x v → RD F ρ (.p x) v
  | own {a : Addr} {i : Nat} : ρ[i]? = some a → RD F ρ (.own i) (.ref a)
inductive RA (F : Hp) (ρ : List Addr) : List D → List V → Prop
  | nil : RA F ρ [] []
  | cons {d : D} {v : V} {ds : List D} {vs : List V} : RD K F ρ d v → RA F ρ ds vs → RA F ρ (d :: ds) (v :: vs)
inductive RF (F : Hp) (ρ : List Addr) : List (Str × D) → List (Str × V) → Prop
  | nil : RF F ρ [] []
  | cons {f : Str} {d : D} {v : V} {ds : List (Str × D)} {vs : List (Str × V)} : RD K F ρ d v → RF F ρ ds vs → RF F ρ ((f, d) :: ds) ((f, v) :: vs)
end
section
variable {K : PySem.W.Frag}
theorem sqT_mono {F F' : Hp} (e : Same F F') {a : Addr} {vs : List V} (h : SqT K F a vs) : SqT K F' a vs := by
  rcases h with (h | ⟨o, h⟩) | h
  · exact .inl (.inl (e _ _ h))
  · exact .inl (.inr ⟨o, e _ _ h⟩)
  · exact .inr h
/-- numbers keep their addresses -/
def Pre (ρ ρ' : List Addr) : Prop := ∀ (i : Nat) (a : Addr), ρ[i]? = some a → ρ'[i]? = some a
theorem Pre.refl (ρ : List Addr) : Pre ρ ρ := fun _ _ h => h
theorem Pre.trans {a b c : List Addr} (x : Pre a b) (y : Pre b c) : Pre a c := fun i p h => y i p (x i p h)
theorem Pre.push (ρ : List Addr) (p : Addr) : Pre ρ (ρ ++ [p]) := fun i a h => by
  have hl : i < ρ.length := (List.getElem?_eq_some_iff.mp h).1
  rw [List.getElem?_append_left hl]
  exact h
mutual
theorem RP.mono {F F' : Hp} (e : Same F F') : ∀ {d : P} {v : V}, RP K F d v → RP K F' d v
  | _, _, .non => .non
  | _, _, .bl b => .bl b
  | _, _, .int i => .int i
  | _, _, .str s => .str s
  | _, _, .tup h r => .tup (sqT_mono e h) (RPs.mono e r)
  | _, _, .lst h r => .lst (e.seq h) (RPs.mono e r)
  | _, _, .ins h r => .ins (e _ _ h) (RPf.mono e r)
  | _, _, .ty n => .ty n
  | _, _, .cls C => .cls C
theorem RPs.mono {F F' : Hp} (e : Same F F') : ∀ {d : List P} {v : List V}, RPs K F d v → RPs K F' d v
  | _, _, .nil => .nil
  | _, _, .cons h r => .cons (RP.mono e h) (RPs.mono e r)
theorem RPf.mono {F F' : Hp} (e : Same F F') : ∀ {d : List (Str × P)} {v : List (Str × V)}, RPf K F d v → RPf K F' d v
  | _, _, .nil => .nil
  | _, _, .cons h r => .cons (RP.mono e h) (RPf.mono e r)
end
theorem RD.mono {F F' : Hp} {ρ ρ' : List Addr} (e : Same F F') (p : Pre ρ ρ') {d : D} {v : V} (h : RD K F ρ d v) : RD K F' ρ' d v := by
  cases h with
  | p h => exact .p (h.mono e)
  | own h => exact .own (p _ _ h)
theorem RA.mono {F F' : Hp} {ρ ρ' : List Addr} (e : Same F F') (p : Pre ρ ρ') {d : List D} {v : List V} (h : RA K F ρ d v) : RA K F' ρ' d v := by
  induction h with
  | nil => exact .nil
  | cons h _ ih => exact .cons (h.mono e p) ih
theorem RF.mono {F F' : Hp} {ρ ρ' : List Addr} (e : Same F F') (p : Pre ρ ρ') {d : List (Str × D)} {v : List (Str × V)} (h : RF K F ρ d v) : RF K F' ρ' d v := by
  induction h with
  | nil => exact .nil
  | cons h _ ih => exact .cons (h.mono e p) ih
theorem RA.len {F : Hp} {ρ : List Addr} {ds : List D} {vs : List V} (h : RA K F ρ ds vs) : ds.length = vs.length := by
  induction h with
  | nil => rfl
  | cons _ _ ih => exact congrArg (· + 1) ih
theorem RPs.len {F : Hp} : ∀ {ds : List P} {vs : List V}, RPs K F ds vs → ds.length = vs.length
  | _, _, .nil => rfl
  | _, _, .cons _ r => congrArg (· + 1) (RPs.len r)
theorem RA.get {F : Hp} {ρ : List Addr} : ∀ {ds : List D} {vs : List V} {i : Nat} {d : D}, RA K F ρ ds vs → ds[i]? = some d → ∃ v, vs[i]? = some v ∧ RD K F ρ d v
  | _, _, _, _, .nil, h => by simp at h
  | _, _, 0, _, .cons q r, h => by
    cases Option.some.inj h
    exact ⟨_, rfl, q⟩
  | _, _, i + 1, d, .cons q r, h => by
    obtain ⟨v, h1, h2⟩ := RA.get (i := i) (d := d) r (by simpa using h)
    exact ⟨v, by simpa using h1, h2⟩
theorem RPs.get {F : Hp} : ∀ {ds : List P} {vs : List V} {i : Nat} {d : P}, RPs K F ds vs → ds[i]? = some d → ∃ v, vs[i]? = some v ∧ RP K F d v
  | _, _, _, _, .nil, h => by simp at h
  | _, _, 0, _, .cons q r, h => by
    cases Option.some.inj h
    exact ⟨_, rfl, q⟩
  | _, _, i + 1, d, .cons q r, h => by
    obtain ⟨v, h1, h2⟩ := RPs.get (i := i) (d := d) r (by simpa using h)
    exact ⟨v, by simpa using h1, h2⟩
theorem RA.append {F : Hp} {ρ : List Addr} : ∀ {ds es : List D} {vs us : List V}, RA K F ρ ds vs → RA K F ρ es us → RA K F ρ (ds ++ es) (vs ++ us)
  | _, _, _, _, .nil, s => s
  | _, _, _, _, .cons q r, s => .cons q (RA.append r s)
theorem RPs.append {F : Hp} : ∀ {ds es : List P} {vs us : List V}, RPs K F ds vs → RPs K F es us → RPs K F (ds ++ es) (vs ++ us)
  | _, _, _, _, .nil, s => s
  | _, _, _, _, .cons q r, s => .cons q (RPs.append r s)
theorem RA.set {F : Hp} {ρ : List Addr} {d : D} {v : V} (q : RD K F ρ d v) : ∀ {ds : List D} {vs : List V} (i : Nat), RA K F ρ ds vs → RA K F ρ (ds.set i d) (vs.set i v)
  | _, _, _, .nil => .nil
  | _, _, 0, .cons _ r => .cons q r
  | _, _, i + 1, .cons p r => .cons p (RA.set q i r)
theorem RPs.take {F : Hp} : ∀ {ds : List P} {vs : List V} (i : Nat), RPs K F ds vs → RPs K F (ds.take i) (vs.take i)
  | _, _, 0, _ => .nil
  | _, _, _ + 1, .nil => .nil
  | _, _, i + 1, .cons p r => .cons p (RPs.take i r)
theorem RPs.drop {F : Hp} : ∀ {ds : List P} {vs : List V} (i : Nat), RPs K F ds vs → RPs K F (ds.drop i) (vs.drop i)
  | _, _, 0, r => r
  | _, _, _ + 1, .nil => .nil
  | _, _, i + 1, .cons p r => RPs.drop i r
theorem RA.take {F : Hp} {ρ : List Addr} : ∀ {ds : List D} {vs : List V} (i : Nat), RA K F ρ ds vs → RA K F ρ (ds.take i) (vs.take i)
  | _, _, 0, _ => .nil
  | _, _, _ + 1, .nil => .nil
  | _, _, i + 1, .cons p r => .cons p (RA.take i r)
theorem RA.drop {F : Hp} {ρ : List Addr} : ∀ {ds : List D} {vs : List V} (i : Nat), RA K F ρ ds vs → RA K F ρ (ds.drop i) (vs.drop i)
  | _, _, 0, r => r
  | _, _, _ + 1, .nil => .nil
  | _, _, i + 1, .cons p r => RA.drop i r
theorem RA.pure {F : Hp} {ρ : List Addr} : ∀ {ps : List P} {vs : List V}, RA K F ρ (ps.map D.p) vs → RPs K F ps vs
  | [], _, .nil => .nil
  | _ :: _, _, .cons (.p q) r => .cons q (RA.pure r)
theorem RPs.data {F : Hp} {ρ : List Addr} : ∀ {ps : List P} {vs : List V}, RPs K F ps vs → RA K F ρ (ps.map D.p) vs
  | [], _, .nil => .nil
  | _ :: _, _, .cons q r => .cons (.p q) (RPs.data r)
theorem RPs.ints {F : Hp} : ∀ {ns : List Int} {vs : List V}, RPs K F (ns.map P.int) vs → vs = ns.map V.int
  | [], _, .nil => rfl
  | n :: ns, _, .cons (.int _) r => by
    rw [RPs.ints r]
    rfl
theorem RPs.of_ints {F : Hp} : ∀ (ns : List Int), RPs K F (ns.map P.int) (ns.map V.int)
  | [] => .nil
  | n :: ns => .cons (.int n) (RPs.of_ints ns)
theorem RF.look {F : Hp} {ρ : List Addr} {f : Str} : ∀ {ds : List (Str × D)} {vs : List (Str × V)} {d : D}, RF K F ρ ds vs → ds.lookup f = some d → ∃ v, vs.lookup f = some v ∧ RD K F ρ d v
  | _, _, _, .nil, h => by simp at h
  | _, _, d', .cons (f := g) q r, h => by
    by_cases e : f = g
    · subst e
      simp only [List.lookup, beq_self_eq_true] at h ⊢
      cases h
      exact ⟨_, rfl, q⟩
    · have e' : (f == g) = false := by simpa using e
      simp only [List.lookup, e'] at h ⊢
      exact RF.look r h
theorem RF.lookN {F : Hp} {ρ : List Addr} {f : Str} : ∀ {ds : List (Str × D)} {vs : List (Str × V)}, RF K F ρ ds vs → ds.lookup f = none → vs.lookup f = none
  | _, _, .nil, h => rfl
  | _, _, .cons (f := g) q r, h => by
    by_cases e : f = g
    · subst e
      simp [List.lookup] at h
    · have e' : (f == g) = false := by simpa using e
      simp only [List.lookup, e'] at h ⊢
      exact RF.lookN r h
theorem RPf.data {F : Hp} {ρ : List Addr} : ∀ {fs : List (Str × P)} {vs : List (Str × V)}, RPf K F fs vs → RF K F ρ (fs.map fun q => (q.1, D.p q.2)) vs
  | _, _, .nil => .nil
  | _, _, .cons q r => .cons (.p q) (RPf.data r)
theorem RF.pure {F : Hp} {ρ : List Addr} : ∀ {fs : List (Str × P)} {vs : List (Str × V)}, RF K F ρ (fs.map fun q => (q.1, D.p q.2)) vs → RPf K F fs vs
  | [], _, .nil => .nil
  | (_, _) :: _, _, .cons (.p q) r => .cons q (RF.pure r)
theorem RF.len {F : Hp} {ρ : List Addr} {ds : List (Str × D)} {vs : List (Str × V)} (h : RF K F ρ ds vs) : ds.length = vs.length := by
  induction h with
  | nil => rfl
  | cons _ _ ih => exact congrArg (· + 1) ih
def putD (f : Str) (d : D) : List (Str × D) → List (Str × D)
  | [] => [(f, d)]
  | p :: r => if p.1 = f then (f, d) :: r else p :: putD f d r
theorem RF.put {F : Hp} {ρ : List Addr} {f : Str} {d : D} {v : V} (q : RD K F ρ d v) : ∀ {ds : List (Str × D)} {vs : List (Str × V)}, RF K F ρ ds vs → RF K F ρ (putD f d ds) (putF f v vs)
  | _, _, .nil => .cons q .nil
  | _, _, .cons (f := g) p r => by
    by_cases e : g = f
    · subst e
      simp only [putD, putF, if_true]
      exact .cons q r
    · simp only [putD, putF, if_neg e]
      exact .cons p (RF.put q r)
/-- an owned thing and what stands there -/
def RO (K : PySem.W.Frag) (F : Hp) (ρ : List Addr) : OO → HO → Prop
  | .lst xs, o => ∃ vs, o = .lst vs ∧ RA K F ρ xs vs
  | .ins C fs, o => ∃ dx gs, o = .ins C dx gs ∧ RF K F ρ fs gs
theorem RO.mono {F F' : Hp} {ρ ρ' : List Addr} (e : Same F F') (p : Pre ρ ρ') : ∀ {o : OO} {u : HO}, RO K F ρ o u → RO K F' ρ' o u
  | .lst _, _, ⟨vs, h, r⟩ => ⟨vs, h, r.mono e p⟩
  | .ins _ _, _, ⟨dx, gs, h, r⟩ => ⟨dx, gs, h, r.mono e p⟩
/-- the heap H: frozen things F, owned things h at ρ -/
structure Rel (K : PySem.W.Frag) (F : Hp) (ρ : List Addr) (h : Hs) (H : Hp) : Prop where
  same : Same F H
  len : ρ.length = h.length
  own : ∀ (i : Nat) (o : OO), h[i]? = some (some o) → ∃ a u, ρ[i]? = some a ∧ F a = none ∧ H a = some u ∧ RO K F ρ o u
  inj : ∀ (i j : Nat) (o u : OO) (a : Addr), h[i]? = some (some o) → h[j]? = some (some u) → ρ[i]? = some a → ρ[j]? = some a → i = j
structure REnv (K : PySem.W.Frag) (F : Hp) (ρ : List Addr) (env : Env') (σ : L2.St) : Prop where
  len : env.length = σ.length
  get : ∀ (i : Nat) (d : D), env[i]? = some (some d) → ∃ v, σ[i]? = some (some v) ∧ RD K F ρ d v
theorem REnv.mono {F F' : Hp} {ρ ρ' : List Addr} {env : Env'} {σ : L2.St} (e : Same F F') (p : Pre ρ ρ') (r : REnv K F ρ env σ) : REnv K F' ρ' env σ :=
  ⟨r.len, fun i d h => let ⟨v, h1, h2⟩ := r.get i d h; ⟨v, h1, h2.mono e p⟩⟩
theorem REnv.set {F : Hp} {ρ : List Addr} {env : Env'} {σ : L2.St} {i : Nat} {d : D} {v : V} (r : REnv K F ρ env σ) (q : RD K F ρ d v) : REnv K F ρ (env.set i (some d)) (σ.set i (some v)) := by
  refine ⟨by rw [List.length_set, List.length_set]; exact r.len, fun j e h => ?_⟩
  by_cases hj : i = j
  · subst hj
    have hl : i < env.length := by
      have := (List.getElem?_eq_some_iff.mp h).1
      rwa [List.length_set] at this
    rw [List.getElem?_set_self hl] at h
    cases h
    exact ⟨v, by rw [List.getElem?_set_self (by rw [← r.len]; exact hl)], q⟩
  · rw [List.getElem?_set_ne hj] at h ⊢
    exact r.get j e h
theorem REnv.wipe {F : Hp} {ρ : List Addr} {env : Env'} {σ : L2.St} {i : Nat} (r : REnv K F ρ env σ) : REnv K F ρ (env.set i none) (σ.set i none) := by
  refine ⟨by rw [List.length_set, List.length_set]; exact r.len, fun j e h => ?_⟩
  by_cases hj : i = j
  · subst hj
    have hl : i < env.length := by
      have := (List.getElem?_eq_some_iff.mp h).1
      rwa [List.length_set] at this
    rw [List.getElem?_set_self hl] at h
    cases h
  · rw [List.getElem?_set_ne hj] at h ⊢
    exact r.get j e h
/-! ### the judgements -/
def VE (K : PySem.W.Frag) (te : TE) (env : Env') (h : Hs) (R : D → Hs → Prop) : Prop :=
  ∀ (F : Hp) (ρ : List Addr) (σ : L2.St) (H : Hp) (Q : VK), Rel K F ρ h H → REnv K F ρ env σ →
    (∀ (d : D) (h' : Hs) (v : V) (F' : Hp) (ρ' : List Addr) (H' : Hp), Same F F' → Pre ρ ρ' → Rel K F' ρ' h' H' → RD K F' ρ' d v → R d h' → Q v H') → te σ H Q
def VA (K : PySem.W.Frag) (ta : TA) (env : Env') (h : Hs) (R : List D → Hs → Prop) : Prop :=
  ∀ (F : Hp) (ρ : List Addr) (σ : L2.St) (H : Hp) (Q : List V → Hp → Prop), Rel K F ρ h H → REnv K F ρ env σ →
    (∀ (d : List D) (h' : Hs) (v : List V) (F' : Hp) (ρ' : List Addr) (H' : Hp), Same F F' → Pre ρ ρ' → Rel K F' ρ' h' H' → RA K F' ρ' d v → R d h' → Q v H') → ta σ H Q
def VT (K : PySem.W.Frag) (tt : TT) (env : Env') (h : Hs) (R : Bool → Hs → Prop) : Prop :=
  ∀ (F : Hp) (ρ : List Addr) (σ : L2.St) (H : Hp) (Q : Bool → Hp → Prop), Rel K F ρ h H → REnv K F ρ env σ →
    (∀ (b : Bool) (h' : Hs) (F' : Hp) (ρ' : List Addr) (H' : Hp), Same F F' → Pre ρ ρ' → Rel K F' ρ' h' H' → R b h' → Q b H') → tt σ H Q
/-- an operation upon values -/
def V2 (K : PySem.W.Frag) (r : R2) (x y : D) (h : Hs) (R : D → Hs → Prop) : Prop :=
  ∀ (F : Hp) (ρ : List Addr) (H : Hp) (vx vy : V) (Q : VK), Rel K F ρ h H → RD K F ρ x vx → RD K F ρ y vy →
    (∀ (d : D) (h' : Hs) (v : V) (F' : Hp) (ρ' : List Addr) (H' : Hp), Same F F' → Pre ρ ρ' → Rel K F' ρ' h' H' → RD K F' ρ' d v → R d h' → Q v H') → r vx vy H Q
def V1 (K : PySem.W.Frag) (r : V → Hp → VK → Prop) (x : D) (h : Hs) (R : D → Hs → Prop) : Prop :=
  ∀ (F : Hp) (ρ : List Addr) (H : Hp) (vx : V) (Q : VK), Rel K F ρ h H → RD K F ρ x vx →
    (∀ (d : D) (h' : Hs) (v : V) (F' : Hp) (ρ' : List Addr) (H' : Hp), Same F F' → Pre ρ ρ' → Rel K F' ρ' h' H' → RD K F' ρ' d v → R d h' → Q v H') → r vx H Q
/-- a call upon values -/
def VC (K : PySem.W.Frag) (r : List V → Hp → VK → Prop) (xs : List D) (h : Hs) (R : D → Hs → Prop) : Prop :=
  ∀ (F : Hp) (ρ : List Addr) (H : Hp) (vs : List V) (Q : VK), Rel K F ρ h H → RA K F ρ xs vs →
    (∀ (d : D) (h' : Hs) (v : V) (F' : Hp) (ρ' : List Addr) (H' : Hp), Same F F' → Pre ρ ρ' → Rel K F' ρ' h' H' → RD K F' ρ' d v → R d h' → Q v H') → r vs H Q
/-- a method upon values -/
def VM (K : PySem.W.Frag) (r : V → List V → Hp → VK → Prop) (x : D) (xs : List D) (h : Hs) (R : D → Hs → Prop) : Prop :=
  ∀ (F : Hp) (ρ : List Addr) (H : Hp) (vx : V) (vs : List V) (Q : VK), Rel K F ρ h H → RD K F ρ x vx → RA K F ρ xs vs →
    (∀ (d : D) (h' : Hs) (v : V) (F' : Hp) (ρ' : List Addr) (H' : Hp), Same F F' → Pre ρ ρ' → Rel K F' ρ' h' H' → RD K F' ρ' d v → R d h' → Q v H') → r vx vs H Q
structure En where
  nx : Env' → Hs → Prop
  rt : D → Hs → Prop
  bk : Env' → Hs → Prop := fun _ _ => False
  ct : Env' → Hs → Prop := fun _ _ => False
/-- what the reading's ends owe to the data's -/
structure EnOk (K : PySem.W.Frag) (F : Hp) (ρ : List Addr) (E : En) (D' : Ends) : Prop where
  nx : ∀ (env : Env') (h : Hs) (F' : Hp) (ρ' : List Addr) (σ : L2.St) (H : Hp), Same F F' → Pre ρ ρ' → Rel K F' ρ' h H → REnv K F' ρ' env σ → E.nx env h → D'.nx σ H
  rt : ∀ (d : D) (h : Hs) (v : V) (F' : Hp) (ρ' : List Addr) (H : Hp), Same F F' → Pre ρ ρ' → Rel K F' ρ' h H → RD K F' ρ' d v → E.rt d h → D'.rt v H
  bk : ∀ (env : Env') (h : Hs) (F' : Hp) (ρ' : List Addr) (σ : L2.St) (H : Hp), Same F F' → Pre ρ ρ' → Rel K F' ρ' h H → REnv K F' ρ' env σ → E.bk env h → D'.bk σ H
  ct : ∀ (env : Env') (h : Hs) (F' : Hp) (ρ' : List Addr) (σ : L2.St) (H : Hp), Same F F' → Pre ρ ρ' → Rel K F' ρ' h H → REnv K F' ρ' env σ → E.ct env h → D'.ct σ H
theorem EnOk.mono {F F' : Hp} {ρ ρ' : List Addr} {E : En} {D' : Ends} (e : Same F F') (p : Pre ρ ρ') (k : EnOk K F ρ E D') : EnOk K F' ρ' E D' :=
  ⟨fun env h F2 ρ2 σ H a b => k.nx env h F2 ρ2 σ H (e.trans a) (p.trans b), fun d h v F2 ρ2 H a b => k.rt d h v F2 ρ2 H (e.trans a) (p.trans b),
   fun env h F2 ρ2 σ H a b => k.bk env h F2 ρ2 σ H (e.trans a) (p.trans b), fun env h F2 ρ2 σ H a b => k.ct env h F2 ρ2 σ H (e.trans a) (p.trans b)⟩
def VS (K : PySem.W.Frag) (t : TS) (E : En) (env : Env') (h : Hs) : Prop :=
  ∀ (F : Hp) (ρ : List Addr) (σ : L2.St) (H : Hp) (D' : Ends), Rel K F ρ h H → REnv K F ρ env σ → EnOk K F ρ E D' → t D' σ H
/-- a target -/
def VG (K : PySem.W.Frag) (g : TG) (d : D) (env : Env') (h : Hs) (N : Env' → Hs → Prop) : Prop :=
  ∀ (F : Hp) (ρ : List Addr) (σ : L2.St) (H : Hp) (v : V) (Q : L2.St → Hp → Prop), Rel K F ρ h H → REnv K F ρ env σ → RD K F ρ d v →
    (∀ (env' : Env') (h' : Hs) (F' : Hp) (ρ' : List Addr) (σ' : L2.St) (H' : Hp), Same F F' → Pre ρ ρ' → Rel K F' ρ' h' H' → REnv K F' ρ' env' σ' → N env' h' → Q σ' H') → g v σ H Q
def VGs (K : PySem.W.Frag) (g : TGs) (ds : List D) (env : Env') (h : Hs) (N : Env' → Hs → Prop) : Prop :=
  ∀ (F : Hp) (ρ : List Addr) (σ : L2.St) (H : Hp) (vs : List V) (Q : L2.St → Hp → Prop), Rel K F ρ h H → REnv K F ρ env σ → RA K F ρ ds vs →
    (∀ (env' : Env') (h' : Hs) (F' : Hp) (ρ' : List Addr) (σ' : L2.St) (H' : Hp), Same F F' → Pre ρ ρ' → Rel K F' ρ' h' H' → REnv K F' ρ' env' σ' → N env' h' → Q σ' H') → g vs σ H Q
/-- a promise in data: W args heap what-follows -/
abbrev Spc := List D → Hs → (D → Hs → Prop) → Prop
def spD (K : PySem.W.Frag) (W : Spc) : Sp := fun vs H Q _ => ∃ (ds : List D) (h : Hs) (F : Hp) (ρ : List Addr) (R : D → Hs → Prop), Rel K F ρ h H ∧ RA K F ρ ds vs ∧ W ds h R ∧
  ∀ (d : D) (h' : Hs) (v : V) (F' : Hp) (ρ' : List Addr) (H' : Hp), Same F F' → Pre ρ ρ' → Rel K F' ρ' h' H' → RD K F' ρ' d v → R d h' → Q v H'
/-! ### heaps -/
theorem Rel.free {F : Hp} {ρ : List Addr} {h : Hs} {H : Hp} (r : Rel K F ρ h H) {p : Addr} (e : H p = none) : F p = none := r.same.free e
theorem same_updB {F H : Hp} {p : Addr} {o : HO} (s : Same F H) : Same (upd F p o) (upd H p o) := fun b u e => by
  by_cases hb : b = p
  · subst hb; rw [upd_same] at e ⊢; exact e
  · rw [upd_ne hb] at e ⊢; exact s b u e
theorem same_new {F : Hp} {p : Addr} {o : HO} (h : F p = none) : Same F (upd F p o) := fun b u e => by
  rw [upd_ne (ne_of_none e h)]; exact e
/-- a new frozen thing -/
theorem Rel.frz {F : Hp} {ρ : List Addr} {h : Hs} {H : Hp} (r : Rel K F ρ h H) {p : Addr} {o : HO} (e : H p = none) : Rel K (upd F p o) ρ h (upd H p o) := by
  have hF := r.free e
  refine ⟨same_updB r.same, r.len, fun i u hi => ?_, r.inj⟩
  obtain ⟨a, w, h1, h2, h3, h4⟩ := r.own i u hi
  have ha : a ≠ p := ne_of_none h3 e
  exact ⟨a, w, h1, by rw [upd_ne ha]; exact h2, by rw [upd_ne ha]; exact h3, h4.mono (same_new hF) (Pre.refl _)⟩
/-- a new owned thing -/
theorem Rel.push {F : Hp} {ρ : List Addr} {h : Hs} {H : Hp} (r : Rel K F ρ h H) {p : Addr} {o : OO} {u : HO} (e : H p = none) (ro : RO K F ρ o u) : Rel K F (ρ ++ [p]) (h ++ [some o]) (upd H p u) := by
  have hF := r.free e
  have old : ∀ (i : Nat) (o : OO), h[i]? = some (some o) → ∀ a, ρ[i]? = some a → a ≠ p := fun i o hi a ha => by
    obtain ⟨a', w, h1, h2, h3, h4⟩ := r.own i o hi
    rw [h1] at ha; cases ha
    exact ne_of_none h3 e
  have cs : ∀ (i : Nat) (o' : OO), (h ++ [some o])[i]? = some (some o') → (i < h.length ∧ h[i]? = some (some o')) ∨ (i = h.length ∧ o' = o) := fun i o' hi => by
    by_cases hl : i < h.length
    · rw [List.getElem?_append_left hl] at hi; exact .inl ⟨hl, hi⟩
    · by_cases he : i = h.length
      · subst he
        rw [List.getElem?_append_right (Nat.le_refl _), Nat.sub_self] at hi
        simp at hi
        exact .inr ⟨rfl, hi.symm⟩
      · have : (h ++ [some o]).length ≤ i := by rw [List.length_append]; simp only [List.length_cons, List.length_nil]; omega
        rw [List.getElem?_eq_none_iff.mpr this] at hi; cases hi
  have pl : ∀ (i : Nat), i < h.length → (ρ ++ [p])[i]? = ρ[i]? := fun i hi => List.getElem?_append_left (by rw [r.len]; exact hi)
  have pr : (ρ ++ [p])[h.length]? = some p := by rw [List.getElem?_append_right (by rw [r.len]; exact Nat.le_refl _), r.len, Nat.sub_self]; rfl
  refine ⟨fun b o e' => ?_, by rw [List.length_append, List.length_append, r.len]; rfl, fun i o' hi => ?_, fun i j o1 o2 a hi hj ha hb => ?_⟩
  · rw [upd_ne (ne_of_none (r.same b o e') e)]; exact r.same b o e'
  · rcases cs i o' hi with ⟨hl, hi⟩ | ⟨rfl, rfl⟩
    · obtain ⟨a, w, h1, h2, h3, h4⟩ := r.own i o' hi
      exact ⟨a, w, by rw [pl i hl]; exact h1, h2, by rw [upd_ne (ne_of_none h3 e)]; exact h3, h4.mono (Same.refl _) (Pre.push _ _)⟩
    · exact ⟨p, u, pr, hF, upd_same, ro.mono (Same.refl _) (Pre.push _ _)⟩
  · rcases cs i o1 hi with ⟨hl, hi1⟩ | ⟨hl, _⟩ <;> rcases cs j o2 hj with ⟨hl2, hj1⟩ | ⟨hl2, _⟩
    · rw [pl i hl] at ha
      rw [pl j hl2] at hb
      exact r.inj i j o1 o2 a hi1 hj1 ha hb
    · rw [pl i hl] at ha
      rw [hl2, pr] at hb
      cases hb
      exact absurd rfl (old i o1 hi1 p ha)
    · rw [pl j hl2] at hb
      rw [hl, pr] at ha
      cases ha
      exact absurd rfl (old j o2 hj1 p hb)
    · rw [hl, hl2]
/-- an owned thing changes -/
theorem Rel.put {F : Hp} {ρ : List Addr} {h : Hs} {H : Hp} (r : Rel K F ρ h H) {i : Nat} {a : Addr} {o o' : OO} {u : HO} (hi : h[i]? = some (some o)) (ha : ρ[i]? = some a) (ro : RO K F ρ o' u) : Rel K F ρ (h.set i (some o')) (upd H a u) := by
  obtain ⟨a1, w, h1, h2, h3, h4⟩ := r.own i o hi
  have ea : a1 = a := Option.some.inj (h1.symm.trans ha)
  rw [ea] at h1 h2 h3
  have hil : i < h.length := (List.getElem?_eq_some_iff.mp hi).1
  have cs : ∀ (j : Nat) (o2 : OO), (h.set i (some o'))[j]? = some (some o2) → (j = i ∧ o2 = o') ∨ (j ≠ i ∧ h[j]? = some (some o2)) := fun j o2 hj => by
    by_cases e : j = i
    · subst e; rw [List.getElem?_set_self hil] at hj; simp at hj; exact .inl ⟨rfl, hj.symm⟩
    · rw [List.getElem?_set_ne (Ne.symm e)] at hj; exact .inr ⟨e, hj⟩
  have old : ∀ (j : Nat) (o2 : OO), (h.set i (some o'))[j]? = some (some o2) → ∃ o3, h[j]? = some (some o3) := fun j o2 hj => by
    rcases cs j o2 hj with ⟨e, _⟩ | ⟨_, e⟩
    · rw [e]; exact ⟨o, hi⟩
    · exact ⟨o2, e⟩
  refine ⟨fun b o2 e => ?_, by rw [List.length_set]; exact r.len, fun j o2 hj => ?_, fun j k o1 o2 b hj hk hb hc => ?_⟩
  · rw [upd_ne (ne_of_none e h2)]; exact r.same b o2 e
  · rcases cs j o2 hj with ⟨e1, e2⟩ | ⟨hne, hj1⟩
    · rw [e1, e2]; exact ⟨a, u, h1, h2, upd_same, ro⟩
    · obtain ⟨b, w2, g1, g2, g3, g4⟩ := r.own j o2 hj1
      have hb : b ≠ a := fun e => hne (r.inj j i o2 o b hj1 hi g1 (e ▸ h1))
      exact ⟨b, w2, g1, g2, by rw [upd_ne hb]; exact g3, g4⟩
  · obtain ⟨o3, g1⟩ := old j o1 hj
    obtain ⟨o4, g2⟩ := old k o2 hk
    exact r.inj j k o3 o4 b g1 g2 hb hc
/-- an owned thing is frozen from now on -/
theorem Rel.freeze {F : Hp} {ρ : List Addr} {h : Hs} {H : Hp} (r : Rel K F ρ h H) {i : Nat} {o : OO} (hi : h[i]? = some (some o)) :
    ∃ a u, ρ[i]? = some a ∧ F a = none ∧ H a = some u ∧ RO K (upd F a u) ρ o u ∧ Rel K (upd F a u) ρ (h.set i none) H := by
  obtain ⟨a, u, h1, h2, h3, h4⟩ := r.own i o hi
  have hil : i < h.length := (List.getElem?_eq_some_iff.mp hi).1
  refine ⟨a, u, h1, h2, h3, h4.mono (same_new h2) (Pre.refl _), ⟨fun b o2 e => ?_, by rw [List.length_set]; exact r.len, fun j o2 hj => ?_, fun j k o1 o2 b hj hk hb hc => ?_⟩⟩
  · by_cases hb : b = a
    · subst hb; rw [upd_same] at e; rw [h3]; exact e
    · rw [upd_ne hb] at e; exact r.same b o2 e
  · by_cases e : j = i
    · subst e; rw [List.getElem?_set_self hil] at hj; simp at hj
    · rw [List.getElem?_set_ne (Ne.symm e)] at hj
      obtain ⟨b, w2, g1, g2, g3, g4⟩ := r.own j o2 hj
      have hb : b ≠ a := fun z => e (r.inj j i o2 o b hj hi g1 (z ▸ h1))
      exact ⟨b, w2, g1, by rw [upd_ne hb]; exact g2, g3, g4.mono (same_new h2) (Pre.refl _)⟩
  · have sub : ∀ (j : Nat) (o2 : OO), (h.set i none)[j]? = some (some o2) → h[j]? = some (some o2) := fun j o2 hj => by
      by_cases e : j = i
      · subst e; rw [List.getElem?_set_self hil] at hj; simp at hj
      · rw [List.getElem?_set_ne (Ne.symm e)] at hj; exact hj
    exact r.inj _ _ _ _ b (sub _ _ hj) (sub _ _ hk) hb hc
end
end Kb

/-! The rules of the logic: expressions, statements. -/
namespace Kb
open PySem PySem.Spec PyProof.Rows L2
/-- a constant as data -/
inductive CD : P → V → Prop
  | non : CD .non .non
  | bl (b : Bool) : CD (.bl b) (.bl b)
  | int (i : Int) : CD (.int i) (.int i)
  | str (s : Str) : CD (.str s) (.str s)
  | ty (n : String) : CD (.ty n) (.ty n)
  | cls (C : Addr) : CD (.cls C) (.ref C)
section
variable {K : PySem.W.Frag} {env : Env'} {h : Hs} {ta tb te tc : TE} {R : D → Hs → Prop} {x y d : D}
theorem CD.rd {F : Hp} {ρ : List Addr} {d : P} {v : V} (c : CD d v) : RD K F ρ (.p d) v := by
  cases c
  · exact .p .non
  · exact .p (.bl _)
  · exact .p (.int _)
  · exact .p (.str _)
  · exact .p (.ty _)
  · exact .p (.cls _)
theorem RD.bl {F : Hp} {ρ : List Addr} {b : Bool} {v : V} (h : RD K F ρ (dB b) v) : v = .bl b := by
  cases h with
  | p h => cases h; rfl
theorem RD.int {F : Hp} {ρ : List Addr} {b : Int} {v : V} (h : RD K F ρ (dI b) v) : v = .int b := by
  cases h with
  | p h => cases h; rfl
theorem RD.str {F : Hp} {ρ : List Addr} {b : Str} {v : V} (h : RD K F ρ (dS b) v) : v = .str b := by
  cases h with
  | p h => cases h; rfl
theorem RD.non {F : Hp} {ρ : List Addr} {v : V} (h : RD K F ρ dN v) : v = .non := by
  cases h with
  | p h => cases h; rfl
theorem ve_var {i : Nat} (hd : env[i]? = some (some d)) (q : R d h) : VE K (tVar i) env h R := fun F ρ σ H Q r e k => by
  obtain ⟨v, h1, h2⟩ := e.get i d hd
  exact ⟨v, h1, k d h v F ρ H (Same.refl _) (Pre.refl _) r h2 q⟩
theorem ve_c {v : V} {d : P} (c : CD d v) (q : R (.p d) h) : VE K (tC v) env h R := fun F ρ σ H Q r e k => k (.p d) h v F ρ H (Same.refl _) (Pre.refl _) r c.rd q
theorem ve_int {i : Int} (q : R (dI i) h) : VE K (tC (.int i)) env h R := ve_c (.int i) q
theorem ve_bl {b : Bool} (q : R (dB b) h) : VE K (tC (.bl b)) env h R := ve_c (.bl b) q
theorem ve_str {s : Str} (q : R (dS s) h) : VE K (tC (.str s)) env h R := ve_c (.str s) q
theorem ve_non (q : R dN h) : VE K (tC .non) env h R := ve_c .non q
theorem ve_ty {n : String} (q : R (.p (.ty n)) h) : VE K (tC (.ty n)) env h R := ve_c (.ty n) q
theorem ve_cls {C : Addr} (q : R (.p (.cls C)) h) : VE K (tC (.ref C)) env h R := ve_c (.cls C) q
theorem ve_op {r : R2} (q : VE K ta env h fun x h1 => VE K tb env h1 fun y h2 => V2 K r x y h2 R) : VE K (tOp r ta tb) env h R := fun F ρ σ H Q rl e k =>
  q F ρ σ H _ rl e fun x h1 vx F1 ρ1 H1 s1 p1 r1 dx q1 => q1 F1 ρ1 σ H1 _ r1 (e.mono s1 p1) fun y h2 vy F2 ρ2 H2 s2 p2 r2 dy q2 =>
    q2 F2 ρ2 H2 vx vy Q r2 (dx.mono s2 p2) dy fun d h' v F' ρ' H' s3 p3 r3 dv q3 => k d h' v F' ρ' H' (s1.trans (s2.trans s3)) (p1.trans (p2.trans p3)) r3 dv q3
theorem ve_un {r : V → Hp → VK → Prop} (q : VE K ta env h fun x h1 => V1 K r x h1 R) : VE K (tUn r ta) env h R := fun F ρ σ H Q rl e k =>
  q F ρ σ H _ rl e fun x h1 vx F1 ρ1 H1 s1 p1 r1 dx q1 => q1 F1 ρ1 H1 vx Q r1 dx fun d h' v F' ρ' H' s3 p3 r3 dv q3 => k d h' v F' ρ' H' (s1.trans s3) (p1.trans p3) r3 dv q3
theorem va_nil {R : List D → Hs → Prop} (q : R [] h) : VA K tNil env h R := fun F ρ σ H Q r e k => k [] h [] F ρ H (Same.refl _) (Pre.refl _) r .nil q
theorem va_cons {tr : TA} {R : List D → Hs → Prop} (q : VE K ta env h fun x h1 => VA K tr env h1 fun xs h2 => R (x :: xs) h2) : VA K (tCons ta tr) env h R := fun F ρ σ H Q rl e k =>
  q F ρ σ H _ rl e fun x h1 vx F1 ρ1 H1 s1 p1 r1 dx q1 => q1 F1 ρ1 σ H1 _ r1 (e.mono s1 p1) fun xs h2 vs F2 ρ2 H2 s2 p2 r2 dxs q2 =>
    k (x :: xs) h2 (vx :: vs) F2 ρ2 H2 (s1.trans s2) (p1.trans p2) r2 (.cons (dx.mono s2 p2) dxs) q2
theorem sz_le {n : Nat} (h : n ≤ 100000) : n ≤ sizeLine := Nat.le_trans h (by decide)
theorem ve_tup {t : TA} (q : VA K t env h fun xs h1 => ∃ ps, xs = ps.map D.p ∧ xs.length ≤ sizeLine ∧ R (dT ps) h1) : VE K (tTup t) env h R := fun F ρ σ H Q rl e k =>
  q F ρ σ H _ rl e fun xs h1 vs F1 ρ1 H1 s1 p1 r1 dxs q1 => by
    obtain ⟨ps, rfl, hl, q1⟩ := q1
    refine ⟨by rw [← dxs.len]; exact hl, fun p hp => ?_⟩
    exact k (dT ps) h1 (.ref p) (upd F1 p (.tup vs)) ρ1 _ (s1.trans (same_new (r1.free hp))) p1 (r1.frz hp) (.p (.tup (.of upd_same) (dxs.pure.mono (same_new (r1.free hp))))) q1
/-- a list display whose list stays as it is -/
theorem ve_lst {t : TA} (q : VA K t env h fun xs h1 => ∃ ps, xs = ps.map D.p ∧ xs.length ≤ sizeLine ∧ R (dL ps) h1) : VE K (tLst t) env h R := fun F ρ σ H Q rl e k =>
  q F ρ σ H _ rl e fun xs h1 vs F1 ρ1 H1 s1 p1 r1 dxs q1 => by
    obtain ⟨ps, rfl, hl, q1⟩ := q1
    refine ⟨by rw [← dxs.len]; exact hl, fun p hp => ?_⟩
    exact k (dL ps) h1 (.ref p) (upd F1 p (.lst vs)) ρ1 _ (s1.trans (same_new (r1.free hp))) p1 (r1.frz hp) (.p (.lst (.of upd_same) (dxs.pure.mono (same_new (r1.free hp))))) q1
/-- a list display that is owned -/
theorem ve_lstO {t : TA} (q : VA K t env h fun xs h1 => xs.length ≤ sizeLine ∧ R (.own h1.length) (h1 ++ [some (.lst xs)])) : VE K (tLst t) env h R := fun F ρ σ H Q rl e k =>
  q F ρ σ H _ rl e fun xs h1 vs F1 ρ1 H1 s1 p1 r1 dxs q1 => ⟨by rw [← dxs.len]; exact q1.1, fun p hp =>
    k (.own h1.length) (h1 ++ [some (.lst xs)]) (.ref p) F1 (ρ1 ++ [p]) _ s1 (p1.trans (Pre.push _ _)) (r1.push (o := .lst xs) hp ⟨vs, rfl, dxs⟩) (.own (by rw [← r1.len]; simp)) q1.2⟩
theorem ve_cb {r : List V → Hp → VK → Prop} {t : TA} (q : VA K t env h fun xs h1 => VC K r xs h1 R) : VE K (tCB r t) env h R := fun F ρ σ H Q rl e k =>
  q F ρ σ H _ rl e fun xs h1 vs F1 ρ1 H1 s1 p1 r1 dxs q1 => q1 F1 ρ1 H1 vs Q r1 dxs fun d h' v F' ρ' H' s3 p3 r3 dv q3 => k d h' v F' ρ' H' (s1.trans s3) (p1.trans p3) r3 dv q3
theorem ve_call {W : Spc} {E : XK} {t : TA} (q : VA K t env h fun xs h1 => W xs h1 R) : VE K (tCall (spD K W) [] E t) env h R := fun F ρ σ H Q rl e k =>
  q F ρ σ H _ rl e fun xs h1 vs F1 ρ1 H1 s1 p1 r1 dxs q1 => ⟨xs, h1, F1, ρ1, R, r1, by rw [List.append_nil]; exact dxs, q1, fun d h' v F' ρ' H' s3 p3 r3 dv q3 => k d h' v F' ρ' H' (s1.trans s3) (p1.trans p3) r3 dv q3⟩
/-- of what built-in type -/
def TyD (T : String) (d : D) (h : Hs) : Prop := match d with
  | .p (.str _) => T = "str"
  | .p (.int _) => T = "int"
  | .p (.lst _) => T = "list"
  | .own i => T = "list" ∧ ∃ xs, h[i]? = some (some (.lst xs))
  | _ => False
theorem TyD.v {T : String} {F : Hp} {ρ : List Addr} {h : Hs} {H : Hp} {d : D} {v : V} (r : Rel K F ρ h H) (q : RD K F ρ d v) (t : TyD T d h) : tyV K T v H := by
  cases q with
  | p q =>
    cases q with
    | str s => exact t
    | int i => exact t
    | lst a b => exact .inl ⟨t, _, r.same.seq a⟩
    | _ => exact t.elim
  | own e =>
    obtain ⟨h1, xs, hx⟩ := t
    obtain ⟨a, u, e1, e2, e3, vs, e4, _⟩ := r.own _ _ hx
    rw [e] at e1; cases e1
    subst e4
    exact .inl ⟨h1, vs, .of e3⟩
theorem ve_bm {T : String} {r : V → List V → Hp → VK → Prop} {to : TE} {t : TA}
    (q : VE K to env h fun x h1 => TyD T x h1 ∧ VA K t env h1 fun xs h2 => VM K r x xs h2 R) : VE K (tBM K T r to t) env h R := fun F ρ σ H Q rl e k =>
  q F ρ σ H _ rl e fun x h1 vx F1 ρ1 H1 s1 p1 r1 dx q1 => ⟨q1.1.v r1 dx, q1.2 F1 ρ1 σ H1 _ r1 (e.mono s1 p1) fun xs h2 vs F2 ρ2 H2 s2 p2 r2 dxs q2 =>
    q2 F2 ρ2 H2 vx vs Q r2 (dx.mono s2 p2) dxs fun d h' v F' ρ' H' s3 p3 r3 dv q3 => k d h' v F' ρ' H' (s1.trans (s2.trans s3)) (p1.trans (p2.trans p3)) r3 dv q3⟩
theorem ve_bm0 {T : String} {r : V → List V → Hp → VK → Prop} {to : TE}
    (q : VE K to env h fun x h1 => TyD T x h1 ∧ VM K r x [] h1 R) : VE K (tBM0 K T r to) env h R := fun F ρ σ H Q rl e k =>
  q F ρ σ H _ rl e fun x h1 vx F1 ρ1 H1 s1 p1 r1 dx q1 => ⟨q1.1.v r1 dx, q1.2 F1 ρ1 H1 vx [] Q r1 dx .nil fun d h' v F' ρ' H' s3 p3 r3 dv q3 => k d h' v F' ρ' H' (s1.trans s3) (p1.trans p3) r3 dv q3⟩
/-- an attribute of an instance that stays; of one that is owned -/
def FldD (f : Str) (x : D) (h : Hs) (C : Addr) (d : D) : Prop := match x with
  | .p (.ins C' fs) => C' = C ∧ (fs.map fun q => (q.1, D.p q.2)).lookup f = some d
  | .own i => ∃ fs, h[i]? = some (some (.ins C fs)) ∧ fs.lookup f = some d
  | _ => False
theorem ve_fld {f : Str} (q : VE K ta env h fun x h1 => ∃ C d, Cls K C ∧ NoAttr K C f ∧ FldD f x h1 C d ∧ R d h1) : VE K (tFld K ta f) env h R := fun F ρ σ H Q rl e k =>
  q F ρ σ H _ rl e fun x h1 vx F1 ρ1 H1 s1 p1 r1 dx q1 => by
    obtain ⟨C, d, c, n, l, q1⟩ := q1
    cases dx with
    | p dx =>
      cases dx with
      | ins a b =>
        obtain ⟨rfl, l⟩ := l
        obtain ⟨v, l1, l2⟩ := (b.data (ρ := ρ1)).look l
        exact ⟨_, _, _, _, v, rfl, r1.same _ _ a, c, n, l1, k d h1 v F1 ρ1 H1 s1 p1 r1 l2 q1⟩
      | _ => exact l.elim
    | own hi =>
      obtain ⟨fs, hx, l⟩ := l
      obtain ⟨a, u, e1, e2, e3, dx, gs, e4, e5⟩ := r1.own _ _ hx
      rw [hi] at e1; cases e1
      subst e4
      obtain ⟨v, l1, l2⟩ := e5.look l
      exact ⟨_, _, _, _, v, rfl, e3, c, n, l1, k d h1 v F1 ρ1 H1 s1 p1 r1 l2 q1⟩
theorem ve_if {tt : TT} (q : VT K tt env h fun b h1 => if b = true then VE K ta env h1 R else VE K tb env h1 R) : VE K (tIf tt ta tb) env h R := fun F ρ σ H Q rl e k =>
  q F ρ σ H _ rl e fun b h1 F1 ρ1 H1 s1 p1 r1 q1 => by
    cases b with
    | true => exact q1 F1 ρ1 σ H1 Q r1 (e.mono s1 p1) fun d h' v F' ρ' H' s3 p3 r3 dv q3 => k d h' v F' ρ' H' (s1.trans s3) (p1.trans p3) r3 dv q3
    | false => exact q1 F1 ρ1 σ H1 Q r1 (e.mono s1 p1) fun d h' v F' ρ' H' s3 p3 r3 dv q3 => k d h' v F' ρ' H' (s1.trans s3) (p1.trans p3) r3 dv q3
theorem ve_and (q : VE K ta env h fun x h1 => ∃ c, x = dB c ∧ if c = true then VE K tb env h1 R else R (dB false) h1) : VE K (tAndV ta tb) env h R := fun F ρ σ H Q rl e k =>
  q F ρ σ H _ rl e fun x h1 vx F1 ρ1 H1 s1 p1 r1 dx q1 => by
    obtain ⟨c, rfl, q1⟩ := q1
    obtain rfl := dx.bl
    refine ⟨c, rfl, ?_⟩
    cases c with
    | true => exact q1 F1 ρ1 σ H1 Q r1 (e.mono s1 p1) fun d h' v F' ρ' H' s3 p3 r3 dv q3 => k d h' v F' ρ' H' (s1.trans s3) (p1.trans p3) r3 dv q3
    | false => exact k (dB false) h1 (.bl false) F1 ρ1 H1 s1 p1 r1 (.p (.bl false)) q1
theorem ve_or (q : VE K ta env h fun x h1 => ∃ c, x = dB c ∧ if c = true then R (dB true) h1 else VE K tb env h1 R) : VE K (tOrV ta tb) env h R := fun F ρ σ H Q rl e k =>
  q F ρ σ H _ rl e fun x h1 vx F1 ρ1 H1 s1 p1 r1 dx q1 => by
    obtain ⟨c, rfl, q1⟩ := q1
    obtain rfl := dx.bl
    refine ⟨c, rfl, ?_⟩
    cases c with
    | true => exact k (dB true) h1 (.bl true) F1 ρ1 H1 s1 p1 r1 (.p (.bl true)) q1
    | false => exact q1 F1 ρ1 σ H1 Q r1 (e.mono s1 p1) fun d h' v F' ρ' H' s3 p3 r3 dv q3 => k d h' v F' ρ' H' (s1.trans s3) (p1.trans p3) r3 dv q3
theorem ve_not (q : VE K ta env h fun x h1 => ∃ c, x = dB c ∧ R (dB (!c)) h1) : VE K (tNotV ta) env h R := fun F ρ σ H Q rl e k =>
  q F ρ σ H _ rl e fun x h1 vx F1 ρ1 H1 s1 p1 r1 dx q1 => by
    obtain ⟨c, rfl, q1⟩ := q1
    obtain rfl := dx.bl
    exact ⟨c, rfl, k _ h1 _ F1 ρ1 H1 s1 p1 r1 (.p (.bl _)) q1⟩
theorem ve_chain {r r' : R2} (q : VE K ta env h fun x h1 => VE K tb env h1 fun y h2 => V2 K r x y h2 fun z h3 => ∃ c, z = dB c ∧ if c = true then VE K tc env h3 fun w h4 => V2 K r' y w h4 R else R (dB false) h3) : VE K (tChain r r' ta tb tc) env h R := by
  intro F ρ σ H Q rl e k
  refine q F ρ σ H _ rl e fun x h1 vx F1 ρ1 H1 s1 p1 r1 dx q1 => ?_
  refine q1 F1 ρ1 σ H1 _ r1 (e.mono s1 p1) fun y h2 vy F2 ρ2 H2 s2 p2 r2 dy q2 => ?_
  refine q2 F2 ρ2 H2 vx vy _ r2 (dx.mono s2 p2) dy fun z h3 vz F3 ρ3 H3 s3 p3 r3 dz q3 => ?_
  obtain ⟨c, rfl, q3⟩ := q3
  obtain rfl := dz.bl
  refine ⟨c, rfl, ?_⟩
  have s13 := s1.trans (s2.trans s3)
  have p13 := p1.trans (p2.trans p3)
  cases c with
  | true =>
    refine q3 F3 ρ3 σ H3 _ r3 (e.mono s13 p13) fun w h4 vw F4 ρ4 H4 s4 p4 r4 dw q4 => ?_
    exact q4 F4 ρ4 H4 vy vw Q r4 (dy.mono (s3.trans s4) (p3.trans p4)) dw fun d h' v F' ρ' H' s5 p5 r5 dv q5 => k d h' v F' ρ' H' (s13.trans (s4.trans s5)) (p13.trans (p4.trans p5)) r5 dv q5
  | false => exact k (dB false) h3 (.bl false) F3 ρ3 H3 s13 p13 r3 (.p (.bl false)) q3
/-! ### tests -/
variable {tt uu : TT} {B : Bool → Hs → Prop}
theorem vt_test (q : VE K ta env h fun x h1 => ∃ c, x = dB c ∧ B c h1) : VT K (tTest ta) env h B := fun F ρ σ H Q rl e k =>
  q F ρ σ H _ rl e fun x h1 vx F1 ρ1 H1 s1 p1 r1 dx q1 => by
    obtain ⟨c, rfl, q1⟩ := q1
    obtain rfl := dx.bl
    exact ⟨c, rfl, k c h1 F1 ρ1 H1 s1 p1 r1 q1⟩
theorem vt_B (q : VE K ta env h fun x h1 => ∃ c, x = dB c ∧ B c h1) : VT K (tB ta) env h B := fun F ρ σ H Q rl e k =>
  q F ρ σ H _ rl e fun x h1 vx F1 ρ1 H1 s1 p1 r1 dx q1 => by
    obtain ⟨c, rfl, q1⟩ := q1
    obtain rfl := dx.bl
    exact ⟨c, rfl, k c h1 F1 ρ1 H1 s1 p1 r1 q1⟩
theorem vt_and (q : VT K tt env h fun c h1 => if c = true then VT K uu env h1 B else B false h1) : VT K (tAnd tt uu) env h B := fun F ρ σ H Q rl e k =>
  q F ρ σ H _ rl e fun c h1 F1 ρ1 H1 s1 p1 r1 q1 => by
    cases c with
    | true => exact q1 F1 ρ1 σ H1 Q r1 (e.mono s1 p1) fun b h' F' ρ' H' s3 p3 r3 q3 => k b h' F' ρ' H' (s1.trans s3) (p1.trans p3) r3 q3
    | false => exact k false h1 F1 ρ1 H1 s1 p1 r1 q1
theorem vt_or (q : VT K tt env h fun c h1 => if c = true then B true h1 else VT K uu env h1 B) : VT K (tOr tt uu) env h B := fun F ρ σ H Q rl e k =>
  q F ρ σ H _ rl e fun c h1 F1 ρ1 H1 s1 p1 r1 q1 => by
    cases c with
    | true => exact k true h1 F1 ρ1 H1 s1 p1 r1 q1
    | false => exact q1 F1 ρ1 σ H1 Q r1 (e.mono s1 p1) fun b h' F' ρ' H' s3 p3 r3 q3 => k b h' F' ρ' H' (s1.trans s3) (p1.trans p3) r3 q3
theorem vt_not (q : VT K tt env h fun c h1 => B (!c) h1) : VT K (tNot tt) env h B := fun F ρ σ H Q rl e k =>
  q F ρ σ H _ rl e fun c h1 F1 ρ1 H1 s1 p1 r1 q1 => k (!c) h1 F1 ρ1 H1 s1 p1 r1 q1
/-- truth of a datum -/
def TruD (d : D) (h : Hs) (k : Bool) : Prop := match d with
  | .p .non => k = false
  | .p (.bl b) => k = b
  | .p (.int i) => k = (i != 0)
  | .p (.str y) => y.length ≤ sizeLine ∧ k = ((y.length : Int) != 0)
  | .p (.lst xs) => k = !xs.isEmpty
  | .p (.tup xs) => k = !xs.isEmpty
  | .own i => ∃ xs, h[i]? = some (some (.lst xs)) ∧ k = !xs.isEmpty
  | _ => False
theorem RA.empty {F : Hp} {ρ : List Addr} {xs : List D} {vs : List V} (r : RA K F ρ xs vs) : (!vs.isEmpty) = !xs.isEmpty := by
  cases r <;> rfl
theorem RPs.empty {F : Hp} {xs : List P} {vs : List V} (r : RPs K F xs vs) : (!vs.isEmpty) = !xs.isEmpty := by
  cases r <;> rfl
theorem TruD.v {F : Hp} {ρ : List Addr} {h : Hs} {H : Hp} {d : D} {v : V} {k : Bool} (r : Rel K F ρ h H) (q : RD K F ρ d v) (t : TruD d h k) : TruV K v H k := by
  cases q with
  | p q =>
    cases q with
    | lst a b => exact .inl ⟨_, r.same.seq a, by rw [b.empty]; exact t⟩
    | tup a b => exact .inr (.inl ⟨_, sqT_mono r.same a, by rw [b.empty]; exact t⟩)
    | ins => exact t.elim
    | ty => exact t.elim
    | cls => exact t.elim
    | _ => exact t
  | own e =>
    obtain ⟨xs, hx, t⟩ := t
    obtain ⟨a, u, e1, e2, e3, vs, e4, e5⟩ := r.own _ _ hx
    rw [e] at e1; cases e1
    subst e4
    exact .inl ⟨vs, .of e3, by rw [e5.empty]; exact t⟩
theorem vt_truth (q : VE K ta env h fun x h1 => ∃ c, TruD x h1 c ∧ B c h1) : VT K (fun σ H Q => ta σ H fun x H' => ∃ k, TruV K x H' k ∧ Q k H') env h B := fun F ρ σ H Q rl e k =>
  q F ρ σ H _ rl e fun x h1 vx F1 ρ1 H1 s1 p1 r1 dx q1 => by
    obtain ⟨c, t, q1⟩ := q1
    exact ⟨c, t.v r1 dx, k c h1 F1 ρ1 H1 s1 p1 r1 q1⟩
/-! ### statements -/
variable {t1 t2 : TS} {E : En}
theorem vs_seq (q : VS K t1 { E with nx := VS K t2 E } env h) : VS K (tSeq t1 t2) E env h := fun F ρ σ H D' rl e k =>
  q F ρ σ H _ rl e ⟨fun env' h' F' ρ' σ' H' s p r e' q' => q' F' ρ' σ' H' D' r e' (k.mono s p), k.rt, k.bk, k.ct⟩
theorem vs_next (q : E.nx env h) : VS K tNext E env h := fun F ρ σ H D' rl e k => k.nx env h F ρ σ H (Same.refl _) (Pre.refl _) rl e q
theorem vs_break (q : E.bk env h) : VS K tBreak E env h := fun F ρ σ H D' rl e k => k.bk env h F ρ σ H (Same.refl _) (Pre.refl _) rl e q
theorem vs_cont (q : E.ct env h) : VS K tCont E env h := fun F ρ σ H D' rl e k => k.ct env h F ρ σ H (Same.refl _) (Pre.refl _) rl e q
theorem vs_asg {g : TG} (q : VE K ta env h fun d h1 => VG K g d env h1 E.nx) : VS K (tAsg ta g) E env h := fun F ρ σ H D' rl e k =>
  q F ρ σ H _ rl e fun x h1 vx F1 ρ1 H1 s1 p1 r1 dx q1 => q1 F1 ρ1 σ H1 vx _ r1 (e.mono s1 p1) dx fun env' h' F' ρ' σ' H' s2 p2 r2 e2 q2 => k.nx env' h' F' ρ' σ' H' (s1.trans s2) (p1.trans p2) r2 e2 q2
theorem vs_if (q : VT K tt env h fun b h1 => if b = true then VS K t1 E env h1 else VS K t2 E env h1) : VS K (tIfS tt t1 t2) E env h := fun F ρ σ H D' rl e k =>
  q F ρ σ H _ rl e fun b h1 F1 ρ1 H1 s1 p1 r1 q1 => by
    cases b with
    | true => exact q1 F1 ρ1 σ H1 D' r1 (e.mono s1 p1) (k.mono s1 p1)
    | false => exact q1 F1 ρ1 σ H1 D' r1 (e.mono s1 p1) (k.mono s1 p1)
theorem vs_ret (q : VE K ta env h E.rt) : VS K (tRet ta) E env h := fun F ρ σ H D' rl e k =>
  q F ρ σ H _ rl e fun d h1 v F1 ρ1 H1 s1 p1 r1 dv q1 => k.rt d h1 v F1 ρ1 H1 s1 p1 r1 dv q1
theorem vs_retN (q : E.rt dN h) : VS K tRetN E env h := fun F ρ σ H D' rl e k => k.rt dN h .non F ρ H (Same.refl _) (Pre.refl _) rl (.p .non) q
theorem vs_drop (q : VE K ta env h fun _ h1 => E.nx env h1) : VS K (tDrop ta) E env h := fun F ρ σ H D' rl e k =>
  q F ρ σ H _ rl e fun d h1 v F1 ρ1 H1 s1 p1 r1 dv q1 => k.nx env h1 F1 ρ1 σ H1 s1 p1 r1 (e.mono s1 p1) q1
theorem vg_name {i : Nat} {N : Env' → Hs → Prop} (q : N (env.set i (some d)) h) : VG K (gName i) d env h N := fun F ρ σ H v Q rl e dv k =>
  k (env.set i (some d)) h F ρ (σ.set i (some v)) H (Same.refl _) (Pre.refl _) rl (e.set dv) q
theorem vgs_nil {N : Env' → Hs → Prop} (q : N env h) : VGs K gNil [] env h N := fun F ρ σ H vs Q rl e dv k => by
  cases dv
  exact ⟨rfl, k env h F ρ σ H (Same.refl _) (Pre.refl _) rl e q⟩
theorem vgs_cons {g : TG} {gs : TGs} {ds : List D} {N : Env' → Hs → Prop} (q : VG K g d env h fun env' h' => VGs K gs ds env' h' N) : VGs K (gCons g gs) (d :: ds) env h N := fun F ρ σ H vs Q rl e dv k => by
  cases dv with
  | cons a b =>
    exact ⟨_, _, rfl, q F ρ σ H _ _ rl e a fun env' h' F' ρ' σ' H' s p r e' q' => q' F' ρ' σ' H' _ _ r e' (b.mono s p) fun env2 h2 F2 ρ2 σ2 H2 s2 p2 r2 e2 q2 => k env2 h2 F2 ρ2 σ2 H2 (s.trans s2) (p.trans p2) r2 e2 q2⟩
theorem vg_tup {n : Nat} {gs : TGs} {ds : List P} {N : Env' → Hs → Prop} (hl : ds.length = n) (q : VGs K gs (ds.map D.p) env h N) : VG K (gTup K n gs) (dT ds) env h N := fun F ρ σ H v Q rl e dv k => by
  cases dv with
  | p dv =>
    cases dv with
    | tup a b => exact ⟨_, _, rfl, sqT_mono rl.same a, by rw [← b.len]; exact hl, q F ρ σ H _ Q rl e b.data k⟩
/-- xs[i] = v, the list owned -/
theorem vg_sub {to ti : TE} {N : Env' → Hs → Prop} (q : VE K to env h fun o h1 => VE K ti env h1 fun i h2 => ∃ n z xs j, o = .own n ∧ i = dI z ∧ h2[n]? = some (some (.lst xs)) ∧ ixN xs.length z = some j ∧ N env (h2.set n (some (.lst (xs.set j d))))) :
    VG K (gSub to ti rSetL) d env h N := fun F ρ σ H v Q rl e dv k =>
  q F ρ σ H _ rl e fun o h1 vo F1 ρ1 H1 s1 p1 r1 dlo q1 => q1 F1 ρ1 σ H1 _ r1 (e.mono s1 p1) fun i h2 vi F2 ρ2 H2 s2 p2 r2 di q2 => by
    obtain ⟨n, z, xs, j, rfl, rfl, hx, hj, q2⟩ := q2
    obtain rfl := di.int
    cases dlo with
    | own ho =>
      have ho' := p2 _ _ ho
      obtain ⟨a, u, e1, e2, e3, vs, e4, e5⟩ := r2.own _ _ hx
      rw [ho'] at e1; cases e1
      subst e4
      refine ⟨_, vs, z, j, rfl, rfl, e3, by rw [← e5.len]; exact hj, ?_⟩
      exact k env _ F2 ρ2 σ _ (s1.trans s2) (p1.trans p2) (r2.put (o' := .lst (xs.set j d)) hx ho' ⟨_, rfl, e5.set (dv.mono (s1.trans s2) (p1.trans p2)) j⟩) (e.mono (s1.trans s2) (p1.trans p2)) q2
/-- o.f = v, o an instance that is owned -/
theorem vs_fld {f : Str} {tv to : TE} (q : VE K tv env h fun y h1 => VE K to env h1 fun x h2 => ∃ n C fs, x = .own n ∧ h2[n]? = some (some (.ins C fs)) ∧ Cls K C ∧ NoAttr K C f ∧ fs.length < 1000 ∧ E.nx env (h2.set n (some (.ins C (putD f y fs))))) :
    VS K (sFld K to tv f) E env h := fun F ρ σ H D' rl e k =>
  q F ρ σ H _ rl e fun y h1 vy F1 ρ1 H1 s1 p1 r1 dy q1 => q1 F1 ρ1 σ H1 _ r1 (e.mono s1 p1) fun x h2 vx F2 ρ2 H2 s2 p2 r2 dx q2 => by
    obtain ⟨n, C, fs, rfl, hx, c, na, hl, q2⟩ := q2
    cases dx with
    | own ho =>
      obtain ⟨a, u, e1, e2, e3, dx, gs, e4, e5⟩ := r2.own _ _ hx
      rw [ho] at e1; cases e1
      subst e4
      refine ⟨_, C, dx, gs, rfl, e3, c, na, by rw [← e5.len]; exact hl, ?_⟩
      exact k.nx env _ F2 ρ2 σ _ (s1.trans s2) (p1.trans p2) (r2.put (o' := .ins C (putD f y fs)) hx ho ⟨dx, _, rfl, RF.put (dy.mono s2 p2) e5⟩) (e.mono (s1.trans s2) (p1.trans p2)) q2
theorem vs_aug {i : Nat} {ti : TIp} (hd : env[i]? = some (some d)) (q : VE K ta env h fun y h1 => V2 K ti d y h1 fun z h2 => E.nx (env.set i (some z)) h2) : VS K (tAug i ta ti) E env h := fun F ρ σ H D' rl e k => by
  obtain ⟨v, g1, g2⟩ := e.get i d hd
  exact ⟨v, g1, q F ρ σ H _ rl e fun y h1 vy F1 ρ1 H1 s1 p1 r1 dy q1 => q1 F1 ρ1 H1 v vy _ r1 (g2.mono s1 p1) dy fun z h2 vz F2 ρ2 H2 s2 p2 r2 dz q2 =>
    k.nx _ h2 F2 ρ2 _ H2 (s1.trans s2) (p1.trans p2) r2 ((e.mono (s1.trans s2) (p1.trans p2)).set dz) q2⟩
/-! ### what may be forgotten, what is known anyhow -/
theorem VE.imp {R' : D → Hs → Prop} (q : VE K ta env h R) (w : ∀ d h, R d h → R' d h) : VE K ta env h R' := fun F ρ σ H Q rl e k => q F ρ σ H Q rl e fun d h' v F' ρ' H' s p r dv q' => k d h' v F' ρ' H' s p r dv (w d h' q')
theorem VT.imp {B' : Bool → Hs → Prop} (q : VT K tt env h B) (w : ∀ b h, B b h → B' b h) : VT K tt env h B' := fun F ρ σ H Q rl e k => q F ρ σ H Q rl e fun d h' F' ρ' H' s p r q' => k d h' F' ρ' H' s p r (w d h' q')
theorem VS.imp {E' : En} (q : VS K t1 E env h) (w1 : ∀ e h, E.nx e h → E'.nx e h) (w2 : ∀ d h, E.rt d h → E'.rt d h) (w3 : ∀ e h, E.bk e h → E'.bk e h) (w4 : ∀ e h, E.ct e h → E'.ct e h) : VS K t1 E' env h := fun F ρ σ H D' rl e k =>
  q F ρ σ H D' rl e ⟨fun a b c d e f g h i j l => k.nx a b c d e f g h i j (w1 _ _ l), fun a b c d e f g h i j l => k.rt a b c d e f g h i j (w2 _ _ l) , fun a b c d e f g h i j l => k.bk a b c d e f g h i j (w3 _ _ l), fun a b c d e f g h i j l => k.ct a b c d e f g h i j (w4 _ _ l)⟩
end
end Kb

/-! Loops, comprehensions; operations upon data; defs. -/
namespace Kb
open PySem PySem.Spec PyProof.Rows L2
section
variable {K : PySem.W.Frag} {env : Env'} {h : Hs} {ta tb te tc : TE} {R : D → Hs → Prop} {x y d : D}
/-! ### what is walked -/
/-- J walks ds while C holds of what is owned -/
structure ItOk (K : PySem.W.Frag) (F : Hp) (ρ : List Addr) (C : Hs → Prop) (ds : List D) (J : It) : Prop where
  stop : ∀ (F' : Hp) (ρ' : List Addr) (h : Hs) (H : Hp), Same F F' → Pre ρ ρ' → Rel K F' ρ' h H → C h → J.stop ds.length H
  go : ∀ (i : Nat) (F' : Hp) (ρ' : List Addr) (h : Hs) (H : Hp), Same F F' → Pre ρ ρ' → Rel K F' ρ' h H → C h → i < ds.length → J.go i H
  yld : ∀ (i : Nat) (d : D) (F' : Hp) (ρ' : List Addr) (h : Hs) (H : Hp) (x : V) (H' : Hp), Same F F' → Pre ρ ρ' → Rel K F' ρ' h H → C h → ds[i]? = some d → J.yld i H x H' →
    ∃ F2 : Hp, Same F' F2 ∧ Rel K F2 ρ' h H' ∧ RD K F2 ρ' d x
def VI (K : PySem.W.Frag) (wi : TI) (env : Env') (h : Hs) (R : List D → (Hs → Prop) → Hs → Prop) : Prop :=
  ∀ (F : Hp) (ρ : List Addr) (σ : L2.St) (H : Hp) (Q : It → Hp → Prop), Rel K F ρ h H → REnv K F ρ env σ →
    (∀ (ds : List D) (C : Hs → Prop) (h' : Hs) (J : It) (F' : Hp) (ρ' : List Addr) (H' : Hp), Same F F' → Pre ρ ρ' → Rel K F' ρ' h' H' → ItOk K F' ρ' C ds J → R ds C h' → Q J H') → wi σ H Q
/-- a list that stays: its items are those seen by any reading that the walk hands on -/
theorem vi_list {tl : TE} {R : List D → (Hs → Prop) → Hs → Prop} (q : VE K tl env h fun x h1 => ∃ ps, x = dL ps ∧ R (ps.map D.p) (fun _ => True) h1) : VI K (iList K tl) env h R := fun F ρ σ H Q rl e k =>
  q F ρ σ H _ rl e fun x h1 vx F1 ρ1 H1 s1 p1 r1 dx q1 => by
    obtain ⟨ps, rfl, q1⟩ := q1
    cases dx with
    | p dx =>
      cases dx with
      | @lst a _ vs ha rp =>
        refine ⟨a, rfl, ⟨vs, r1.same.seq ha⟩, k (ps.map D.p) (fun _ => True) h1 _ F1 ρ1 H1 s1 p1 r1 ⟨fun F' ρ' h' H' s p r _ => ?_, fun i F' ρ' h' H' s p r _ hi => ?_, fun i d F' ρ' h' H' x H2 s p r _ hd hy => ?_⟩ q1⟩
        · exact ⟨vs, r.same.seq (s.seq ha), by rw [List.length_map, rp.len]; exact Nat.le_refl _⟩
        · rw [List.length_map, rp.len] at hi
          exact ⟨vs, vs[i], r.same.seq (s.seq ha), List.getElem?_eq_getElem hi⟩
        · obtain ⟨e1, e2⟩ := hy
          subst e1
          rw [List.getElem?_map] at hd
          cases hp : ps[i]? with
          | none => rw [hp] at hd; cases hd
          | some p0 =>
            rw [hp] at hd; cases hd
            obtain ⟨v, hv, rv⟩ := rp.get hp
            have ev := e2 vs (r.same.seq (s.seq ha))
            rw [hv] at ev; cases ev
            exact ⟨F', Same.refl _, r, .p (rv.mono s)⟩
theorem vi_tup {tl : TE} {R : List D → (Hs → Prop) → Hs → Prop} (q : VE K tl env h fun x h1 => ∃ ps, x = dT ps ∧ R (ps.map D.p) (fun _ => True) h1) : VI K (iTup K tl) env h R := fun F ρ σ H Q rl e k =>
  q F ρ σ H _ rl e fun x h1 vx F1 ρ1 H1 s1 p1 r1 dx q1 => by
    obtain ⟨ps, rfl, q1⟩ := q1
    cases dx with
    | p dx =>
      cases dx with
      | @tup a _ vs ha rp =>
        refine ⟨a, rfl, ⟨vs, sqT_mono r1.same ha⟩, k (ps.map D.p) (fun _ => True) h1 _ F1 ρ1 H1 s1 p1 r1 ⟨fun F' ρ' h' H' s p r _ => ?_, fun i F' ρ' h' H' s p r _ hi => ?_, fun i d F' ρ' h' H' x H2 s p r _ hd hy => ?_⟩ q1⟩
        · exact ⟨vs, sqT_mono r.same (sqT_mono s ha), by rw [List.length_map, rp.len]; exact Nat.le_refl _⟩
        · rw [List.length_map, rp.len] at hi
          exact ⟨vs, vs[i], sqT_mono r.same (sqT_mono s ha), List.getElem?_eq_getElem hi⟩
        · obtain ⟨e1, e2⟩ := hy
          subst e1
          rw [List.getElem?_map] at hd
          cases hp : ps[i]? with
          | none => rw [hp] at hd; cases hd
          | some p0 =>
            rw [hp] at hd; cases hd
            obtain ⟨v, hv, rv⟩ := rp.get hp
            have ev := e2 vs (sqT_mono r.same (sqT_mono s ha))
            rw [hv] at ev; cases ev
            exact ⟨F', Same.refl _, r, .p (rv.mono s)⟩
/-- an owned list, while it is not changed -/
theorem vi_listO {tl : TE} {R : List D → (Hs → Prop) → Hs → Prop} (q : VE K tl env h fun x h1 => ∃ n xs, x = .own n ∧ h1[n]? = some (some (.lst xs)) ∧ R xs (fun h2 => h2[n]? = some (some (.lst xs))) h1) : VI K (iList K tl) env h R := fun F ρ σ H Q rl e k =>
  q F ρ σ H _ rl e fun x h1 vx F1 ρ1 H1 s1 p1 r1 dx q1 => by
    obtain ⟨n, xs, rfl, hx, q1⟩ := q1
    cases dx with
    | @own a _ ha =>
      have at_ : ∀ (F' : Hp) (ρ' : List Addr) (h' : Hs) (H' : Hp), Pre ρ1 ρ' → Rel K F' ρ' h' H' → h'[n]? = some (some (.lst xs)) → ∃ vs, H' a = some (.lst vs) ∧ RA K F' ρ' xs vs := fun F' ρ' h' H' p r hn => by
        obtain ⟨a', u, e1, e2, e3, vs, e4, e5⟩ := r.own _ _ hn
        rw [p _ _ ha] at e1; cases e1
        subst e4
        exact ⟨vs, e3, e5⟩
      obtain ⟨vs, hv, _⟩ := at_ F1 ρ1 h1 H1 (Pre.refl _) r1 hx
      refine ⟨a, rfl, ⟨vs, .of hv⟩, k xs _ h1 _ F1 ρ1 H1 s1 p1 r1 ⟨fun F' ρ' h' H' s p r c => ?_, fun i F' ρ' h' H' s p r c hi => ?_, fun i d F' ρ' h' H' x H2 s p r c hd hy => ?_⟩ q1⟩
      · obtain ⟨vs, hv, rv⟩ := at_ F' ρ' h' H' p r c
        exact ⟨vs, .of hv, by rw [rv.len]; exact Nat.le_refl _⟩
      · obtain ⟨vs, hv, rv⟩ := at_ F' ρ' h' H' p r c
        rw [rv.len] at hi
        exact ⟨vs, vs[i], .of hv, List.getElem?_eq_getElem hi⟩
      · obtain ⟨e1, e2⟩ := hy
        subst e1
        obtain ⟨vs, hv, rv⟩ := at_ F' ρ' h' _ p r c
        obtain ⟨v, h1, h2⟩ := rv.get hd
        have ev := e2 vs (.of hv)
        rw [h1] at ev; cases ev
        exact ⟨F', Same.refl _, r, h2⟩
/-- the numbers lo, lo + 1, .. -/
def rng (lo : Int) (n : Nat) : List D := (List.range n).map fun (i : Nat) => dI (lo + (i : Int))
theorem rng_len (lo : Int) (n : Nat) : (rng lo n).length = n := by simp [rng]
theorem rng_get {lo : Int} {n i : Nat} {d : D} (hd : (rng lo n)[i]? = some d) : i < n ∧ d = dI (lo + (i : Int)) := by
  have hl : i < (rng lo n).length := (List.getElem?_eq_some_iff.mp hd).1
  rw [rng_len] at hl
  refine ⟨hl, ?_⟩
  unfold rng at hd
  rw [List.getElem?_map, List.getElem?_range hl] at hd
  exact (Option.some.inj hd).symm
theorem itr_ok {F : Hp} {ρ : List Addr} {lo : Int} {n : Nat} : ItOk K F ρ (fun _ => True) (rng lo n) (Itr lo n) :=
  ⟨fun F' ρ' h H s p r c => by rw [rng_len]; exact Nat.le_refl n, fun i F' ρ' h H s p r c hi => by rw [rng_len] at hi; exact hi, fun i d F' ρ' h H x H' s p r c hd hy => by
    obtain ⟨e1, e2⟩ := hy
    subst e1 e2
    rw [(rng_get hd).2]
    exact ⟨F', Same.refl _, r, .p (.int _)⟩⟩
theorem vi_range1 {t : TA} {R : List D → (Hs → Prop) → Hs → Prop} (q : VA K t env h fun xs h1 => ∃ j : Int, xs = [dI j] ∧ -(2 ^ 62) ≤ j ∧ j < 2 ^ 62 ∧ R (rng 0 j.toNat) (fun _ => True) h1) : VI K (iRng1 t) env h R := fun F ρ σ H Q rl e k =>
  q F ρ σ H _ rl e fun xs h1 vs F1 ρ1 H1 s1 p1 r1 dx q1 => by
    obtain ⟨j, rfl, b1, b2, q1⟩ := q1
    cases dx with
    | cons a b =>
      cases b
      obtain rfl := a.int
      exact ⟨j, rfl, b1, b2, k _ _ h1 _ F1 ρ1 H1 s1 p1 r1 itr_ok q1⟩
theorem vi_range2 {t : TA} {R : List D → (Hs → Prop) → Hs → Prop} (q : VA K t env h fun xs h1 => ∃ i j : Int, xs = [dI i, dI j] ∧ (-(2 ^ 62) ≤ i ∧ i < 2 ^ 62 ∧ -(2 ^ 62) ≤ j ∧ j < 2 ^ 62) ∧ R (rng i (j - i).toNat) (fun _ => True) h1) : VI K (iRng2 t) env h R := fun F ρ σ H Q rl e k =>
  q F ρ σ H _ rl e fun xs h1 vs F1 ρ1 H1 s1 p1 r1 dx q1 => by
    obtain ⟨i, j, rfl, b, q1⟩ := q1
    cases dx with
    | cons a b' =>
      cases b' with
      | cons c d =>
        cases d
        obtain rfl := a.int
        obtain rfl := c.int
        exact ⟨i, j, rfl, b, k _ _ h1 _ F1 ρ1 H1 s1 p1 r1 itr_ok q1⟩
/-! ### for, while -/
theorem vs_for {wi : TI} {g : TG} {tb : TS} {E : En} (q : VI K wi env h fun ds C h1 => ∃ Inv : Nat → Env' → Hs → Prop, Inv 0 env h1 ∧ (∀ i env h, Inv i env h → C h) ∧
    (∀ i d env h, ds[i]? = some d → Inv i env h → VG K g d env h fun env' h' => VS K tb { E with nx := Inv (i + 1), ct := Inv (i + 1), bk := E.nx } env' h') ∧ (∀ env h, Inv ds.length env h → E.nx env h)) : VS K (tFor wi g tb) E env h := fun F ρ σ H D' rl e k =>
  q F ρ σ H _ rl e fun ds C h1 J F1 ρ1 H1 s1 p1 r1 it q1 => by
    obtain ⟨Inv, i0, iC, turn, fin⟩ := q1
    have e1 := e.mono s1 p1
    refine ⟨fun i m σ H => m = ds.length - i ∧ i ≤ ds.length ∧ ∃ env h F' ρ', Same F1 F' ∧ Pre ρ1 ρ' ∧ Rel K F' ρ' h H ∧ REnv K F' ρ' env σ ∧ Inv i env h, ⟨ds.length, by simp, Nat.zero_le _, env, h1, F1, ρ1, Same.refl _, Pre.refl _, r1, e1, i0⟩, ?_⟩
    rintro i m σ H ⟨rfl, hi, env, h, F', ρ', s, p, r, e', iv⟩
    have c := iC i env h iv
    by_cases hlt : i < ds.length
    · refine .inr ⟨it.go i F' ρ' h H s p r c hlt, fun σ' H' => ∃ env h F2 ρ2, Same F1 F2 ∧ Pre ρ1 ρ2 ∧ Rel K F2 ρ2 h H' ∧ REnv K F2 ρ2 env σ' ∧ Inv (i + 1) env h, fun σ' H' n => ⟨ds.length - (i + 1), by omega, rfl, hlt, n⟩, fun x H' hy => ?_⟩
      have hd : ds[i]? = some ds[i] := List.getElem?_eq_getElem hlt
      obtain ⟨F2, s2, r2, dx⟩ := it.yld i _ F' ρ' h H x H' s p r c hd hy
      refine turn i _ env h hd iv F2 ρ' σ H' x _ r2 (e'.mono s2 (Pre.refl _)) dx fun env3 h3 F3 ρ3 σ3 H3 s3 p3 r3 e3 q3 => ?_
      have ss : Same F1 F3 := s.trans (s2.trans s3)
      have pp : Pre ρ1 ρ3 := p.trans p3
      have kk := k.mono (s1.trans ss) (p1.trans pp)
      refine q3 F3 ρ3 σ3 H3 _ r3 e3 ⟨fun env4 h4 F4 ρ4 σ4 H4 s4 p4 r4 e4 q4 => ⟨env4, h4, F4, ρ4, ss.trans s4, pp.trans p4, r4, e4, q4⟩, kk.rt, kk.nx, fun env4 h4 F4 ρ4 σ4 H4 s4 p4 r4 e4 q4 => ⟨env4, h4, F4, ρ4, ss.trans s4, pp.trans p4, r4, e4, q4⟩⟩
    · have ei : i = ds.length := by omega
      subst ei
      exact .inl ⟨it.stop F' ρ' h H s p r c, k.nx env h F' ρ' σ H (s1.trans s) (p1.trans p) r e' (fin env h iv)⟩
theorem vs_while {c : TT} {tb : TS} {E : En} (Inv : Env' → Hs → Prop) (μ : Env' → Hs → Nat) (i0 : Inv env h)
    (turn : ∀ env h, Inv env h → VT K c env h fun b h1 => if b = true then VS K tb { E with nx := fun env' h' => Inv env' h' ∧ μ env' h' < μ env h, ct := fun env' h' => Inv env' h' ∧ μ env' h' < μ env h, bk := E.nx } env h1 else E.nx env h1) :
    VS K (tWhile c tb) E env h := fun F ρ σ H D' rl e k => by
  refine ⟨fun m σ H => ∃ env h F' ρ', Same F F' ∧ Pre ρ ρ' ∧ Rel K F' ρ' h H ∧ REnv K F' ρ' env σ ∧ Inv env h ∧ m = μ env h, ⟨_, env, h, F, ρ, Same.refl _, Pre.refl _, rl, e, i0, rfl⟩, ?_⟩
  rintro m σ H ⟨env, h, F', ρ', s, p, r, e', iv, rfl⟩
  refine turn env h iv F' ρ' σ H _ r e' fun b h1 F1 ρ1 H1 s1 p1 r1 q1 => ?_
  cases b with
  | true =>
    rw [if_pos rfl] at q1 ⊢
    refine ⟨fun σ' H' => ∃ env' h' F2 ρ2, Same F F2 ∧ Pre ρ ρ2 ∧ Rel K F2 ρ2 h' H' ∧ REnv K F2 ρ2 env' σ' ∧ Inv env' h' ∧ μ env' h' < μ env h, fun σ' H' ⟨env', h', F2, ρ2, s2, p2, r2, e2, iv2, lt⟩ => ⟨_, lt, env', h', F2, ρ2, s2, p2, r2, e2, iv2, rfl⟩, ?_⟩
    have kk := k.mono (s.trans s1) (p.trans p1)
    exact q1 F1 ρ1 σ H1 _ r1 (e'.mono s1 p1) ⟨fun env4 h4 F4 ρ4 σ4 H4 s4 p4 r4 e4 q4 => ⟨env4, h4, F4, ρ4, (s.trans s1).trans s4, (p.trans p1).trans p4, r4, e4, q4.1, q4.2⟩, kk.rt, kk.nx, fun env4 h4 F4 ρ4 σ4 H4 s4 p4 r4 e4 q4 => ⟨env4, h4, F4, ρ4, (s.trans s1).trans s4, (p.trans p1).trans p4, r4, e4, q4.1, q4.2⟩⟩
  | false =>
    rw [if_neg Bool.false_ne_true] at q1 ⊢
    exact k.nx env h1 F1 ρ1 σ H1 (s.trans s1) (p.trans p1) r1 (e'.mono s1 p1) q1
/-! ### comprehensions -/
/-- the target's slots: after the store they are the comprehension's alone -/
def TgOk (g : TG) (vs : List Nat) : Prop := ∀ (x : V) (σ : L2.St) (H : Hp) (Q : L2.St → Hp → Prop), g x (wipe σ vs) H Q → g x (wipe σ vs) H fun σ2 H2 => wipe σ2 vs = wipe σ vs ∧ Q σ2 H2
theorem set_none_none {σ : L2.St} {j : Nat} {x : Option V} : ((σ.set j none).set j x).set j none = σ.set j none := by rw [List.set_set, List.set_set]
theorem tg_name {j : Nat} : TgOk (gName j) [j] := fun x σ H Q q => ⟨set_none_none, q⟩
theorem wipe2 {σ : L2.St} {i j : Nat} {x y : Option V} : wipe (((wipe σ [i, j]).set i x).set j y) [i, j] = wipe σ [i, j] := by
  show (((((σ.set j none).set i none).set i x).set j y).set j none).set i none = (σ.set j none).set i none
  refine List.ext_getElem? fun k => ?_
  simp only [List.getElem?_set, List.length_set]
  by_cases e1 : i = k
  · subst e1
    simp
  · by_cases e2 : j = k
    · subst e2
      simp [e1]
    · simp [e1, e2]
theorem tg_tup2 {K : PySem.W.Frag} {i j : Nat} : TgOk (gTup K 2 (gCons (gName i) (gCons (gName j) gNil))) [i, j] := fun x σ H Q q => by
  obtain ⟨a, xs, e, sq, hl, v, r, e2, v2, r2, e3, e4, q⟩ := q
  exact ⟨a, xs, e, sq, hl, v, r, e2, v2, r2, e3, e4, wipe2, q⟩
/-- own slots of a comprehension forgotten -/
def wipeD (env : Env') : List Nat → Env'
  | [] => env
  | v :: vs => (wipeD env vs).set v none
theorem REnv.wipes {F : Hp} {ρ : List Addr} {σ : L2.St} (r : REnv K F ρ env σ) : ∀ vs : List Nat, REnv K F ρ (wipeD env vs) (L2.wipe σ vs)
  | [] => r
  | v :: vs => (REnv.wipes r vs).wipe
theorem Rel.pop {F : Hp} {ρ : List Addr} {h : Hs} {H : Hp} {p : Addr} {o : Option OO} (r : Rel K F (ρ ++ [p]) (h ++ [o]) H) (hl : ρ.length = h.length) (w : ∀ (i : Nat) (o : OO) (a : Addr), h[i]? = some (some o) → ρ[i]? = some a → ∀ u, RO K F (ρ ++ [p]) o u → RO K F ρ o u) : Rel K F ρ h H := by
  have lt : ∀ (i : Nat) (o' : OO), h[i]? = some (some o') → i < h.length := fun i o' e => (List.getElem?_eq_some_iff.mp e).1
  have up : ∀ (i : Nat) (o' : OO), h[i]? = some (some o') → (h ++ [o])[i]? = some (some o') := fun i o' e => by rw [List.getElem?_append_left (lt i o' e)]; exact e
  have pl : ∀ (i : Nat), i < h.length → (ρ ++ [p])[i]? = ρ[i]? := fun i hi => List.getElem?_append_left (by rw [hl]; exact hi)
  refine ⟨r.same, hl, fun i o' hi => ?_, fun i j o1 o2 a hi hj ha hb => r.inj i j o1 o2 a (up i o1 hi) (up j o2 hj) (by rw [pl i (lt i o1 hi)]; exact ha) (by rw [pl j (lt j o2 hj)]; exact hb)⟩
  obtain ⟨a, u, h1, h2, h3, h4⟩ := r.own i o' (up i o' hi)
  rw [pl i (lt i o' hi)] at h1
  exact ⟨a, u, h1, h2, h3, w i o' a hi h1 u h4⟩
theorem RA.low {F F0 : Hp} {ρ : List Addr} {p : Addr} : ∀ {ds : List D} {vs v0 : List V}, RA K F0 ρ ds v0 → RA K F (ρ ++ [p]) ds vs → RA K F ρ ds vs
  | _, _, _, .nil, .nil => .nil
  | _, _, _, .cons a r, .cons b s => .cons (by
      cases b with
      | p b => exact .p b
      | own b =>
        cases a with
        | own a =>
          have hl := (List.getElem?_eq_some_iff.mp a).1
          rw [List.getElem?_append_left hl] at b
          exact .own b) (RA.low r s)
theorem RF.low {F F0 : Hp} {ρ : List Addr} {p : Addr} : ∀ {ds : List (Str × D)} {vs v0 : List (Str × V)}, RF K F0 ρ ds v0 → RF K F (ρ ++ [p]) ds vs → RF K F ρ ds vs
  | _, _, _, .nil, .nil => .nil
  | _, _, _, .cons a r, .cons b s => .cons (by
      cases b with
      | p b => exact .p b
      | own b =>
        cases a with
        | own a =>
          have hl := (List.getElem?_eq_some_iff.mp a).1
          rw [List.getElem?_append_left hl] at b
          exact .own b) (RF.low r s)
theorem RO.low {F F0 : Hp} {ρ : List Addr} {p : Addr} {o : OO} {u u0 : HO} (a : RO K F0 ρ o u0) (b : RO K F (ρ ++ [p]) o u) : RO K F ρ o u := by
  cases o with
  | lst xs =>
    obtain ⟨v0, _, r0⟩ := a
    obtain ⟨vs, e, r⟩ := b
    exact ⟨vs, e, r0.low r⟩
  | ins C fs =>
    obtain ⟨d0, g0, _, r0⟩ := a
    obtain ⟨dx, gs, e, r⟩ := b
    exact ⟨dx, gs, e, r0.low r⟩
theorem pre_eq {ρ ρ' : List Addr} (p : Pre ρ ρ') (hl : ρ'.length = ρ.length) : ρ' = ρ := by
  refine List.ext_getElem? fun i => ?_
  cases e : ρ[i]? with
  | some a => exact p i a e
  | none =>
    rw [List.getElem?_eq_none_iff] at e ⊢
    omega
theorem filterMap_succ {α : Type} (f : Nat → Option α) (n : Nat) : (List.range (n + 1)).filterMap f = (List.range n).filterMap f ++ (f n).toList := by
  rw [List.range_succ, List.filterMap_append]
  cases e : f n <;> simp [List.filterMap, e]
/-- what one turn of a comprehension must do: the heap as it was, the item fs i or none -/
def LcTurn (K : PySem.W.Frag) (g : TG) (tt : TT) (te : TE) (env : Env') (d : D) (h : Hs) (o : Option P) : Prop :=
  VG K g d env h fun env' h' => h' = h ∧ VT K tt env' h' fun b h2 => h2 = h' ∧ if b = true then VE K te env' h2 (fun y h3 => h3 = h2 ∧ ∃ p, y = .p p ∧ o = some p) else o = none
theorem lc_run {wi : TI} {g : TG} {tt : TT} {te : TE} {vs : List Nat} (tg : TgOk g vs) {F : Hp} {ρ : List Addr} {σ : L2.St} {H1 : Hp} {ds : List D} {C : Hs → Prop} {h1 : Hs} {J : It} (Q : VK)
    (r1 : Rel K F ρ h1 H1) (e : REnv K F ρ env σ) (it : ItOk K F ρ C ds J) (fs : Nat → Option P) (hl : ds.length < sizeLine) (hC : ∀ acc, C (h1 ++ [some (.lst acc)]))
    (turn : ∀ i d acc, ds[i]? = some d → LcTurn K g tt te (wipeD env vs) d (h1 ++ [some (.lst acc)]) (fs i))
    (fin : ∀ (p : Addr) (F' : Hp) (us : List V) (H : Hp), Same F F' → F' p = none → H p = some (.lst us) → H1 p = none → Rel K F' (ρ ++ [p]) (h1 ++ [some (.lst (((List.range ds.length).filterMap fs).map D.p))]) H → RPs K F' ((List.range ds.length).filterMap fs) us → Rel K F' ρ h1 H → Q (.ref p) H) :
    ∀ D, H1 D = none → ∃ W : Nat → Nat → Hp → Prop, (∃ m, W 0 m (upd H1 D (.lst []))) ∧ ∀ i m H, W i m H → (J.stop i H ∧ Q (.ref D) H) ∨
      (J.go i H ∧ ∃ Nx : Hp → Prop, (∀ H', Nx H' → ∃ m', m' < m ∧ W (i + 1) m' H') ∧ ∀ x H', J.yld i H x H' → g x (wipe σ vs) H' fun σ2 H2 => wipe σ2 vs = wipe σ vs ∧ tt σ2 H2 fun b H3 => if b = true then te σ2 H3 fun y H4 => ∃ acc, H4 D = some (.lst acc) ∧ acc.length < sizeLine ∧ Nx (upd H4 D (.lst (acc ++ [y]))) else Nx H3) := by
  intro p hp
  have hn : (h1 ++ [some (OO.lst [])])[h1.length]? = some (some (.lst [])) := by simp
  refine ⟨fun i m H => m = ds.length - i ∧ i ≤ ds.length ∧ ∃ F', Same F F' ∧ Rel K F' (ρ ++ [p]) (h1 ++ [some (.lst (((List.range i).filterMap fs).map D.p))]) H, ⟨ds.length, by simp, Nat.zero_le _, F, Same.refl _, r1.push (o := .lst []) hp ⟨[], rfl, .nil⟩⟩, ?_⟩
  rintro i m H ⟨rfl, hi, F', s, r⟩
  have hpl : (ρ ++ [p])[h1.length]? = some p := by rw [← r1.len]; simp
  have got : ∀ (F' : Hp) (H : Hp) (xs : List D), Rel K F' (ρ ++ [p]) (h1 ++ [some (.lst xs)]) H → ∃ us, H p = some (.lst us) ∧ F' p = none ∧ RA K F' (ρ ++ [p]) xs us := fun F' H xs r => by
    obtain ⟨a, u, e1, e2, e3, us, e4, e5⟩ := r.own h1.length (.lst xs) (by simp)
    rw [hpl] at e1; cases e1
    subst e4
    exact ⟨us, e3, e2, e5⟩
  by_cases hlt : i < ds.length
  · refine .inr ⟨it.go i F' (ρ ++ [p]) _ H s (Pre.push _ _) r (hC _) hlt, fun H' => ∃ F2, Same F F2 ∧ Rel K F2 (ρ ++ [p]) (h1 ++ [some (.lst (((List.range (i + 1)).filterMap fs).map D.p))]) H', fun H' ⟨F2, s2, r2⟩ => ⟨ds.length - (i + 1), by omega, rfl, hlt, F2, s2, r2⟩, fun x H' hy => ?_⟩
    have hd : ds[i]? = some ds[i] := List.getElem?_eq_getElem hlt
    obtain ⟨F2, s2, r2, dx⟩ := it.yld i _ F' (ρ ++ [p]) _ H x H' s (Pre.push _ _) r (hC _) hd hy
    refine tg x σ H' _ ?_
    refine turn i _ _ hd F2 (ρ ++ [p]) (wipe σ vs) H' x _ r2 ((e.mono (s.trans s2) (Pre.push _ _)).wipes vs) dx fun env3 h3 F3 ρ3 σ3 H3 s3 p3 r3 e3 q3 => ?_
    obtain ⟨rfl, q3⟩ := q3
    have eρ : ρ3 = ρ ++ [p] := pre_eq p3 (by rw [r3.len, r2.len])
    subst eρ
    refine q3 F3 _ σ3 H3 _ r3 e3 fun b h4 F4 ρ4 H4 s4 p4 r4 q4 => ?_
    obtain ⟨rfl, q4⟩ := q4
    have eρ : ρ4 = ρ ++ [p] := pre_eq p4 (by rw [r4.len, r3.len])
    subst eρ
    have ss : Same F F4 := s.trans (s2.trans (s3.trans s4))
    cases b with
    | true =>
      rw [if_pos rfl] at q4 ⊢
      refine q4 F4 _ σ3 H4 _ r4 (e3.mono s4 p4) fun y h5 v F5 ρ5 H5 s5 p5 r5 dv q5 => ?_
      obtain ⟨rfl, pp, rfl, ef⟩ := q5
      have eρ : ρ5 = ρ ++ [p] := pre_eq p5 (by rw [r5.len, r4.len])
      subst eρ
      obtain ⟨us, g1, g2, g3⟩ := got F5 H5 _ r5
      refine ⟨us, g1, ?_, F5, ss.trans s5, ?_⟩
      · rw [← g3.len, List.length_map]
        have := List.length_filterMap_le fs (List.range i)
        rw [List.length_range] at this
        omega
      · have z := r5.put (i := h1.length) (o := .lst (((List.range i).filterMap fs).map D.p)) (o' := .lst (((List.range (i + 1)).filterMap fs).map D.p)) (by simp) hpl ⟨us ++ [v], rfl, by
          rw [filterMap_succ, ef, List.map_append]
          exact g3.append (.cons dv .nil)⟩
        rw [List.set_append_right _ _ (Nat.le_refl _), Nat.sub_self] at z
        exact z
    | false =>
      rw [if_neg Bool.false_ne_true] at q4 ⊢
      refine ⟨F4, ss, ?_⟩
      rw [filterMap_succ, q4]
      simpa using r4
  · have ei : i = ds.length := by omega
    subst ei
    refine .inl ⟨it.stop F' (ρ ++ [p]) _ H s (Pre.push _ _) r (hC _), ?_⟩
    obtain ⟨us, g1, g2, g3⟩ := got F' H _ r
    refine fin p F' us H s g2 g1 hp r g3.pure (r.pop r1.len fun i o a hi ha u q => ?_)
    obtain ⟨a0, u0, f1, f2, f3, f4⟩ := r1.own i o hi
    exact f4.low q
/-- [..]: a new list that stays as it is -/
theorem ve_lc {wi : TI} {g : TG} {tt : TT} {te : TE} {vs : List Nat} (tg : TgOk g vs)
    (q : VI K wi env h fun ds C h1 => ∃ fs : Nat → Option P, ds.length < sizeLine ∧ (∀ acc, C (h1 ++ [some (.lst acc)])) ∧
      (∀ i d acc, ds[i]? = some d → LcTurn K g tt te (wipeD env vs) d (h1 ++ [some (.lst acc)]) (fs i)) ∧ R (dL ((List.range ds.length).filterMap fs)) h1) : VE K (tLc wi g tt te vs) env h R := fun F ρ σ H Q rl e k =>
  q F ρ σ H _ rl e fun ds C h1 J F1 ρ1 H1 s1 p1 r1 it q1 => by
    obtain ⟨fs, hl, hC, turn, q1⟩ := q1
    refine lc_run (wi := wi) tg Q r1 (e.mono s1 p1) it fs hl hC turn fun p F' us H s hn hp hp1 r rp r2 => ?_
    have sn : Same F' (upd F' p (.lst us)) := same_new hn
    refine k _ h1 (.ref p) (upd F' p (.lst us)) ρ1 H (s1.trans (s.trans sn)) p1 ?_ (.p (.lst (.of upd_same) (rp.mono sn))) q1
    refine ⟨fun b o e => ?_, r2.len, fun i o hi => ?_, r2.inj⟩
    · by_cases hb : b = p
      · subst hb; rw [upd_same] at e; rw [hp]; exact e
      · rw [upd_ne hb] at e; exact r2.same b o e
    · obtain ⟨a, u, f1, f2, f3, f4⟩ := r2.own i o hi
      have ha : a ≠ p := fun z => by
        subst z
        obtain ⟨a0, u0, g1, g2, g3, g4⟩ := r1.own i o hi
        rw [f1] at g1; cases g1
        rw [hp1] at g3; cases g3
      exact ⟨a, u, f1, by rw [upd_ne ha]; exact f2, f3, f4.mono sn (Pre.refl _)⟩
/-- [..]: a new list that is owned -/
theorem ve_lcO {wi : TI} {g : TG} {tt : TT} {te : TE} {vs : List Nat} (tg : TgOk g vs)
    (q : VI K wi env h fun ds C h1 => ∃ fs : Nat → Option P, ds.length < sizeLine ∧ (∀ acc, C (h1 ++ [some (.lst acc)])) ∧
      (∀ i d acc, ds[i]? = some d → LcTurn K g tt te (wipeD env vs) d (h1 ++ [some (.lst acc)]) (fs i)) ∧ R (.own h1.length) (h1 ++ [some (.lst (((List.range ds.length).filterMap fs).map D.p))])) : VE K (tLc wi g tt te vs) env h R := fun F ρ σ H Q rl e k =>
  q F ρ σ H _ rl e fun ds C h1 J F1 ρ1 H1 s1 p1 r1 it q1 => by
    obtain ⟨fs, hl, hC, turn, q1⟩ := q1
    refine lc_run (wi := wi) tg Q r1 (e.mono s1 p1) it fs hl hC turn fun p F' us H s hn hp hp1 r rp r2 => ?_
    exact k _ _ (.ref p) F' (ρ1 ++ [p]) H (s1.trans s) (p1.trans (Pre.push _ _)) r (.own (by rw [← r1.len]; simp)) q1
end
end Kb

/-! Operations upon data. -/
namespace Kb
open PySem PySem.Spec PyProof.Rows L2
section
variable {X : Cx}
def rAddS' : R2 := fun x y H Q => ∃ i j, x = .str i ∧ y = .str j ∧ i.length + j.length ≤ sizeLine ∧ Q (.str (i ++ j)) H
def rAddI : R2 := rI0 fun i j => .int (i + j)
def rAddU (K : PySem.W.Frag) : R2 := fun x y H Q => rAddI x y H Q ∨ (rAddS' x y H Q ∨ (rCatT K x y H Q ∨ rCat x y H Q))
theorem op_addU : OpR X (binaryOp .Add) (rAddU X.K) := OpR.or (r := rAddI) op_add (OpR.or (r := rAddS') op_add_str (op_catT.or op_cat))
def rEqU (K : PySem.W.Frag) : R2 := fun x y H Q => rEq x y H Q ∨ rEqD K x y H Q
def rNeU (K : PySem.W.Frag) : R2 := fun x y H Q => rNe x y H Q ∨ rNeD K x y H Q
theorem op_eqU (hu : X.A.units + 64 < cLine) : OpR X (compareOp .Eq) (rEqU X.K) := op_eq.or (op_eqD hu)
theorem op_neU (hu : X.A.units + 64 < cLine) : OpR X (compareOp .NotEq) (rNeU X.K) := op_ne.or (op_neD hu)
def rInSg : R2 := fun x y H Q => ∃ (c : Nat) (z : Str), x = .str ⟨#[c]⟩ ∧ y = .str z ∧ Q (.bl (decide (c ∈ z.cps.toList))) H
def rInU (K : PySem.W.Frag) : R2 := fun x y H Q => rIn K false x y H Q ∨ rInSg x y H Q
def rNiSg : R2 := fun x y H Q => ∃ (c : Nat) (z : Str), x = .str ⟨#[c]⟩ ∧ y = .str z ∧ Q (.bl (!decide (c ∈ z.cps.toList))) H
def rNiU (K : PySem.W.Frag) : R2 := fun x y H Q => rIn K true x y H Q ∨ rNiSg x y H Q
theorem op_inU : OpR X (compareOp .In) (rInU X.K) := OpR.or op_in_seq op_in_sign
theorem op_ninU : OpR X (compareOp .NotIn) (rNiU X.K) := OpR.or op_notIn_seq op_notIn_sign
def rInt1 : List V → Hp → VK → Prop := fun xs H Q => (∃ i, xs = [.int i] ∧ Q (.int i) H) ∨ ∃ k, xs = [.bl k] ∧ Q (.int (if k then 1 else 0)) H
def rIntS : List V → Hp → VK → Prop := fun xs H Q => ∃ a n, xs = [.str a] ∧ PySem.intText? a = some n ∧ a.length ≤ 640 ∧ Q (.int n) H
def rIntU : List V → Hp → VK → Prop := fun xs H Q => rInt1 xs H Q ∨ rIntS xs H Q
theorem call_intU : CallR X (.type "int") rIntU := CallR.or (r := rInt1) (r' := rIntS) call_int1 call_int_str
def rIsiU (K : PySem.W.Frag) : List V → Hp → VK → Prop := fun xs H Q => rIsi K xs H Q ∨ rIsiT K xs H Q
theorem call_isiU : CallR X (.builtin "isinstance") (rIsiU X.K) := call_isi.or call_isiT
def rStrI : List V → Hp → VK → Prop := fun xs H Q => ∃ i, xs = [.int i] ∧ i.natAbs.log2 < 1920 ∧ Q (.str (toString i)) H
def rLenU (K : PySem.W.Frag) : List V → Hp → VK → Prop := fun xs H Q => ∃ x n, xs = [x] ∧ LenV K x H n ∧ Q (.int n) H
end
section
variable {K : PySem.W.Frag} {env : Env'} {h : Hs} {R : D → Hs → Prop} {x y d : D}
/-! ### two operands -/
theorem v2_I {C : Int → Int → Prop} {g : Int → Int → Int} {i j : Int} (c : C i j) (q : R (dI (g i j)) h) : V2 K (rI C fun i j => .int (g i j)) (dI i) (dI j) h R := fun F ρ H vx vy Q rl a b k => by
  obtain rfl := a.int
  obtain rfl := b.int
  exact ⟨i, j, rfl, rfl, c, k _ h _ F ρ H (Same.refl _) (Pre.refl _) rl (.p (.int _)) q⟩
theorem v2_I0 {g : Int → Int → Int} {i j : Int} (q : R (dI (g i j)) h) : V2 K (rI0 fun i j => .int (g i j)) (dI i) (dI j) h R := fun F ρ H vx vy Q rl a b k => by
  obtain rfl := a.int
  obtain rfl := b.int
  exact ⟨i, j, rfl, rfl, k _ h _ F ρ H (Same.refl _) (Pre.refl _) rl (.p (.int _)) q⟩
theorem v2_B0 {g : Int → Int → Bool} {i j : Int} (q : R (dB (g i j)) h) : V2 K (rI0 fun i j => .bl (g i j)) (dI i) (dI j) h R := fun F ρ H vx vy Q rl a b k => by
  obtain rfl := a.int
  obtain rfl := b.int
  exact ⟨i, j, rfl, rfl, k _ h _ F ρ H (Same.refl _) (Pre.refl _) rl (.p (.bl _)) q⟩
theorem v2_ip {g : Int → Int → Int} {i j : Int} (q : R (dI (g i j)) h) : V2 K (ipI g) (dI i) (dI j) h R := fun F ρ H vx vy Q rl a b k => by
  obtain rfl := a.int
  obtain rfl := b.int
  exact ⟨i, j, rfl, rfl, k _ h _ F ρ H (Same.refl _) (Pre.refl _) rl (.p (.int _)) q⟩
theorem v2_or1 {r r' : R2} (q : V2 K r x y h R) : V2 K (fun x y H Q => r x y H Q ∨ r' x y H Q) x y h R := fun F ρ H vx vy Q rl a b k => .inl (q F ρ H vx vy Q rl a b k)
theorem v2_or2 {r r' : R2} (q : V2 K r' x y h R) : V2 K (fun x y H Q => r x y H Q ∨ r' x y H Q) x y h R := fun F ρ H vx vy Q rl a b k => .inr (q F ρ H vx vy Q rl a b k)
theorem v2_addI {i j : Int} (q : R (dI (i + j)) h) : V2 K (rAddU K) (dI i) (dI j) h R := v2_or1 (v2_I0 q)
theorem v2_addS {i j : Str} (hl : i.length + j.length ≤ sizeLine) (q : R (dS (i ++ j)) h) : V2 K (rAddU K) (dS i) (dS j) h R := v2_or2 (v2_or1 fun F ρ H vx vy Q rl a b k => by
  obtain rfl := a.str
  obtain rfl := b.str
  exact ⟨i, j, rfl, rfl, hl, k _ h _ F ρ H (Same.refl _) (Pre.refl _) rl (.p (.str _)) q⟩)
theorem v2_addT {i j : List P} (hn : i ≠ []) (hl : i.length + j.length ≤ sizeLine) (q : R (dT (i ++ j)) h) : V2 K (rAddU K) (dT i) (dT j) h R := v2_or2 (v2_or2 (v2_or1 fun F ρ H vx vy Q rl a b k => by
  cases a with
  | p a =>
    cases b with
    | p b =>
      cases a with
      | tup a1 a2 =>
        cases b with
        | tup b1 b2 =>
          refine ⟨_, _, _, _, rfl, rfl, sqT_mono rl.same a1, sqT_mono rl.same b1, fun z => ?_, by rw [← a2.len, ← b2.len]; exact hl, fun z => ?_, fun z p hp => ?_⟩
          · subst z; cases a2; exact hn rfl
          · subst z; cases b2
            rw [List.append_nil] at q
            exact k _ h _ F ρ H (Same.refl _) (Pre.refl _) rl (.p (.tup a1 a2)) q
          · have sn := fun o => same_new (o := o) (rl.free hp)
            exact k _ h _ _ ρ _ (sn _) (Pre.refl _) (rl.frz hp) (.p (.tup (.of upd_same) ((a2.append b2).mono (sn _)))) q))
theorem v2_eqI {i j : Int} (q : R (dB (decide (i = j))) h) : V2 K (rEqU K) (dI i) (dI j) h R := v2_or1 fun F ρ H vx vy Q rl a b k => by
  obtain rfl := a.int
  obtain rfl := b.int
  refine ⟨rfl, ?_⟩
  have e : decide (V.int i = V.int j) = decide (i = j) := decide_eq_decide.mpr ⟨V.int.inj, congrArg V.int⟩
  rw [e]
  exact k _ h _ F ρ H (Same.refl _) (Pre.refl _) rl (.p (.bl _)) q
theorem v2_eqB {i j : Bool} (q : R (dB (decide (i = j))) h) : V2 K (rEqU K) (dB i) (dB j) h R := v2_or1 fun F ρ H vx vy Q rl a b k => by
  obtain rfl := a.bl
  obtain rfl := b.bl
  refine ⟨rfl, ?_⟩
  have e : decide (V.bl i = V.bl j) = decide (i = j) := decide_eq_decide.mpr ⟨V.bl.inj, congrArg V.bl⟩
  rw [e]
  exact k _ h _ F ρ H (Same.refl _) (Pre.refl _) rl (.p (.bl _)) q
theorem v2_eqS {i j : Str} (q : R (dB (decide (i = j))) h) : V2 K (rEqU K) (dS i) (dS j) h R := v2_or1 fun F ρ H vx vy Q rl a b k => by
  obtain rfl := a.str
  obtain rfl := b.str
  refine ⟨rfl, ?_⟩
  have e : decide (V.str i = V.str j) = decide (i = j) := decide_eq_decide.mpr ⟨V.str.inj, congrArg V.str⟩
  rw [e]
  exact k _ h _ F ρ H (Same.refl _) (Pre.refl _) rl (.p (.bl _)) q
theorem v2_neI {i j : Int} (q : R (dB (!decide (i = j))) h) : V2 K (rNeU K) (dI i) (dI j) h R := v2_or1 fun F ρ H vx vy Q rl a b k => by
  obtain rfl := a.int
  obtain rfl := b.int
  refine ⟨rfl, ?_⟩
  have e : decide (V.int i = V.int j) = decide (i = j) := decide_eq_decide.mpr ⟨V.int.inj, congrArg V.int⟩
  rw [e]
  exact k _ h _ F ρ H (Same.refl _) (Pre.refl _) rl (.p (.bl _)) q
theorem v2_neB {i j : Bool} (q : R (dB (!decide (i = j))) h) : V2 K (rNeU K) (dB i) (dB j) h R := v2_or1 fun F ρ H vx vy Q rl a b k => by
  obtain rfl := a.bl
  obtain rfl := b.bl
  refine ⟨rfl, ?_⟩
  have e : decide (V.bl i = V.bl j) = decide (i = j) := decide_eq_decide.mpr ⟨V.bl.inj, congrArg V.bl⟩
  rw [e]
  exact k _ h _ F ρ H (Same.refl _) (Pre.refl _) rl (.p (.bl _)) q
theorem v2_neS {i j : Str} (q : R (dB (!decide (i = j))) h) : V2 K (rNeU K) (dS i) (dS j) h R := v2_or1 fun F ρ H vx vy Q rl a b k => by
  obtain rfl := a.str
  obtain rfl := b.str
  refine ⟨rfl, ?_⟩
  have e : decide (V.str i = V.str j) = decide (i = j) := decide_eq_decide.mpr ⟨V.str.inj, congrArg V.str⟩
  rw [e]
  exact k _ h _ F ρ H (Same.refl _) (Pre.refl _) rl (.p (.bl _)) q
/-- data as the library compares them -/
def pyOf : P → PyData
  | .non => .none
  | .bl b => .bool b
  | .int i => .int i
  | .str s => .str s
  | .tup xs => .tuple (pyOfs xs)
  | .lst xs => .list (pyOfs xs)
  | .ins _ _ => .none
  | .ty _ => .none
  | .cls _ => .none
where pyOfs : List P → List PyData
  | [] => []
  | x :: xs => pyOf x :: pyOfs xs
/-- None, bools, ints, texts, tuples and lists of these -/
def plainP : P → Bool
  | .non => true
  | .bl _ => true
  | .int _ => true
  | .str _ => true
  | .tup xs => plainPs xs
  | .lst xs => plainPs xs
  | _ => false
where plainPs : List P → Bool
  | [] => true
  | x :: xs => plainP x && plainPs xs
mutual
theorem RP.dp {F H : Hp} (s : Same F H) : ∀ {x : P} {v : V}, RP K F x v → plainP x = true → Dp K H v (pyOf x)
  | _, _, .non, _ => .non
  | _, _, .bl b, _ => .bl b
  | _, _, .int i, _ => .int i
  | _, _, .str i, _ => .str i
  | .tup xs, _, .tup a r, c => .tup (sqT_mono s a) (RPs.dp s r (by unfold plainP at c; exact c))
  | .lst xs, _, .lst a r, c => .lst (s.seq a) (RPs.dp s r (by unfold plainP at c; exact c))
  | _, _, .ins _ _, c => by simp [plainP] at c
  | _, _, .ty _, c => by simp [plainP] at c
  | _, _, .cls _, c => by simp [plainP] at c
theorem RPs.dp {F H : Hp} (s : Same F H) : ∀ {xs : List P} {vs : List V}, RPs K F xs vs → plainP.plainPs xs = true → DpAll K H vs (pyOf.pyOfs xs)
  | _, _, .nil, _ => .nil
  | x :: xs, _, .cons a r, c => by
    unfold plainP.plainPs at c
    rw [Bool.and_eq_true] at c
    exact .cons (RP.dp s a c.1) (RPs.dp s r c.2)
end
theorem v2_eqP {x y : P} (hx : plainP x = true) (hy : plainP y = true) (sx : SeqAt.shaped (pyOf x) = true) (sy : SeqAt.shaped (pyOf y) = true) (q : R (dB (PyData.eqv (pyOf x) (pyOf y))) h) : V2 K (rEqU K) (.p x) (.p y) h R := v2_or2 fun F ρ H vx vy Q rl a b k => by
  cases a with
  | p a =>
    cases b with
    | p b => exact ⟨_, _, a.dp rl.same hx, b.dp rl.same hy, sx, sy, k _ h _ F ρ H (Same.refl _) (Pre.refl _) rl (.p (.bl _)) q⟩
theorem v2_neP {x y : P} (hx : plainP x = true) (hy : plainP y = true) (sx : SeqAt.shaped (pyOf x) = true) (sy : SeqAt.shaped (pyOf y) = true) (q : R (dB (!PyData.eqv (pyOf x) (pyOf y))) h) : V2 K (rNeU K) (.p x) (.p y) h R := v2_or2 fun F ρ H vx vy Q rl a b k => by
  cases a with
  | p a =>
    cases b with
    | p b => exact ⟨_, _, a.dp rl.same hx, b.dp rl.same hy, sx, sy, k _ h _ F ρ H (Same.refl _) (Pre.refl _) rl (.p (.bl _)) q⟩
/-- is it None -/
def isNonD : D → Bool
  | .p .non => true
  | _ => false
theorem isNon_v {F : Hp} {ρ : List Addr} {d : D} {v : V} (a : RD K F ρ d v) : decide (v = .non) = isNonD d := by
  cases a with
  | p a => cases a <;> rfl
  | own _ => rfl
theorem v2_isN (q : R (dB (isNonD x)) h) : V2 K (fun x y H Q => y = V.non ∧ Q (.bl (decide (x = .non))) H) x dN h R := fun F ρ H vx vy Q rl a b k => by
  obtain rfl := b.non
  refine ⟨rfl, ?_⟩
  rw [isNon_v a]
  exact k _ h _ F ρ H (Same.refl _) (Pre.refl _) rl (.p (.bl _)) q
theorem v2_notN (q : R (dB (!isNonD x)) h) : V2 K (fun x y H Q => y = V.non ∧ Q (.bl (!decide (x = .non))) H) x dN h R := fun F ρ H vx vy Q rl a b k => by
  obtain rfl := b.non
  refine ⟨rfl, ?_⟩
  rw [isNon_v a]
  exact k _ h _ F ρ H (Same.refl _) (Pre.refl _) rl (.p (.bl _)) q
theorem v1_U {g : Int → Int} {i : Int} (q : R (dI (g i)) h) : V1 K (rU fun i => .int (g i)) (dI i) h R := fun F ρ H vx Q rl a k => by
  obtain rfl := a.int
  exact ⟨i, rfl, k _ h _ F ρ H (Same.refl _) (Pre.refl _) rl (.p (.int _)) q⟩
/-! ### items -/
theorem RPs.at_ {F : Hp} {ds : List P} {vs : List V} {i : Int} {d : P} (r : RPs K F ds vs) (h : atI ds i = some d) : ∃ v, atI vs i = some v ∧ RP K F d v := by
  unfold atI at h ⊢
  rw [← r.len]
  cases e : ixN ds.length i with
  | none => rw [e] at h; cases h
  | some j =>
    rw [e] at h
    exact r.get h
theorem RA.at_ {F : Hp} {ρ : List Addr} {ds : List D} {vs : List V} {i : Int} {d : D} (r : RA K F ρ ds vs) (h : atI ds i = some d) : ∃ v, atI vs i = some v ∧ RD K F ρ d v := by
  unfold atI at h ⊢
  rw [← r.len]
  cases e : ixN ds.length i with
  | none => rw [e] at h; cases h
  | some j =>
    rw [e] at h
    exact r.get h
theorem v2_ixL {xs : List P} {i : Int} {p : P} (ha : atI xs i = some p) (q : R (.p p) h) : V2 K (rIx K) (dL xs) (dI i) h R := fun F ρ H vx vy Q rl a b k => by
  obtain rfl := b.int
  cases a with
  | p a =>
    cases a with
    | lst a r =>
      obtain ⟨v, h1, h2⟩ := r.at_ ha
      exact .inl ⟨_, _, i, v, rfl, rfl, rl.same.seq a, h1, k _ h _ F ρ H (Same.refl _) (Pre.refl _) rl (.p h2) q⟩
theorem v2_ixT {xs : List P} {i : Int} {p : P} (ha : atI xs i = some p) (q : R (.p p) h) : V2 K (rIx K) (dT xs) (dI i) h R := fun F ρ H vx vy Q rl a b k => by
  obtain rfl := b.int
  cases a with
  | p a =>
    cases a with
    | tup a r =>
      obtain ⟨v, h1, h2⟩ := r.at_ ha
      exact .inr (.inl ⟨_, _, i, v, rfl, rfl, sqT_mono rl.same a, h1, k _ h _ F ρ H (Same.refl _) (Pre.refl _) rl (.p h2) q⟩)
theorem v2_ixS {z : Str} {i : Int} {c : Nat} (hl : z.length ≤ sizeLine) (ha : atI z.cps.toList i = some c) (q : R (dS ⟨#[c]⟩) h) : V2 K (rIx K) (dS z) (dI i) h R := fun F ρ H vx vy Q rl a b k => by
  obtain rfl := a.str
  obtain rfl := b.int
  exact .inr (.inr ⟨z, i, c, rfl, rfl, hl, ha, k _ h _ F ρ H (Same.refl _) (Pre.refl _) rl (.p (.str _)) q⟩)
theorem v2_ixO {n : Nat} {xs : List D} {i : Int} (hn : h[n]? = some (some (.lst xs))) (ha : atI xs i = some d) (q : R d h) : V2 K (rIx K) (.own n) (dI i) h R := fun F ρ H vx vy Q rl a b k => by
  obtain rfl := b.int
  cases a with
  | own a =>
    obtain ⟨p, u, e1, e2, e3, vs, e4, e5⟩ := rl.own _ _ hn
    rw [a] at e1; cases e1
    subst e4
    obtain ⟨v, h1, h2⟩ := e5.at_ ha
    exact .inl ⟨_, _, i, v, rfl, rfl, .of e3, h1, k _ h _ F ρ H (Same.refl _) (Pre.refl _) rl h2 q⟩
/-! ### slices -/
def VO (K : PySem.W.Frag) (to : TO) (env : Env') (h : Hs) (R : Option Int → Hs → Prop) : Prop :=
  ∀ (F : Hp) (ρ : List Addr) (σ : L2.St) (H : Hp) (Q : Option Int → Hp → Prop), Rel K F ρ h H → REnv K F ρ env σ →
    (∀ (d : Option Int) (h' : Hs) (F' : Hp) (ρ' : List Addr) (H' : Hp), Same F F' → Pre ρ ρ' → Rel K F' ρ' h' H' → R d h' → Q d H') → to σ H Q
theorem vo_none {R : Option Int → Hs → Prop} (q : R none h) : VO K tNoPart env h R := fun F ρ σ H Q rl e k => k none h F ρ H (Same.refl _) (Pre.refl _) rl q
theorem vo_some {te : TE} {R : Option Int → Hs → Prop} (q : VE K te env h fun x h1 => ∃ i, x = dI i ∧ R (some i) h1) : VO K (tPart te) env h R := fun F ρ σ H Q rl e k =>
  q F ρ σ H _ rl e fun x h1 v F1 ρ1 H1 s1 p1 r1 dx q1 => by
    obtain ⟨i, rfl, q1⟩ := q1
    obtain rfl := dx.int
    exact ⟨i, rfl, k _ h1 F1 ρ1 H1 s1 p1 r1 q1⟩
def cutP {α : Type} (xs : List α) (lo hi : Option Int) : List α := (xs.drop (HT.sIx xs.length 0 lo)).take (HT.sIx xs.length xs.length hi - HT.sIx xs.length 0 lo)
theorem RPs.cut {F : Hp} {xs : List P} {vs : List V} (r : RPs K F xs vs) (lo hi : Option Int) : RPs K F (cutP xs lo hi) (cutV vs lo hi) := by
  unfold cutP cutV
  rw [r.len]
  exact (r.drop _).take _
theorem cut_len {α : Type} (xs : List α) (lo hi : Option Int) : (cutP xs lo hi).length ≤ xs.length := by
  unfold cutP
  rw [List.length_take, List.length_drop]
  omega
theorem ve_slL {te : TE} {tl th : TO} (q : VE K te env h fun x h1 => VO K tl env h1 fun lo h2 => VO K th env h2 fun hi h3 => ∃ xs, x = dL xs ∧ R (dL (cutP xs lo hi)) h3) : VE K (tSl (rSlL K) te tl th) env h R := fun F ρ σ H Q rl e k =>
  q F ρ σ H _ rl e fun x h1 v F1 ρ1 H1 s1 p1 r1 dx q1 => q1 F1 ρ1 σ H1 _ r1 (e.mono s1 p1) fun lo h2 F2 ρ2 H2 s2 p2 r2 q2 => q2 F2 ρ2 σ H2 _ r2 (e.mono (s1.trans s2) (p1.trans p2)) fun hi h3 F3 ρ3 H3 s3 p3 r3 q3 => by
    obtain ⟨xs, rfl, q3⟩ := q3
    have dx3 := dx.mono (s2.trans s3) (p2.trans p3)
    cases dx3 with
    | p a =>
      cases a with
      | lst a r =>
        refine ⟨_, _, rfl, r3.same.seq a, fun p hp => ?_⟩
        have sn := fun o => same_new (o := o) (r3.free hp)
        exact k _ h3 _ _ ρ3 _ ((s1.trans (s2.trans s3)).trans (sn _)) (p1.trans (p2.trans p3)) (r3.frz hp) (.p (.lst (.of upd_same) ((r.cut lo hi).mono (sn _)))) q3
/-! ### calls of built-ins -/
theorem vc_len {n : Nat} (l : match x with | .p (.str y) => y.length ≤ sizeLine ∧ n = y.length | .p (.lst xs) => n = xs.length | .p (.tup xs) => n = xs.length | .own i => ∃ xs, h[i]? = some (some (.lst xs)) ∧ n = xs.length | _ => False) (q : R (dI n) h) :
    VC K (fun xs H Q => ∃ x n, xs = [x] ∧ LenV K x H n ∧ Q (.int n) H) [x] h R := fun F ρ H vs Q rl a k => by
  cases a with
  | cons a b =>
    cases b
    have fin : ∀ v : V, LenV K v H n → ∃ x n, [v] = [x] ∧ LenV K x H n ∧ Q (.int n) H := fun v l => ⟨v, n, rfl, l, k _ h _ F ρ H (Same.refl _) (Pre.refl _) rl (.p (.int _)) q⟩
    cases a with
    | p a =>
      cases a with
      | str s => exact fin _ l
      | lst a r => exact fin _ (.inl ⟨_, rl.same.seq a, by rw [← r.len]; exact l⟩)
      | tup a r => exact fin _ (.inr ⟨_, sqT_mono rl.same a, by rw [← r.len]; exact l⟩)
      | _ => exact l.elim
    | own a =>
      obtain ⟨xs, hn, l⟩ := l
      obtain ⟨p, u, e1, e2, e3, vs, e4, e5⟩ := rl.own _ _ hn
      rw [a] at e1; cases e1
      subst e4
      exact fin _ (.inl ⟨vs, .of e3, by rw [← e5.len]; exact l⟩)
theorem vc_intI {i : Int} (q : R (dI i) h) : VC K rIntU [dI i] h R := fun F ρ H vs Q rl a k => by
  cases a with
  | cons a b =>
    cases b
    obtain rfl := a.int
    exact .inl (.inl ⟨i, rfl, k _ h _ F ρ H (Same.refl _) (Pre.refl _) rl (.p (.int _)) q⟩)
theorem vc_intS {s : Str} {n : Int} (e : PySem.intText? s = some n) (hl : s.length ≤ 640) (q : R (dI n) h) : VC K rIntU [dS s] h R := fun F ρ H vs Q rl a k => by
  cases a with
  | cons a b =>
    cases b
    obtain rfl := a.str
    exact .inr ⟨s, n, rfl, e, hl, k _ h _ F ρ H (Same.refl _) (Pre.refl _) rl (.p (.int _)) q⟩
theorem vc_str {i : Int} (hl : i.natAbs.log2 < 1920) (q : R (dS (toString i)) h) : VC K (fun xs H Q => ∃ i, xs = [V.int i] ∧ i.natAbs.log2 < 1920 ∧ Q (.str (toString i)) H) [dI i] h R := fun F ρ H vs Q rl a k => by
  cases a with
  | cons a b =>
    cases b
    obtain rfl := a.int
    exact ⟨i, rfl, hl, k _ h _ F ρ H (Same.refl _) (Pre.refl _) rl (.p (.str _)) q⟩
theorem vc_2 {g : Int → Int → Int} {i j : Int} (q : R (dI (g i j)) h) : VC K (fun xs H Q => ∃ i j, xs = [V.int i, V.int j] ∧ Q (.int (g i j)) H) [dI i, dI j] h R := fun F ρ H vs Q rl a k => by
  cases a with
  | cons a b =>
    cases b with
    | cons b c =>
      cases c
      obtain rfl := a.int
      obtain rfl := b.int
      exact ⟨i, j, rfl, k _ h _ F ρ H (Same.refl _) (Pre.refl _) rl (.p (.int _)) q⟩
theorem vc_min2 {i j : Int} (q : R (dI (if j < i then j else i)) h) : VC K (fun xs H Q => ∃ i j, xs = [V.int i, V.int j] ∧ Q (.int (if j < i then j else i)) H) [dI i, dI j] h R := vc_2 (g := fun i j => if j < i then j else i) q
theorem vc_max2 {i j : Int} (q : R (dI (if j > i then j else i)) h) : VC K (fun xs H Q => ∃ i j, xs = [V.int i, V.int j] ∧ Q (.int (if j > i then j else i)) H) [dI i, dI j] h R := vc_2 (g := fun i j => if j > i then j else i) q
/-- the items of a list or tuple -/
def SeqP (d : D) (h : Hs) (ps : List P) : Prop := match d with
  | .p (.lst xs) => xs = ps
  | .p (.tup xs) => xs = ps
  | .own i => h[i]? = some (some (.lst (ps.map D.p)))
  | _ => False
theorem SeqP.v {F : Hp} {ρ : List Addr} {H : Hp} {d : D} {v : V} {ps : List P} (rl : Rel K F ρ h H) (a : RD K F ρ d v) (s : SeqP d h ps) : ∃ p vs, v = .ref p ∧ (SqL K H p vs ∨ SqT K H p vs) ∧ RPs K F ps vs := by
  cases a with
  | p a =>
    cases a with
    | lst a r => cases s; exact ⟨_, _, rfl, .inl (rl.same.seq a), r⟩
    | tup a r => cases s; exact ⟨_, _, rfl, .inr (sqT_mono rl.same a), r⟩
    | _ => exact s.elim
  | own a =>
    obtain ⟨p, u, e1, e2, e3, vs, e4, e5⟩ := rl.own _ _ s
    rw [a] at e1; cases e1
    subst e4
    exact ⟨_, _, rfl, .inl (.of e3), e5.pure⟩
theorem vc_tuple {ps : List P} (s : SeqP x h ps) (q : R (dT ps) h) : VC K (fun xs H Q => ∃ p ys, xs = [V.ref p] ∧ ((SqL K H p ys ∧ ∀ l, H l = none → Q (.ref l) (upd H l (.tup ys))) ∨ (SqT K H p ys ∧ Q (.ref p) H))) [x] h R := fun F ρ H vs Q rl a k => by
  cases a with
  | cons a b =>
    cases b
    cases a with
    | p a =>
      cases a with
      | lst a r =>
        cases s
        refine ⟨_, _, rfl, .inl ⟨rl.same.seq a, fun l hl => ?_⟩⟩
        have sn := fun o => same_new (o := o) (rl.free hl)
        exact k _ h _ _ ρ _ (sn _) (Pre.refl _) (rl.frz hl) (.p (.tup (.of upd_same) (r.mono (sn _)))) q
      | tup a r =>
        cases s
        exact ⟨_, _, rfl, .inr ⟨sqT_mono rl.same a, k _ h _ F ρ H (Same.refl _) (Pre.refl _) rl (.p (.tup a r)) q⟩⟩
      | _ => exact s.elim
    | own a =>
      obtain ⟨p, u, e1, e2, e3, vs, e4, e5⟩ := rl.own _ _ s
      rw [a] at e1; cases e1
      subst e4
      refine ⟨_, _, rfl, .inl ⟨.of e3, fun l hl => ?_⟩⟩
      have sn := fun o => same_new (o := o) (rl.free hl)
      exact k _ h _ _ ρ _ (sn _) (Pre.refl _) (rl.frz hl) (.p (.tup (.of upd_same) (e5.pure.mono (sn _)))) q
/-- list(..): a new list that stays; one that is owned -/
theorem vc_list {ps : List P} (s : SeqP x h ps) (q : R (dL ps) h) : VC K (fun xs H Q => ∃ p ys, xs = [V.ref p] ∧ (SqL K H p ys ∨ SqT K H p ys) ∧ ∀ l, H l = none → Q (.ref l) (upd H l (.lst ys))) [x] h R := fun F ρ H vs Q rl a k => by
  cases a with
  | cons a b =>
    cases b
    obtain ⟨p, us, rfl, sq, r⟩ := s.v rl a
    refine ⟨p, us, rfl, sq, fun l hl => ?_⟩
    have sn := fun o => same_new (o := o) (rl.free hl)
    exact k _ h _ _ ρ _ (sn _) (Pre.refl _) (rl.frz hl) (.p (.lst (.of upd_same) (r.mono (sn _)))) q
theorem vc_listO {ps : List P} (s : SeqP x h ps) (q : R (.own h.length) (h ++ [some (.lst (ps.map D.p))])) : VC K (fun xs H Q => ∃ p ys, xs = [V.ref p] ∧ (SqL K H p ys ∨ SqT K H p ys) ∧ ∀ l, H l = none → Q (.ref l) (upd H l (.lst ys))) [x] h R := fun F ρ H vs Q rl a k => by
  cases a with
  | cons a b =>
    cases b
    obtain ⟨p, us, rfl, sq, r⟩ := s.v rl a
    refine ⟨p, us, rfl, sq, fun l hl => ?_⟩
    exact k _ _ _ F (ρ ++ [l]) _ (Same.refl _) (Pre.push _ _) (rl.push (o := .lst (ps.map D.p)) hl ⟨us, rfl, r.data⟩) (.own (by rw [← rl.len]; simp)) q
theorem vc_sum {ns : List Int} (s : x = dL (ns.map P.int) ∨ ∃ n, x = .own n ∧ h[n]? = some (some (.lst (ns.map dI)))) (q : R (dI ns.sum) h) : VC K (rSum K) [x] h R := fun F ρ H vs Q rl a k => by
  cases a with
  | cons a b =>
    cases b
    have kk := k _ h _ F ρ H (Same.refl _) (Pre.refl _) rl (.p (.int _)) q
    rcases s with rfl | ⟨n, rfl, s⟩
    · cases a with
      | p a =>
        cases a with
        | lst a r =>
          have e := r.ints
          subst e
          exact ⟨_, ns, rfl, rl.same.seq a, kk⟩
    · cases a with
      | own a =>
        obtain ⟨p, u, e1, e2, e3, vs, e4, e5⟩ := rl.own _ _ s
        rw [a] at e1; cases e1
        subst e4
        have e6 : RA K F ρ ((ns.map P.int).map D.p) vs := by rw [List.map_map]; exact e5
        have e := e6.pure.ints
        subst e
        exact ⟨_, ns, rfl, .of e3, kk⟩
/-! ### methods -/
theorem vm_append {n : Nat} {xs : List D} (hn : h[n]? = some (some (.lst xs))) (hl : xs.length < sizeLine) (q : R dN (h.set n (some (.lst (xs ++ [y]))))) : VM K rAppend (.own n) [y] h R := fun F ρ H vx vs Q rl a b k => by
  cases a with
  | own a =>
    cases b with
    | cons b c =>
      cases c
      obtain ⟨p, u, e1, e2, e3, us, e4, e5⟩ := rl.own _ _ hn
      rw [a] at e1; cases e1
      subst e4
      refine ⟨_, us, _, rfl, rfl, e3, by rw [← e5.len]; exact hl, ?_⟩
      exact k _ _ _ F ρ _ (Same.refl _) (Pre.refl _) (rl.put (o' := .lst (xs ++ [y])) hn a ⟨_, rfl, e5.append (.cons b .nil)⟩) (.p .non) q
end
end Kb

/-! Defs and classes in data. -/
namespace Kb
open PySem PySem.Spec PyProof.Rows L2
def startD (N : List Str) (ds : List D) : Env' := ds.map some ++ List.replicate (N.length - ds.length) none
section
variable {K : PySem.W.Frag}
theorem renv_start {F : Hp} {ρ : List Addr} {N : List Str} {ds : List D} {vs : List V} (r : RA K F ρ ds vs) : REnv K F ρ (startD N ds) (L2.start N vs) := by
  have hl := r.len
  refine ⟨by unfold startD L2.start; simp [hl], fun i d h => ?_⟩
  unfold startD at h
  unfold L2.start
  by_cases hi : i < ds.length
  · rw [List.getElem?_append_left (by simpa using hi), List.getElem?_map] at h
    cases e : ds[i]? with
    | none => rw [e] at h; cases h
    | some d0 =>
      rw [e] at h; cases h
      obtain ⟨v, h1, h2⟩ := r.get e
      exact ⟨v, by rw [List.getElem?_append_left (by simp; omega), List.getElem?_map, h1]; rfl, h2⟩
  · rw [List.getElem?_append_right (by simp; omega), List.getElem?_replicate] at h
    split at h <;> cases h
/-! ### what a def leaves behind -/
theorem RA.lowP {F F0 : Hp} {ρ ρ' : List Addr} (p : Pre ρ ρ') : ∀ {ds : List D} {vs v0 : List V}, RA K F0 ρ ds v0 → RA K F ρ' ds vs → RA K F ρ ds vs
  | _, _, _, .nil, .nil => .nil
  | _, _, _, .cons a r, .cons b s => .cons (by
      cases b with
      | p b => exact .p b
      | own b =>
        cases a with
        | own a =>
          have z := p _ _ a
          rw [b] at z; cases z
          exact .own a) (RA.lowP p r s)
theorem RF.lowP {F F0 : Hp} {ρ ρ' : List Addr} (p : Pre ρ ρ') : ∀ {ds : List (Str × D)} {vs v0 : List (Str × V)}, RF K F0 ρ ds v0 → RF K F ρ' ds vs → RF K F ρ ds vs
  | _, _, _, .nil, .nil => .nil
  | _, _, _, .cons a r, .cons b s => .cons (by
      cases b with
      | p b => exact .p b
      | own b =>
        cases a with
        | own a =>
          have z := p _ _ a
          rw [b] at z; cases z
          exact .own a) (RF.lowP p r s)
theorem RO.lowP {F F0 : Hp} {ρ ρ' : List Addr} (p : Pre ρ ρ') {o : OO} {u u0 : HO} (a : RO K F0 ρ o u0) (b : RO K F ρ' o u) : RO K F ρ o u := by
  cases o with
  | lst xs =>
    obtain ⟨v0, _, r0⟩ := a
    obtain ⟨vs, e, r⟩ := b
    exact ⟨vs, e, r0.lowP p r⟩
  | ins C fs =>
    obtain ⟨d0, g0, _, r0⟩ := a
    obtain ⟨dx, gs, e, r⟩ := b
    exact ⟨dx, gs, e, r0.lowP p r⟩
theorem Rel.back {F F' : Hp} {ρ ρ' : List Addr} {h junk : Hs} {H H' : Hp} (r0 : Rel K F ρ h H) (p : Pre ρ ρ') (r : Rel K F' ρ' (h ++ junk) H') : Rel K F' ρ h H' := by
  have lt : ∀ (i : Nat) (o' : OO), h[i]? = some (some o') → i < h.length := fun i o' e => (List.getElem?_eq_some_iff.mp e).1
  have up : ∀ (i : Nat) (o' : OO), h[i]? = some (some o') → (h ++ junk)[i]? = some (some o') := fun i o' e => by rw [List.getElem?_append_left (lt i o' e)]; exact e
  refine ⟨r.same, r0.len, fun i o' hi => ?_, fun i j o1 o2 a hi hj ha hb => r.inj i j o1 o2 a (up i o1 hi) (up j o2 hj) (p _ _ ha) (p _ _ hb)⟩
  obtain ⟨a, u, h1, h2, h3, h4⟩ := r.own i o' (up i o' hi)
  obtain ⟨a0, u0, g1, g2, g3, g4⟩ := r0.own i o' hi
  have z := p _ _ g1
  rw [h1] at z; cases z
  exact ⟨a, u, g1, h2, h3, g4.lowP p h4⟩
/-- behind a def that leaves what was owned as it was -/
def Fin (h : Hs) (R : D → Hs → Prop) (d : D) (h' : Hs) : Prop := ∃ junk, h' = h ++ junk ∧
  ((∃ p, d = .p p ∧ R (.p p) h) ∨ (∃ n ps, d = .own n ∧ h.length ≤ n ∧ h'[n]? = some (some (.lst (ps.map D.p))) ∧ R (dL ps) h) ∨
    ∃ n C fs, d = .own n ∧ h.length ≤ n ∧ h'[n]? = some (some (.ins C (fs.map fun q => (q.1, D.p q.2)))) ∧ R (.p (.ins C fs)) h)
theorem fin_p {h : Hs} {R : D → Hs → Prop} {p : P} (junk : Hs) (q : R (.p p) h) : Fin h R (.p p) (h ++ junk) := ⟨junk, rfl, .inl ⟨p, rfl, q⟩⟩
theorem fin_p0 {h : Hs} {R : D → Hs → Prop} {p : P} (q : R (.p p) h) : Fin h R (.p p) h := ⟨[], by simp, .inl ⟨p, rfl, q⟩⟩
theorem fin_run {F F' : Hp} {ρ ρ' : List Addr} {h h' : Hs} {H H' : Hp} {R : D → Hs → Prop} {d : D} {v : V} {Q : VK} (r0 : Rel K F ρ h H) (s : Same F F') (p : Pre ρ ρ') (r : Rel K F' ρ' h' H') (dv : RD K F' ρ' d v) (f : Fin h R d h')
    (k : ∀ (d : D) (F2 : Hp), Same F F2 → Rel K F2 ρ h H' → RD K F2 ρ d v → R d h → Q v H') : Q v H' := by
  obtain ⟨junk, rfl, f⟩ := f
  have st : ∀ (n : Nat), h.length ≤ n → (h ++ junk).set n none = h ++ junk.set (n - h.length) none := fun n hn => List.set_append_right _ _ hn
  rcases f with ⟨x, rfl, q⟩ | ⟨n, ps, rfl, hn, hx, q⟩ | ⟨n, C, fs, rfl, hn, hx, q⟩
  · cases dv with
    | p dv => exact k _ F' s (r0.back p r) (.p dv) q
  · cases dv with
    | own dv =>
      obtain ⟨a, u, e1, e2, e3, e4, r2⟩ := r.freeze hx
      rw [dv] at e1; cases e1
      rw [st n hn] at r2
      obtain ⟨vs, rfl, e5⟩ := e4
      exact k _ _ (s.trans (same_new e2)) (r0.back p r2) (.p (.lst (.of upd_same) e5.pure)) q
  · cases dv with
    | own dv =>
      obtain ⟨a, u, e1, e2, e3, e4, r2⟩ := r.freeze hx
      rw [dv] at e1; cases e1
      rw [st n hn] at r2
      obtain ⟨dx, gs, rfl, e5⟩ := e4
      exact k _ _ (s.trans (same_new e2)) (r0.back p r2) (.p (.ins upd_same e5.pure)) q
theorem vs_fin {t : TS} {R : D → Hs → Prop} {env : Env'} {h : Hs} (q : VS K t { nx := fun _ h' => Fin h R dN h', rt := Fin h R } env h) : VS K t { nx := fun _ h' => R dN h', rt := R } env h := fun F ρ σ H D' rl e k => by
  refine q F ρ σ H ⟨fun σ' H' => D'.nx σ' H', fun v H' => D'.rt v H', D'.bk, D'.ct⟩ rl e ⟨fun env' h' F' ρ' σ' H' s p r e' f => ?_, fun d h' v F' ρ' H' s p r dv f => ?_, fun _ _ _ _ _ _ _ _ _ _ z => z.elim, fun _ _ _ _ _ _ _ _ _ _ z => z.elim⟩
  · refine fin_run (v := .non) (Q := fun _ H' => D'.nx σ' H') rl s p r (.p .non) f fun d F2 s2 r2 d2 q2 => ?_
    have ed : d = dN ∨ d ≠ dN := by cases d with
      | own i => exact .inr (fun z => by cases z)
      | p x => cases x <;> first | exact .inl rfl | exact .inr (fun z => by cases z)
    obtain ⟨junk, _, f⟩ := f
    have q3 : R dN h := by
      rcases f with ⟨x, ex, q⟩ | ⟨n, ps, ex, _⟩ | ⟨n, C, fs, ex, _⟩
      · cases ex; exact q
      · cases ex
      · cases ex
    refine k.nx (List.replicate σ'.length none) h F2 ρ σ' H' s2 (Pre.refl _) r2 ⟨by simp, fun i d z => ?_⟩ q3
    rw [List.getElem?_replicate] at z
    split at z <;> cases z
  · exact fin_run rl s p r dv f fun d F2 s2 r2 d2 q2 => k.rt d h v F2 ρ H' s2 (Pre.refl _) r2 d2 q2
variable {P : Program} {w : World} {mg : Str → Option Value} {base : Heap} {x : Str} {st : Stmt} {N ps : List Str} {k : Nat}
/-- a def whose body keeps a promise in data -/
theorem DefAt.okD (A : DefAt K mg x st ps) (S : FnScope N ps (defScope st)) (W : Spc) (len : ∀ ds h R, W ds h R → ds.length = ps.length)
    (hbody : ∀ (f : Addr) (cdv : Value) (A : Around) (outer : List Env) (s : Shared) (H : Hp) (E : XK), Room k (A.deeper (envOfC x (defScope st) s.heap.objs.size f cdv)) →
      ∃ t, PSs (cxOf CX0 P w K mg base N x (defScope st) f cdv A outer s H E).nox (defBody st) t ∧ ∀ ds h R, W ds h R → VS K t { nx := fun _ h' => R dN h', rt := R } (startD N ds) h) : HasF P w K mg base CX0 (k + 1) x ps (spD K W) := by
  refine A.ok S (fun vs H Q E h => ?_) fun f cdv A outer s H vs Q E hr h => ?_
  · obtain ⟨ds, h, F, ρ, R, rl, ra, hw, _⟩ := h
    rw [← ra.len]
    exact len ds h R hw
  · obtain ⟨ds, h, F, ρ, R, rl, ra, hw, kq⟩ := h
    obtain ⟨t, ht, q⟩ := hbody f cdv A outer s H E hr
    refine ⟨t, ht, q ds h R hw F ρ _ H _ rl (renv_start ra) ⟨fun env' h' F' ρ' σ' H' s p r e q => kq dN h' .non F' ρ' H' s p r (.p .non) q, fun d h' v F' ρ' H' s p r dv q => kq d h' v F' ρ' H' s p r dv q, fun _ _ _ _ _ _ _ _ _ _ z => z.elim, fun _ _ _ _ _ _ _ _ _ _ z => z.elim⟩⟩
end
end Kb

/-! The rules in the forms that are tried one after the other. -/
namespace Kb
open PySem PySem.Spec PyProof.Rows L2
section
variable {K : PySem.W.Frag} {env : Env'} {h : Hs} {R : D → Hs → Prop} {x y d : D} {i j : Int}
theorem log2_small {n : Nat} (h : n < 2 ^ 200) : n.log2 < 200 := PySem.Flt.log2_lt_of (by decide) h
theorem cmul_small (hi : i.natAbs < 2 ^ 200) (hj : j.natAbs < 2 ^ 200) : CMulX i j := by
  have h1 := log2_small hi
  have h2 := log2_small hj
  unfold CMulX
  omega
theorem cmul_wide (hi : i.natAbs.log2 < 2000000) (hj : j.natAbs < 2 ^ 200) : CMulX i j := by
  have h2 := log2_small hj
  unfold CMulX
  omega
theorem v2_mul (c : CMulX i j) (q : R (dI (i * j)) h) : V2 K (rI CMulX fun i j => V.int (i * j)) (dI i) (dI j) h R := v2_I (g := fun i j => i * j) c q
theorem v2_mod (c : 0 < j) (q : R (dI (i % j)) h) : V2 K (rI (fun _ j => 0 < j) fun i j => V.int (i % j)) (dI i) (dI j) h R := v2_I (g := fun i j => i % j) c q
theorem v2_div (c : 0 < j ∧ j < 1073741824) (q : R (dI (i / j)) h) : V2 K (rI CDiv fun i j => V.int (i / j)) (dI i) (dI j) h R := v2_I (g := fun i j => i / j) c q
theorem v2_pow (c : 0 ≤ j ∧ j ≤ 1000000 ∧ i.natAbs < 2 ^ 64) (q : R (dI (i ^ j.toNat)) h) : V2 K (rI CPow fun i j => V.int (i ^ j.toNat)) (dI i) (dI j) h R := v2_I (g := fun i j => i ^ j.toNat) c q
theorem v2_sub (q : R (dI (i - j)) h) : V2 K (rI0 fun i j => V.int (i - j)) (dI i) (dI j) h R := v2_I0 (g := fun i j => i - j) q
theorem v2_lt (q : R (dB (decide (i < j))) h) : V2 K (rI0 fun i j => V.bl (decide (i < j))) (dI i) (dI j) h R := v2_B0 (g := fun i j => decide (i < j)) q
theorem v2_le (q : R (dB (decide (i ≤ j))) h) : V2 K (rI0 fun i j => V.bl (decide (i ≤ j))) (dI i) (dI j) h R := v2_B0 (g := fun i j => decide (i ≤ j)) q
theorem v2_gt (q : R (dB (decide (j < i))) h) : V2 K (rI0 fun i j => V.bl (decide (j < i))) (dI i) (dI j) h R := v2_B0 (g := fun i j => decide (j < i)) q
theorem v2_ge (q : R (dB (decide (j ≤ i))) h) : V2 K (rI0 fun i j => V.bl (decide (j ≤ i))) (dI i) (dI j) h R := v2_B0 (g := fun i j => decide (j ≤ i)) q
/-- the test's answer -/
theorem bool_ans {c : Bool} {B : Bool → Prop} (q : B c) : ∃ c', dB c = dB c' ∧ B c' := ⟨c, rfl, q⟩
theorem tru_bl {c : Bool} {h : Hs} {B : Bool → Prop} (q : B c) : ∃ c', TruD (dB c) h c' ∧ B c' := ⟨c, rfl, q⟩
theorem ite_dec {c : Prop} [Decidable c] {A B : Prop} (h1 : c → A) (h2 : ¬ c → B) : if decide c = true then A else B := by
  by_cases h : c
  · rw [decide_eq_true h, if_pos rfl]; exact h1 h
  · rw [decide_eq_false h, if_neg Bool.false_ne_true]; exact h2 h
theorem ite_ndec {c : Prop} [Decidable c] {A B : Prop} (h1 : ¬ c → A) (h2 : c → B) : if (!decide c) = true then A else B := by
  by_cases h : c
  · rw [decide_eq_true h]; exact h2 h
  · rw [decide_eq_false h]; exact h1 h
theorem ite_b {c : Bool} {A B : Prop} (h1 : c = true → A) (h2 : c = false → B) : if c = true then A else B := by
  cases c with
  | true => exact h1 rfl
  | false => exact h2 rfl
theorem ite_nb {c : Bool} {A B : Prop} (h1 : c = false → A) (h2 : c = true → B) : if (!c) = true then A else B := by
  cases c with
  | true => exact h2 rfl
  | false => exact h1 rfl
theorem ite_t {A B : Prop} (h : A) : if true = true then A else B := by rw [if_pos rfl]; exact h
theorem ite_f {A B : Prop} (h : B) : if false = true then A else B := by rw [if_neg Bool.false_ne_true]; exact h
theorem tup_i {n : Nat} {ps : List P} {R : D → Hs → Prop} (hl : n ≤ 100000) (e : ps.length = n) {xs : List D} (ex : xs = ps.map D.p) (q : R (dT ps) h) : ∃ ps, xs = ps.map D.p ∧ xs.length ≤ sizeLine ∧ R (dT ps) h :=
  ⟨ps, ex, by rw [ex, List.length_map, e]; exact sz_le hl, q⟩
theorem lst_i {n : Nat} {ps : List P} {R : D → Hs → Prop} (hl : n ≤ 100000) (e : ps.length = n) {xs : List D} (ex : xs = ps.map D.p) (q : R (dL ps) h) : ∃ ps, xs = ps.map D.p ∧ xs.length ≤ sizeLine ∧ R (dL ps) h :=
  ⟨ps, ex, by rw [ex, List.length_map, e]; exact sz_le hl, q⟩
def unP : List D → List P
  | [] => []
  | .p x :: r => x :: unP r
  | _ :: r => unP r
theorem at_nat {α : Type} {xs : List α} {i : Int} {v : α} (n : Nat) (e : i = (n : Int)) (h : xs[n]? = some v) : atI xs i = some v := by
  rw [e]; exact atI_nat h
end
end Kb

/-! sorted(xs, key=f), f a def of the program. -/
namespace Kb
open PySem PySem.Spec PyProof.Rows L2
open PySem.W (dataLe KeyedOut AllAlike Sortable)
def KeyV (K : PySem.W.Frag) (H : Hp) (v : V) (k : PyData) : Prop :=
  (∃ i, v = .int i ∧ k = .int i) ∨ (∃ s, v = .str s ∧ k = .str s) ∨ ∃ (t : Addr) (ns : List Int), v = .ref t ∧ SqT K H t (ns.map V.int) ∧ k = .tuple (ns.map .int)
def sortK (xs : List V) (kz : List PyData) : List V := ((xs.zip kz).mergeSort (dataLe false Prod.snd)).map Prod.fst
def rSortK (K : PySem.W.Frag) (sp : Sp) (f : Addr) : List V → List V → Hp → VK → Prop := fun vs zs H Q => ∃ (a : Addr) (xs : List V) (kz : List PyData) (Wk : Nat → Hp → Prop), vs = [.ref a] ∧ zs = [.ref f] ∧ SqL K H a xs ∧ kz.length = xs.length ∧
  AllAlike kz ∧ Sortable kz ∧ (∀ d ∈ kz, d.depth ≤ 60) ∧ Wk 0 H ∧ (∀ i x k H', xs[i]? = some x → kz[i]? = some k → Wk i H' → sp [x] H' (fun v H2 => KeyV K H2 v k ∧ Wk (i + 1) H2) E0) ∧
  ∀ H', Wk xs.length H' → ∀ p, H' p = none → Q (.ref p) (upd H' p (.lst (sortK xs kz)))
section
variable {X : Cx} {pins : List (Addr × Obj)} {σ : L2.St} {H : Hp} {s : Shared}
theorem dp_ints {K : PySem.W.Frag} {H : Hp} : ∀ ns : List Int, DpAll K H (ns.map V.int) (ns.map PyData.int)
  | [] => .nil
  | n :: ns => .cons (.int n) (dp_ints ns)
theorem keyV_reads {H : Hp} {s : Shared} (I : Inv X pins σ H s) {v : V} {u : Value} {k : PyData} (kv : KeyV X.K H v k) (r : RelV v u) : ∃ as, Reads s.heap u k as := by
  rcases kv with ⟨i, rfl, rfl⟩ | ⟨z, rfl, rfl⟩ | ⟨t, ns, rfl, ht, rfl⟩
  · exact Dp.reads I _ _ u (.int i) r
  · exact Dp.reads I _ _ u (.str z) r
  · exact Dp.reads I _ _ u (.tup ht (dp_ints ns)) r
theorem KeyV.tups {K : PySem.W.Frag} {H H' : Hp} (t : ∀ b xs, H b = some (.tup xs) → H' b = some (.tup xs)) (t2 : ∀ b o u, H b = some (.frz o u) → H' b = some (.frz o u)) {v : V} {k : PyData} (kv : KeyV K H v k) : KeyV K H' v k := by
  rcases kv with h | h | ⟨a, ns, rfl, ht, rfl⟩
  · exact .inl h
  · exact .inr (.inl h)
  · refine .inr (.inr ⟨a, ns, rfl, ?_, rfl⟩)
    rcases ht with (ht | ⟨o, ht⟩) | ht
    · exact .inl (.inl (t _ _ ht))
    · exact .inl (.inr ⟨o, t2 _ _ _ ht⟩)
    · exact .inr ht
theorem each_ix {α β : Type} {R : α → β → Prop} : ∀ {as : List α} {bs : List β}, as.length = bs.length → (∀ (i : Nat) (a : α) (b : β), as[i]? = some a → bs[i]? = some b → R a b) → PySem.W.EachIs R as bs
  | [], [], _, _ => .nil
  | [], _ :: _, h, _ => by simp at h
  | _ :: _, [], h, _ => by simp at h
  | a :: as, b :: bs, h, k => .cons (k 0 a b rfl rfl) (each_ix (by simpa using h) fun i x y hx hy => k (i + 1) x y (by simpa using hx) (by simpa using hy))
theorem each_zip : ∀ {xs : List V} {us : List Value} {kz : List PyData}, Vals xs us → kz.length = xs.length → PySem.W.EachIs (fun (v : Value) (b : V × PyData) => RelV b.1 v) us (xs.zip kz)
  | _, _, [], .nil, _ => .nil
  | _, _, _ :: _, .nil, h => by simp at h
  | _, _, [], .cons _ _, h => by simp at h
  | _, _, k :: kz, .cons r rs, h => .cons r (each_zip rs (by simpa using h))
theorem vals_each : ∀ {us : List Value} {bs : List (V × PyData)}, PySem.W.EachIs (fun (v : Value) (b : V × PyData) => RelV b.1 v) us bs → Vals (bs.map Prod.fst) us
  | _, _, .nil => .nil
  | _, _, .cons r rs => .cons r (vals_each rs)
/-- an untracked thing of ours is changed -/
theorem inv_other {kS : Addr} {h' : Heap} {t' : Nat} (I : Inv X pins σ H s) (h1 : X.s_0.heap.objs.size ≤ kS) (h2 : kS ≠ X.env.locals) (h3 : ∀ x c, X.env.cells.lookup x = some c → c ≠ kS) (h4 : ∀ p ∈ X.pn ++ pins, p.1 ≠ kS) (h5 : H kS = none)
    (k : ∀ b o, b ≠ kS → s.heap.get? b = some o → h'.get? b = some o) : Inv X pins σ H { s with heap := h', toks := t' } := by
  have nc : ∀ b, b ∉ [kS] → b ≠ kS := fun b hb e => hb (by rw [e]; exact List.mem_singleton.mpr rfl)
  have nt : ∀ b u, H b = some u → b ≠ kS := fun b u q hb => by rw [hb, h5] at q; cases q
  refine I.step (g' := s.gens) (t' := t') (d' := s.drawn) (ch := [kS]) (fun b hb => ?_) (fun b ob _ _ hc q _ => k b ob (nc b hc) q) (fun b ob _ _ hc q _ => ⟨ob.slots, k b ob (nc b hc) q⟩) (fun _ _ _ _ n => n)
    (fun b ob hc q => ⟨ob, k b ob (nc b hc) q⟩) (fun _ _ q => q) (fun _ _ _ q => q) (fun b ps q => ⟨#[], by rw [q]; simp⟩) (fun m hm => ?_) (fun b u q => ?_) I.bare
  · rw [List.mem_singleton.mp hb]
    exact ⟨.inr h1, h2, h3, h4⟩
  · obtain ⟨ob, es, ep, ho, r⟩ := hm
    exact ⟨ob, es, ep, k _ ob (Ne.symm h2) ho, r⟩
  · refine (I.hok b u q).stay (fun c v hc y => k c v ?_ y) (fun _ y => y) fun _ _ y => y
    rcases hc with y | y
    · rw [y]; exact nt b u q
    · exact nt c _ y
/-- sorted(xs, key=f) -/
theorem call_sortedK {kf : Nat} {f : Addr} {fd : FuncData} {p : Str} {sp : Sp} (Fn : FnOk X.prog X.w X.K X.mg X.base CX0 kf f fd [p] sp) (hb : Binds X.K fd [p] []) (hr : Room (kf + 2) X.A) : CallRK X (.builtin "sorted") [Str.ofString "key"] (rSortK X.K sp f) := by
  intro pins s σ H vs zs us ws Q I r rz hyp
  obtain ⟨a, xs, kz, Wk, rfl, rfl, hs, hlen, hal, hsk, hdep, w0, turn, fin⟩ := hyp
  obtain rfl := Vals.ref1 r
  obtain rfl := Vals.ref1 rz
  obtain ⟨its, rv, pl, hz⟩ := I.list hs
  have hil : its.length = xs.length := rv.length.symm
  have hZ : its.length ≤ sizeLine := by rw [hil]; exact hz
  have hlk : kz.length = its.length := by rw [hlen, hil]
  -- what lies above the entry
  have above : ∀ c : Addr, s.heap.objs.size ≤ c → X.s_0.heap.objs.size ≤ c ∧ c ≠ X.env.locals ∧ (∀ y d, X.env.cells.lookup y = some d → d ≠ c) ∧ (∀ q ∈ X.pn ++ pins, q.1 ≠ c) ∧ c ∉ frs X.stack := by
    intro c hc
    have hL : X.env.locals < s.heap.objs.size := I.lt
    refine ⟨Nat.le_trans I.sz hc, fun e => ?_, fun y d hd e => ?_, fun q hq e => ?_, fun hm => ?_⟩
    · rw [e] at hc; exact absurd (Nat.lt_of_lt_of_le hL hc) (Nat.lt_irrefl _)
    · obtain ⟨u, o, ho, _⟩ := I.cell y d hd
      rw [e] at ho
      exact absurd (Nat.lt_of_lt_of_le (Heap.lt_size ho) hc) (Nat.lt_irrefl _)
    · have ho := (I.pin q hq).1
      rw [e] at ho
      exact absurd (Nat.lt_of_lt_of_le (Heap.lt_size ho) hc) (Nat.lt_irrefl _)
    · rcases List.mem_cons.mp (I.stkSub c hm) with e | e
      · rw [e] at hc; exact absurd (Nat.lt_of_lt_of_le hL hc) (Nat.lt_irrefl _)
      · exact I.nofs hc e
  refine PySem.W.sorted_of_sort pl.isList hZ (ksk_s1 _ _) (fun _ => ksk_l1 _ _) fun E' => ?_
  have I0 : Inv X pins σ H { s with heap := PySem.W.copyHeap s.heap its } := I.kept (t' := s.toks) fun b o e => PySem.W.copyHeap_old e
  have at0 := PySem.W.copyHeap_at s.heap its
  have hA : s.heap.objs.size ≤ s.heap.objs.size + 1 := Nat.le_succ _
  obtain ⟨z1, z2, z3, z4, z5⟩ := above _ hA
  have nA : H (s.heap.objs.size + 1) = none := I.hok.fresh hA
  generalize hC : PySem.W.copyHeap s.heap its = hc0 at I0 at0 ⊢
  generalize hN : s.heap.objs.size + 1 = aN at at0 z1 z2 z3 z4 z5 nA hA ⊢
  show wpAny _ _ (ksk_tree aN (.ref f) false) _ _ _
  unfold ksk_tree
  refine wpAny_bind (listItems_at at0 rfl ?_)
  refine wpAny_bind (listUpdate_at at0 rfl ?_ (by rw [List.size_toArray]; exact hZ) (Nat.zero_le _))
  have sb := Heap.SameBut.update hc0 aN (Obj.mapSeq fun _ => (#[] : Array Value))
  obtain ⟨e1, at1⟩ : ∃ e1, (hc0.update aN (Obj.mapSeq fun _ => (#[] : Array Value))).get? aN = some (seqObj "list" #[] e1) := ⟨_, get?_update_seq at0 fun _ => #[]⟩
  have I1 : Inv X pins σ H { s with heap := hc0.update aN (Obj.mapSeq fun _ => (#[] : Array Value)) } := inv_other (s := { s with heap := hc0 }) (t' := s.toks) I0 z1 z2 z3 z4 nA fun b o hb e => (sb.2 b hb).trans e
  generalize hc0.update aN (Obj.mapSeq fun _ => (#[] : Array Value)) = hc1 at at1 I1 ⊢
  refine wpAny_bind (seqEpoch_at at1 rfl ?_)
  refine wpAny_bind (wpAny_newTuple ?_ (by show its.length ≤ _; exact hZ))
  refine wpAny_bind (wpAny_newList ?_ (Nat.zero_le _))
  refine wpAny_holding ?_
  have hc0l : s.heap.objs.size ≤ hc1.objs.size := by
    have h1 : aN < hc1.objs.size := Heap.lt_size at1
    omega
  obtain ⟨kS, hkS⟩ : ∃ kS, kS = (hc1.push (seqObj "tuple" its.toArray 0)).objs.size := ⟨_, rfl⟩
  have kSb : s.heap.objs.size ≤ kS := by rw [hkS, size_push']; omega
  have kSa : kS ≠ aN := by
    have h1 := Heap.lt_size at1
    have h2 : kS = hc1.objs.size + 1 := by rw [hkS, size_push']
    intro e
    rw [h2] at e
    have h3 : aN < hc1.objs.size := h1
    omega
  obtain ⟨y1, y2, y3, y4, y5⟩ := above _ kSb
  have nK : H kS = none := I.hok.fresh kSb
  have at2 : ((hc1.push (seqObj "tuple" its.toArray 0)).push (seqObj "list" #[] 0)).get? aN = some (seqObj "list" #[] e1) := Heap.get?_push_of_some _ (Heap.get?_push_of_some _ at1)
  have ak2 : ((hc1.push (seqObj "tuple" its.toArray 0)).push (seqObj "list" #[] 0)).get? kS = some (seqObj "list" #[] 0) := by rw [hkS]; exact Heap.get?_push_size _ rfl
  have I2 : Inv X pins σ H { s with heap := (hc1.push (seqObj "tuple" its.toArray 0)).push (seqObj "list" #[] 0) } := I1.kept (t' := s.toks) fun b o e => Heap.get?_push_of_some _ (Heap.get?_push_of_some _ e)
  have eref : (hc1.push { cls := .type "tuple", data := .seq its.toArray }).objs.size = kS := hkS.symm
  show wpAny _ _ (ksk_rest aN (.ref f) false its.toArray e1 (.ref _)) _ _ _
  first
    | rw [show (Heap.push hc1 (seqObj "tuple" its.toArray 0)).objs.size = kS from hkS.symm]
    | skip
  unfold ksk_rest
  refine wpAny_bind (wpAny_rule ?_)
  first
    | rw [List.forIn_toArray]
    | (rw [← Array.forIn_toList]; simp only [List.toList_toArray])
    | rw [← Array.forIn_toList]
  show wpAny _ _ _ _ _ { s with heap := (hc1.push (seqObj "tuple" its.toArray 0)).push (seqObj "list" #[] 0) }
  have nst : ∀ (H1 : Hp) (s1 : Shared) (c : Addr), c ∉ frs X.stack → H1 c = none → ∀ (H2 : Hp) (s2 : Shared), Un (frs X.stack) [] H1 H2 s1.heap s2.heap → ∀ o, s1.heap.get? c = some o → s2.heap.get? c = some o ∧ H2 c = none := fun H1 s1 c h1 h2 H2 s2 u o e =>
    ⟨u.keep c o e h2 h1 (by simp), u.free c o e h2 (by simp)⟩
  refine wpAny_bind (ksk_fold (fun i s' => ∃ (H' : Hp) (kA : Array Value) (e : Nat), Inv X pins σ H' s' ∧ Wk i H' ∧ s'.heap.get? aN = some (seqObj "list" #[] e1) ∧ s'.heap.get? kS = some (seqObj "list" kA e) ∧ H' aN = none ∧ H' kS = none ∧ s'.os = s.os ∧
      kA.size = i ∧ (∀ (j : Nat) (k : PyData), j < i → kz[j]? = some k → ∃ (u : Value) (v : V), kA[j]? = some u ∧ RelV v u ∧ KeyV X.K H' v k)) its 0 _
    ⟨H, #[], 0, I2, w0, at2, ak2, nA, nK, rfl, rfl, fun j k hj => absurd hj (Nat.not_lt_zero j)⟩ ?step ?done)
  case step =>
    rintro j x s' hx ⟨H', kA, e, I', wj, ga, gk, na, nk, os', hsz, hks⟩
    simp only [Nat.zero_add] at wj hsz hks ⊢
    have hj : j < its.length := (List.getElem?_eq_some_iff.mp hx).1
    obtain ⟨k, hkj⟩ : ∃ k, kz[j]? = some k := ⟨_, List.getElem?_eq_getElem (by omega)⟩
    obtain ⟨xv, hxv⟩ : ∃ xv, xs[j]? = some xv := ⟨_, List.getElem?_eq_getElem (by omega)⟩
    obtain ⟨u0, hu0, rx⟩ := rv.get hxv
    rw [hx] at hu0
    cases hu0
    have hsp := turn j xv k H' hxv hkj wj
    have hr1 : Room kf X.A.in1.in1 := (Room.in1 (k := kf + 1) hr).in1
    refine wpAny_bind (wpAny_attempt (wpAny_call (codeAny_mono (Fn.run X.A.in1.in1 X.stack s' H' ⟨[x], []⟩ [x] [xv] _ E0 hr1 I'.env0.in1.in1 (hb s' [x] I'.kIn rfl) (.cons rx .nil) hsp) fun rr s'' hq => ?_)))
    cases rr with
    | error ee => exact False.elim hq
    | ok fl =>
      cases fl with
      | next => exact False.elim hq
      | brk => exact False.elim hq
      | cont => exact False.elim hq
      | ret u =>
        obtain ⟨v, H2, os2, bare2, un2, hok2, rvu, kv, wj2⟩ := hq
        have I2' : EP X pins σ (fun v' H' => v' = v ∧ H' = H2) u s'' := I'.after ⟨v, H2, os2, bare2, un2, hok2, rvu, rfl, rfl⟩
        obtain ⟨v', H2', I3, _, rfl, rfl⟩ := I2'
        obtain ⟨ga2, na2⟩ := nst H' s' aN z5 na _ s'' un2 _ ga
        obtain ⟨gk2, nk2⟩ := nst H' s' kS y5 nk _ s'' un2 _ gk
        try dsimp only
        obtain ⟨c2, hc2⟩ : ∃ c2, (s''.heap.update kS (Obj.mapSeq (·.push u))).get? kS = some (seqObj "list" (kA.push u) c2) := ⟨_, get?_update_seq gk2 (·.push u)⟩
        have s1 := Heap.SameBut.update s''.heap kS (Obj.mapSeq (·.push u))
        have hz1 : kA.size ≤ sizeLine := by rw [hsz]; exact Nat.le_trans (Nat.le_of_lt hj) hZ
        refine wpAny_bind (listUpdate_at gk2 rfl ?_ hz1 (Nat.le_trans (Nat.le_of_eq (Array.size_push ..)) (Nat.succ_le_succ hz1)))
        refine wpAny_pure ⟨rfl, H2', kA.push u, c2, inv_other (s := s'') (t' := s''.toks) I3 y1 y2 y3 y4 nk2 fun b o hb e => (s1.2 b hb).trans e, wj2, (s1.2 aN (Ne.symm kSa)).trans ga2, hc2, na2, nk2, os2.trans os', by rw [Array.size_push, hsz], fun j1 k1 hj1 hk1 => ?_⟩
        by_cases hjj : j1 < j
        · obtain ⟨u1, v1, g1, g2, g3⟩ := hks j1 k1 hjj hk1
          have hlt : j1 < kA.size := by omega
          refine ⟨u1, v1, ?_, g2, g3.tups un2.tups un2.frzs⟩
          rw [Array.getElem?_push_lt hlt]
          rw [Array.getElem?_eq_getElem hlt] at g1
          exact g1
        · have ej : j1 = j := by omega
          subst ej
          rw [hkj] at hk1
          cases hk1
          refine ⟨u, v', ?_, rvu, kv⟩
          rw [← hsz]
          simp
  case done =>
    rintro s' ⟨H', kA, e, I', wj, ga, gk, na, nk, os', hsz, hks⟩
    rw [Nat.zero_add] at wj hsz hks
    rw [hil] at wj
    try dsimp only
    refine wpAny_bind (listItems_at gk rfl ?_)
    obtain ⟨m, hm, _⟩ := I'.loc
    have hk' : PySem.W.EachIs (fun v k => ∃ as, Reads s'.heap v k as) kA.toList kz := by
      refine each_ix (by rw [Array.length_toList, hsz, hlk]) fun i u k hu hk => ?_
      have hi : i < its.length := by
        have := (List.getElem?_eq_some_iff.mp hk).1
        omega
      obtain ⟨u1, v1, g1, g2, g3⟩ := hks i k hi hk
      rw [Array.getElem?_toList, g1] at hu
      cases hu
      exact keyV_reads I' g3 g2
    have F0 : Fr ({} : Heap) X.env.locals s'.heap m := ⟨hm, fun b o e => by simp [Heap.get?] at e, Nat.zero_le _⟩
    have nw : ∀ b o, b ≠ X.env.locals → s'.heap.get? b = some o → (b, o) ∈ allNews ({} : Heap) s'.heap X.env.locals := fun b o h1 h2 => mem_allNews h1 (by simp [Heap.get?]) h2
    have N0 : News ({} : Heap) X.env.locals s'.heap ((allNews ({} : Heap) s'.heap X.env.locals).filter (fun p => decide (p.1 ≠ kS ∧ p.1 ≠ aN)) ++ [(kS, seqObj "list" kA e), (aN, seqObj "list" #[] e1)]) := fun p hp => by
      rcases List.mem_append.mp hp with hp | hp
      · exact news_all p (List.mem_filter.mp hp).1
      · rcases List.mem_cons.mp hp with rfl | hp
        · exact ⟨gk, y2, by simp [Heap.get?]⟩
        · rw [List.mem_singleton.mp hp]
          exact ⟨ga, z2, by simp [Heap.get?]⟩
    have hu : ∀ d, d ∈ kz → X.A.in1.in1.units + d.depth < cLine := fun d hd => by
      have h1 := hdep d hd
      have h2 := (Room.in1 (k := kf) (Room.in1 (k := kf + 1) hr)).units
      omega
    refine PySem.W.key_end (κ := PySem.W.dataKind s'.heap kz) F0 N0 kSa (fun p hp => (of_decide_eq_true (List.mem_filter.mp hp).2).1) (fun p hp => (of_decide_eq_true (List.mem_filter.mp hp).2).2)
      (PySem.W.SortsAt.data (s := s') hk' hal hsk hu) (by rw [hsz]) hZ fun h3 tk3 c F3 N3 => ⟨rfl, ?_⟩
    have e2 : (xs.zip kz).map Prod.snd = kz := List.map_snd_zip (by omega)
    have eo : PySem.W.EachIs (fun (v : Value) (b : V × PyData) => RelV b.1 v) (PySem.W.sortVals (PySem.W.dataKind s'.heap kz) false kA.toList its) ((xs.zip kz).mergeSort (PySem.W.dataLe false Prod.snd)) :=
      PySem.W.keyedOut_each (rev := false) Prod.snd (bs := xs.zip kz) (vs := its) ⟨s'.heap, kA.toList, by rw [e2]; exact hal, by rw [e2], by rw [e2]; exact hk'⟩ (each_zip rv hlen)
    have vo : Vals (sortK xs kz) (PySem.W.sortVals (PySem.W.dataKind s'.heap kz) false kA.toList its) := vals_each eo
    generalize PySem.W.sortVals (PySem.W.dataKind s'.heap kz) false kA.toList its = out at vo F3 N3 ⊢
    have ns : ∀ b o, b ≠ X.env.locals → b ≠ kS → b ≠ aN → s'.heap.get? b = some o → h3.get? b = some o := fun b o h1 h2 h3 e =>
      (N3 (b, o) (List.mem_cons_of_mem _ (List.mem_filter.mpr ⟨nw b o h1 e, decide_eq_true ⟨h2, h3⟩⟩))).1
    have nc : ∀ b, b ∉ [kS, aN] → b ≠ kS ∧ b ≠ aN := fun b hb => by simpa using hb
    have nt : ∀ b u, H' b = some u → b ≠ kS ∧ b ≠ aN ∧ b ≠ X.env.locals := fun b u q => ⟨fun z => by { rw [z, nk] at q; cases q }, fun z => by { rw [z, na] at q; cases q }, fun z => by { rw [z, I'.free] at q; cases q }⟩
    have hmem : (sortK xs kz).length ≤ sizeLine := by
      unfold sortK
      rw [List.length_map, List.length_mergeSort, List.length_zip]
      omega
    refine ⟨.ref aN, upd H' aN (.lst (sortK xs kz)), ?_, rfl, fin H' wj aN na⟩
    refine I'.step (g' := s'.gens) (t' := tk3) (d' := s'.drawn) (ch := [kS, aN]) (fun b hb => ?_) (fun b ob h1 _ hc q _ => ns b ob h1 (nc b hc).1 (nc b hc).2 q) (fun b ob h1 _ hc q _ => ⟨ob.slots, ns b ob h1 (nc b hc).1 (nc b hc).2 q⟩)
      (fun b ob hc _ n => by rw [upd_ne (nc b hc).2]; exact n) (fun b ob hc q => ?_) (fun b ys q => by rw [upd_ne (nt b _ q).2.1]; exact q) (fun b ob ys q => by rw [upd_ne (nt b _ q).2.1]; exact q) (fun b ps q => ⟨#[], by rw [upd_ne (nt b _ q).2.1, q]; simp⟩)
      (fun m2 hm2 => ?_) (fun b u q => ?_) I'.bare
    · rcases List.mem_cons.mp hb with rfl | hb
      · exact ⟨.inr y1, y2, y3, y4⟩
      · rw [List.mem_singleton.mp hb]
        exact ⟨.inr z1, z2, z3, z4⟩
    · by_cases hL : b = X.env.locals
      · obtain ⟨oL, _, _, ho, _⟩ := F3.ns
        rw [hL]
        exact ⟨oL, ho⟩
      · exact ⟨ob, ns b ob hL (nc b hc).1 (nc b hc).2 q⟩
    · rw [hm2.eq_nsMap, ← hm.eq_nsMap]
      exact F3.ns
    · by_cases hb : b = aN
      · subst hb
        rw [upd_same] at q
        cases q
        exact ⟨hmem, out, c, vo, (N3 _ List.mem_cons_self).1⟩
      · rw [upd_ne hb] at q
        refine (I'.hok b u q).stay (fun c v hc y => ?_) (fun c y => by rw [upd_ne (nt c _ y).2.1]; exact y) fun c ys y => by rw [upd_ne (nt c _ y).2.1]; exact y
        have hcx : c ≠ kS ∧ c ≠ aN ∧ c ≠ X.env.locals := by
          rcases hc with y' | y'
          · rw [y']; exact nt b u q
          · exact nt c _ y'
        exact ns c v hcx.2.2 hcx.1 hcx.2.1 y
end
/-! ### in data -/
def sortP (ps : List P) (kz : List PyData) : List P := ((ps.zip kz).mergeSort (dataLe false Prod.snd)).map Prod.fst
def KeyP (d : D) (k : PyData) : Prop := (∃ i, d = dI i ∧ k = .int i) ∨ (∃ s, d = dS s ∧ k = .str s) ∨ ∃ ns : List Int, d = dT (ns.map P.int) ∧ k = .tuple (ns.map .int)
section
variable {K : PySem.W.Frag} {env : Env'} {h : Hs} {R : D → Hs → Prop}
theorem KeyP.v {F H : Hp} {ρ : List Addr} {d : D} {v : V} {k : PyData} (kp : KeyP d k) (s : Same F H) (r : RD K F ρ d v) : KeyV K H v k := by
  rcases kp with ⟨i, rfl, rfl⟩ | ⟨z, rfl, rfl⟩ | ⟨ns, rfl, rfl⟩
  · exact .inl ⟨i, r.int, rfl⟩
  · exact .inr (.inl ⟨z, r.str, rfl⟩)
  · cases r with
    | p r =>
      cases r with
      | tup a b => exact .inr (.inr ⟨_, ns, rfl, by rw [← b.ints]; exact sqT_mono s a, rfl⟩)
theorem zip3 : ∀ {ps : List P} {vs : List V} {kz : List PyData}, ps.length = vs.length → kz.length = vs.length →
    (ps.zip (vs.zip kz)).map (fun t => (t.1, t.2.2)) = ps.zip kz ∧ (ps.zip (vs.zip kz)).map (fun t => (t.2.1, t.2.2)) = vs.zip kz
  | [], [], [], _, _ => ⟨rfl, rfl⟩
  | [], _ :: _, _, h, _ => by simp at h
  | _ :: _, [], _, h, _ => by simp at h
  | [], [], _ :: _, _, h => by simp at h
  | _ :: _, _ :: _, [], _, h => by simp at h
  | p :: ps, v :: vs, k :: kz, h1, h2 => by
    obtain ⟨a, b⟩ := zip3 (ps := ps) (vs := vs) (kz := kz) (by simpa using h1) (by simpa using h2)
    exact ⟨congrArg ((p, k) :: ·) a, congrArg ((v, k) :: ·) b⟩
theorem zip3_mem {F : Hp} : ∀ {ps : List P} {vs : List V} {kz : List PyData}, RPs K F ps vs → ∀ t ∈ ps.zip (vs.zip kz), RP K F t.1 t.2.1
  | _, _, _, .nil, t, h => by simp at h
  | _, _, [], .cons _ _, t, h => by simp at h
  | _, _, k :: kz, .cons r rs, t, h => by
    rcases List.mem_cons.mp h with rfl | h
    · exact r
    · exact zip3_mem rs t h
theorem rps_list {F : Hp} : ∀ (L : List (P × V × PyData)), (∀ t ∈ L, RP K F t.1 t.2.1) → RPs K F (L.map fun t => t.1) (L.map fun t => t.2.1)
  | [], _ => .nil
  | t :: L, h => .cons (h t List.mem_cons_self) (rps_list L fun u hu => h u (List.mem_cons_of_mem _ hu))
theorem rps_sort {F : Hp} {ps : List P} {vs : List V} {kz : List PyData} (r : RPs K F ps vs) (hl : kz.length = vs.length) : RPs K F (sortP ps kz) (sortK vs kz) := by
  obtain ⟨e1, e2⟩ := zip3 (r.len) hl
  have a1 : ((ps.zip (vs.zip kz)).mergeSort (dataLe false fun t => t.2.2)).map (fun t => (t.1, t.2.2)) = (ps.zip kz).mergeSort (dataLe false Prod.snd) := by
    conv => rhs; rw [← e1]
    exact List.map_mergeSort (f := fun t : P × V × PyData => (t.1, t.2.2)) fun a _ b _ => rfl
  have a2 : ((ps.zip (vs.zip kz)).mergeSort (dataLe false fun t => t.2.2)).map (fun t => (t.2.1, t.2.2)) = (vs.zip kz).mergeSort (dataLe false Prod.snd) := by
    conv => rhs; rw [← e2]
    exact List.map_mergeSort (f := fun t : P × V × PyData => (t.2.1, t.2.2)) fun a _ b _ => rfl
  unfold sortP sortK
  rw [← a1, ← a2, List.map_map, List.map_map]
  exact rps_list _ fun t ht => zip3_mem r t ((List.mergeSort_perm _ _).mem_iff.mp ht)
/-- what sorted(xs, key=f) wants -/
def SrtOk (W : Spc) (ps : List P) (kz : List PyData) (h : Hs) : Prop := kz.length = ps.length ∧ AllAlike kz ∧ Sortable kz ∧ (∀ d ∈ kz, d.depth ≤ 60) ∧
  ∀ (i : Nat) (p : P) (k : PyData), ps[i]? = some p → kz[i]? = some k → W [.p p] h fun d h' => h' = h ∧ KeyP d k
theorem srt_go {W : Spc} {f : Addr} {F H : Hp} {ρ : List Addr} {vs zs : List V} {ps : List P} {kz : List PyData} {Q : VK} (rl : Rel K F ρ h H) (a : RA K F ρ [dL ps] vs) (z : RA K F ρ [.p (.cls f)] zs) (ok : SrtOk W ps kz h)
    (k : ∀ (us : List V) (F' : Hp) (H' : Hp) (p : Addr), Same F F' → Rel K F' ρ h H' → H' p = none → RPs K F' (sortP ps kz) us → Q (.ref p) (upd H' p (.lst us))) : rSortK K (spD K W) f vs zs H Q := by
  obtain ⟨hl, hal, hsk, hd, turn⟩ := ok
  cases a with
  | cons a b =>
    cases b
    cases z with
    | cons z b =>
      cases b
      cases z with
      | p z =>
        cases z
        cases a with
        | p a =>
          cases a with
          | @lst a _ vs ha rp =>
            refine ⟨a, vs, kz, fun _ H' => ∃ F', Same F F' ∧ Rel K F' ρ h H', rfl, rfl, rl.same.seq ha, by rw [hl, rp.len], hal, hsk, hd, ⟨F, Same.refl _, rl⟩, ?_, ?_⟩
            · rintro i x kk H' hx hk ⟨F', s, r⟩
              obtain ⟨p, hp⟩ : ∃ p, ps[i]? = some p := ⟨_, List.getElem?_eq_getElem (by have := (List.getElem?_eq_some_iff.mp hk).1; omega)⟩
              obtain ⟨x', hx', rx⟩ := rp.get hp
              rw [hx] at hx'
              cases hx'
              refine ⟨[.p p], h, F', ρ, _, r, .cons (.p (rx.mono s)) .nil, turn i p kk hp hk, fun d h' v F3 ρ3 H3 s3 p3 r3 dv q => ?_⟩
              obtain ⟨rfl, kp⟩ := q
              refine ⟨kp.v r3.same dv, F3, s.trans s3, r.back p3 (junk := []) ?_⟩
              rw [List.append_nil]
              exact r3
            · rintro H' ⟨F', s, r⟩ p hp
              exact k _ F' H' p s r hp ((rps_sort rp (by rw [hl, rp.len])).mono s)
/-- sorted(xs, key=f): a list that stays -/
theorem ve_sortedK {W : Spc} {f : Addr} {t tk : TA} (q : VA K t env h fun xs h1 => VA K tk env h1 fun zs h2 => ∃ ps kz, xs = [dL ps] ∧ zs = [.p (.cls f)] ∧ SrtOk W ps kz h2 ∧ R (dL (sortP ps kz)) h2) : VE K (tCKw (rSortK K (spD K W) f) t tk) env h R := fun F ρ σ H Q rl e k =>
  q F ρ σ H _ rl e fun xs h1 vs F1 ρ1 H1 s1 p1 r1 dx q1 => q1 F1 ρ1 σ H1 _ r1 (e.mono s1 p1) fun zs h2 ws F2 ρ2 H2 s2 p2 r2 dz q2 => by
    obtain ⟨ps, kz, rfl, rfl, ok, q2⟩ := q2
    refine srt_go r2 (dx.mono s2 p2) dz ok fun us F' H' p s r hp rp => ?_
    have sn := fun o => same_new (o := o) (r.free hp)
    exact k _ h2 _ _ ρ2 _ ((s1.trans (s2.trans s)).trans (sn _)) (p1.trans p2) (r.frz hp) (.p (.lst (.of upd_same) (rp.mono (sn _)))) q2
/-- sorted(xs, key=f): an own list -/
theorem ve_sortedKO {W : Spc} {f : Addr} {t tk : TA} (q : VA K t env h fun xs h1 => VA K tk env h1 fun zs h2 => ∃ ps kz, xs = [dL ps] ∧ zs = [.p (.cls f)] ∧ SrtOk W ps kz h2 ∧ R (.own h2.length) (h2 ++ [some (.lst ((sortP ps kz).map D.p))])) : VE K (tCKw (rSortK K (spD K W) f) t tk) env h R := fun F ρ σ H Q rl e k =>
  q F ρ σ H _ rl e fun xs h1 vs F1 ρ1 H1 s1 p1 r1 dx q1 => q1 F1 ρ1 σ H1 _ r1 (e.mono s1 p1) fun zs h2 ws F2 ρ2 H2 s2 p2 r2 dz q2 => by
    obtain ⟨ps, kz, rfl, rfl, ok, q2⟩ := q2
    refine srt_go r2 (dx.mono s2 p2) dz ok fun us F' H' p s r hp rp => ?_
    exact k _ _ _ F' (ρ2 ++ [p]) _ (s1.trans (s2.trans s)) ((p1.trans p2).trans (Pre.push _ _)) (r.push (o := .lst ((sortP ps kz).map D.p)) hp ⟨us, rfl, rp.data⟩) (.own (by rw [← r.len]; simp)) q2
theorem sortP_perm {ps : List P} {kz : List PyData} (h : kz.length = ps.length) : (sortP ps kz).Perm ps := by
  unfold sortP
  refine ((List.mergeSort_perm _ _).map _).trans ?_
  rw [List.map_fst_zip (by omega)]
end
end Kb

/-! Classes, isinstance, defs that call themselves. -/
namespace Kb
open PySem PySem.Spec PyProof.Rows L2
/-- __init__ of a class, as the top has it -/
structure InitAt (K : PySem.W.Frag) (C : Addr) (qual : Str) (st : Stmt) (ps : List Str) : Prop where
  ex : ∃ f fd, Fun K "__init__" qual st f fd ∧ Mk K C f ∧ Binds K fd ps []
structure MethAt (K : PySem.W.Frag) (C : Addr) (m qual : Str) (st : Stmt) (ps : List Str) : Prop where
  ex : ∃ f fd, Fun K m qual st f fd ∧ Meth K C m f ∧ Binds K fd ps []
structure HasMk (P : Program) (w : World) (K : PySem.W.Frag) (mg : Str → Option Value) (base : Heap) (CX : CXT) (k : Nat) (x : Str) (C : Addr) (ps : List Str) (sp : Sp) : Prop where
  ex : ∃ f fd, Mk K C f ∧ FnOk P w K mg base CX k f fd ps sp ∧ Binds K fd ps []
  at_ : mg x = some (.ref C)
structure HasM (P : Program) (w : World) (K : PySem.W.Frag) (mg : Str → Option Value) (base : Heap) (CX : CXT) (k : Nat) (C : Addr) (m : Str) (ps : List Str) (sp : Sp) : Prop where
  cl : Cls K C
  ex : ∃ f fd, Meth K C m f ∧ FnOk P w K mg base CX k f fd ps sp ∧ Binds K fd ps []
section
variable {X : Cx} {CX : CXT} {k : Nat} {x m : Str} {C : Addr} {ps : List Str} {sp : Sp} {E : XK} {p pos apos : Pos} {e o : Expr} {es : List Expr} {t : TA} {ta : TE}
theorem HasMk.make (h : HasMk X.prog X.w X.K X.mg X.base CX k x C ps sp) (hr : Room (k + 1) X.A) (hg : Gl X x) (hx : Passes CX X E)
    (ha : PA X (e :: es) t) (hdb : (x == ("__debug__" : Str)) = false := by decide) (he : starEach (e :: es) X.env = (false, eval e X.env) :: starEach es X.env := by rfl) (hpl : (backTo pos (starEach es X.env)).any (·.1) = false := by rfl) :
    PE X (.Call (.Name x p) (e :: es) [] pos) (tMake C sp [] E t) := by
  obtain ⟨f, fd, M, F, hb⟩ := h.ex
  exact pe_make M F hr hg h.at_ hb .nil hx ha hdb he hpl
theorem HasM.meth {pl : Sem Bool} (h : HasM X.prog X.w X.K X.mg X.base CX k C m ps sp) (hr : Room k X.A) (hx : Passes CX X E) (he : PE X o ta) (ha : PA X (e :: es) t)
    (hst : starEach (e :: es) X.env = (false, eval e X.env) :: starEach es X.env := by rfl) (hpl : (backTo pos (starEach es X.env)).any (·.1) = false := by rfl)
    (ht : eval (.Call (.Attribute o m apos) (e :: es) [] pos) X.env = (do
      let ov ← eval o X.env
      standAt apos.atName
      let (f, first) ← holding [ov] (getMethod ov m pl)
      callWith pos f first (backTo pos (starEach (e :: es) X.env)) (backToKw pos (keywordEach [] X.env))) := by rfl) :
    PE X (.Call (.Attribute o m apos) (e :: es) [] pos) (tMeth C m sp [] E ta t) := by
  obtain ⟨f, fd, M, F, hb⟩ := h.ex
  exact pe_meth he h.cl M F hr hb .nil hx ha hst hpl ht
theorem HasM.meth0 {pl : Sem Bool} (h : HasM X.prog X.w X.K X.mg X.base CX k C m ps sp) (hr : Room k X.A) (hx : Passes CX X E) (he : PE X o ta)
    (ht : eval (.Call (.Attribute o m apos) [] [] pos) X.env = (do
      let ov ← eval o X.env
      standAt apos.atName
      let (f, first) ← holding [ov] (getMethod ov m pl)
      callWith pos f first (backTo pos (starEach [] X.env)) (backToKw pos (keywordEach [] X.env))) := by rfl) :
    PE X (.Call (.Attribute o m apos) [] [] pos) (tMeth C m sp [] E ta tNil) := by
  obtain ⟨f, fd, M, F, hb⟩ := h.ex
  exact pe_meth0 he h.cl M F hr hb .nil hx ht
end
section
variable {Pg : Program} {w : World} {K : PySem.W.Frag} {mg : Str → Option Value} {base : Heap} {x m qual : Str} {st : Stmt} {N ps : List Str} {k : Nat} {C : Addr}
theorem fnD {x qual : Str} {f : Addr} {fd : FuncData} (F : Fun K x qual st f fd) (S : FnScope N ps (defScope st)) (W : Spc) (len : ∀ ds h R, W ds h R → ds.length = ps.length)
    (hbody : ∀ (cdv : Value) (A : Around) (outer : List Env) (s : Shared) (H : Hp) (E : XK), Room k (A.deeper (envOfC qual (defScope st) s.heap.objs.size f cdv)) →
      ∃ t, PSs (cxOf CX0 Pg w K mg base N qual (defScope st) f cdv A outer s H E).nox (defBody st) t ∧ ∀ ds h R, W ds h R → VS K t { nx := fun _ h' => R dN h', rt := R } (startD N ds) h) : FnOk Pg w K mg base CX0 (k + 1) f fd ps (spD K W) := by
  refine F.ok S (fun vs H Q E h => ?_) fun cdv A outer s H vs Q E hr h => ?_
  · obtain ⟨ds, h, F, ρ, R, rl, ra, hw, _⟩ := h
    rw [← ra.len]
    exact len ds h R hw
  · obtain ⟨ds, h, F, ρ, R, rl, ra, hw, kq⟩ := h
    obtain ⟨t, ht, q⟩ := hbody cdv A outer s H E hr
    exact ⟨t, ht, q ds h R hw F ρ _ H _ rl (renv_start ra) ⟨fun env' h' F' ρ' σ' H' s p r e q => kq dN h' .non F' ρ' H' s p r (.p .non) q, fun d h' v F' ρ' H' s p r dv q => kq d h' v F' ρ' H' s p r dv q, fun _ _ _ _ _ _ _ _ _ _ z => z.elim, fun _ _ _ _ _ _ _ _ _ _ z => z.elim⟩⟩
theorem InitAt.okD (A : InitAt K C qual st ps) (hm : mg x = some (.ref C)) (S : FnScope N ps (defScope st)) (W : Spc) (len : ∀ ds h R, W ds h R → ds.length = ps.length)
    (hbody : ∀ (f : Addr) (cdv : Value) (A : Around) (outer : List Env) (s : Shared) (H : Hp) (E : XK), Room k (A.deeper (envOfC qual (defScope st) s.heap.objs.size f cdv)) →
      ∃ t, PSs (cxOf CX0 Pg w K mg base N qual (defScope st) f cdv A outer s H E).nox (defBody st) t ∧ ∀ ds h R, W ds h R → VS K t { nx := fun _ h' => R dN h', rt := R } (startD N ds) h) : HasMk Pg w K mg base CX0 (k + 1) x C ps (spD K W) := by
  obtain ⟨f, fd, F, M, hb⟩ := A.ex
  exact ⟨⟨f, fd, M, fnD F S W len (hbody f), hb⟩, hm⟩
theorem MethAt.okD (A : MethAt K C m qual st ps) (cl : Cls K C) (S : FnScope N ps (defScope st)) (W : Spc) (len : ∀ ds h R, W ds h R → ds.length = ps.length)
    (hbody : ∀ (f : Addr) (cdv : Value) (A : Around) (outer : List Env) (s : Shared) (H : Hp) (E : XK), Room k (A.deeper (envOfC qual (defScope st) s.heap.objs.size f cdv)) →
      ∃ t, PSs (cxOf CX0 Pg w K mg base N qual (defScope st) f cdv A outer s H E).nox (defBody st) t ∧ ∀ ds h R, W ds h R → VS K t { nx := fun _ h' => R dN h', rt := R } (startD N ds) h) : HasM Pg w K mg base CX0 (k + 1) C m ps (spD K W) := by
  obtain ⟨f, fd, F, M, hb⟩ := A.ex
  exact ⟨cl, f, fd, M, fnD F S W len (hbody f), hb⟩
/-- a def that nobody may call yet -/
theorem HasF.never (A : DefAt K mg x st ps) (S : FnScope N ps (defScope st)) {W : Spc} (hw : ∀ ds h R, ¬ W ds h R) : HasF Pg w K mg base CX0 (k + 1) x ps (spD K W) :=
  A.okD S W (fun ds h R q => (hw _ _ _ q).elim) fun f cdv A outer s H E hr => ⟨_, pss_never, fun ds h R q => (hw _ _ _ q).elim⟩
end
section
variable {K : PySem.W.Frag} {env : Env'} {h : Hs} {R : D → Hs → Prop} {ta : TE} {t : TA} {C : Addr}
/-- C(..), the instance stays as it is from then on -/
theorem ve_makeF {W : Spc} {E : XK} (q : VA K t env h fun xs h1 => W (.own h1.length :: xs) (h1 ++ [some (.ins C [])]) fun d h2 => d = dN ∧ ∃ fs : List (Str × P), h2 = h1 ++ [some (.ins C (fs.map fun q => (q.1, D.p q.2)))] ∧ R (.p (.ins C fs)) h1) :
    VE K (tMake C (spD K W) [] E t) env h R := fun F ρ σ H Q rl e k =>
  q F ρ σ H _ rl e fun xs h1 vs F1 ρ1 H1 s1 p1 r1 dxs q1 => by
    intro x dx hx hdx hne
    have hx' : (upd H1 dx (.own x)) x = none := by rw [upd_ne (Ne.symm hne)]; exact hx
    have sn : Same F1 (upd F1 dx (.own x)) := same_new (r1.free hdx)
    have r2 : Rel K (upd F1 dx (.own x)) ρ1 h1 (upd H1 dx (.own x)) := r1.frz hdx
    have r3 := r2.push (o := .ins C []) (u := .ins C dx []) hx' ⟨dx, [], rfl, .nil⟩
    refine ⟨.own h1.length :: xs, _, _, ρ1 ++ [x], _, r3, .cons (.own (by rw [← r1.len]; simp)) (by rw [List.append_nil]; exact dxs.mono sn (Pre.push _ _)), q1, fun d h' v F' ρ' H' s p r dv q2 => ?_⟩
    obtain ⟨rfl, fs, rfl, q2⟩ := q2
    refine ⟨dv.non, ?_⟩
    obtain ⟨a, u, e1, e2, e3, e4, r4⟩ := r.freeze (i := h1.length) (o := .ins C (fs.map fun q => (q.1, D.p q.2))) (by simp)
    have ea : ρ'[h1.length]? = some x := p _ _ (by rw [← r1.len]; simp)
    rw [ea] at e1
    cases e1
    obtain ⟨dx', gs, rfl, e5⟩ := e4
    have pp : Pre ρ1 ρ' := (Pre.push ρ1 x).trans p
    have r5 : Rel K (upd F' x (.ins C dx' gs)) ρ' (h1 ++ [none]) H' := by
      have z := r4
      rw [List.set_append_right _ _ (Nat.le_refl _), Nat.sub_self] at z
      exact z
    exact k _ h1 _ _ ρ1 H' ((s1.trans (sn.trans s)).trans (same_new e2)) p1 (r1.back pp r5) (.p (.ins upd_same e5.pure)) q2
def InsD (C : Addr) (m : Str) (x : D) (h : Hs) : Prop := match x with
  | .p (.ins C' fs) => C' = C ∧ (fs.map fun q => (q.1, D.p q.2)).lookup m = none
  | .own i => ∃ fs, h[i]? = some (some (.ins C fs)) ∧ fs.lookup m = none
  | _ => False
theorem ve_meth {m : Str} {W : Spc} {E : XK} (q : VE K ta env h fun x h1 => InsD C m x h1 ∧ VA K t env h1 fun xs h2 => W (x :: xs) h2 R) : VE K (tMeth C m (spD K W) [] E ta t) env h R := fun F ρ σ H Q rl e k =>
  q F ρ σ H _ rl e fun x h1 vx F1 ρ1 H1 s1 p1 r1 dx q1 => by
    obtain ⟨hi, q1⟩ := q1
    have go : ∀ a dd gs, vx = .ref a → H1 a = some (.ins C dd gs) → gs.lookup m = none → ∃ a dx fs, vx = .ref a ∧ H1 a = some (.ins C dx fs) ∧ fs.lookup m = none ∧ t σ H1 fun vs H2 => spD K W (vx :: (vs ++ [])) H2 Q E := fun a dd gs g1 g2 g3 =>
      ⟨a, dd, gs, g1, g2, g3, q1 F1 ρ1 σ H1 _ r1 (e.mono s1 p1) fun xs h2 vs F2 ρ2 H2 s2 p2 r2 dxs q2 => ⟨x :: xs, h2, F2, ρ2, R, r2, .cons (dx.mono s2 p2) (by rw [List.append_nil]; exact dxs), q2, fun d h' v F' ρ' H' s3 p3 r3 dv q3 => k d h' v F' ρ' H' (s1.trans (s2.trans s3)) (p1.trans (p2.trans p3)) r3 dv q3⟩⟩
    cases id dx with
    | p dx =>
      cases dx with
      | ins a b =>
        obtain ⟨rfl, l⟩ := hi
        exact go _ _ _ rfl (r1.same _ _ a) ((b.data (ρ := ρ1)).lookN l)
      | _ => exact hi.elim
    | own ho =>
      obtain ⟨fs, hx, l⟩ := hi
      obtain ⟨a, u, e1, e2, e3, dd, gs, e4, e5⟩ := r1.own _ _ hx
      rw [ho] at e1; cases e1
      subst e4
      exact go _ _ _ rfl e3 (e5.lookN l)
/-! ### isinstance -/
/-- the name of the type of what is written data -/
def tyN : P → Option String
  | .non => some "NoneType"
  | .bl _ => some "bool"
  | .int _ => some "int"
  | .str _ => some "str"
  | .tup _ => some "tuple"
  | .lst _ => some "list"
  | _ => none
def tyD (d : D) (h : Hs) (T : String) : Prop := match d with
  | .p p => tyN p = some T
  | .own i => T = "list" ∧ ∃ xs, h[i]? = some (some (.lst xs))
def isA (a b : String) : Bool := a == b || (a == "bool" && b == "int")
theorem tyD.v {F : Hp} {ρ : List Addr} {H : Hp} {d : D} {v : V} {T : String} (r : Rel K F ρ h H) (q : RD K F ρ d v) (hT : tyD d h T) : TyX K H v (.type T) := by
  cases q with
  | p q =>
    cases q with
    | non => cases hT; exact .base .non
    | bl b => cases hT; exact .base (.bl b)
    | int b => cases hT; exact .base (.int b)
    | str b => cases hT; exact .base (.str b)
    | tup a b =>
      cases hT
      rcases sqT_mono r.same a with (a | ⟨o, a⟩) | ⟨o, its, n, a, c, _⟩
      · exact .base (.tup a)
      · exact .fTuple a
      · exact .kTuple a c
    | lst a b =>
      cases hT
      rcases r.same.seq a with (a | ⟨o, a⟩) | ⟨o, its, n, a, c, _⟩
      · exact .base (.lst a)
      · exact .base (.frz a)
      · exact .kList a c
    | ins a b => cases hT
    | ty n => cases hT
    | cls n => cases hT
  | own e =>
    obtain ⟨rfl, xs, hx⟩ := hT
    obtain ⟨a, u, e1, e2, e3, vs, e4, _⟩ := r.own _ _ hx
    rw [e] at e1; cases e1
    subst e4
    exact .base (.lst e3)
theorem isA_kit {a b : String} (ha : a ∈ ["NoneType", "bool", "int", "str", "tuple", "list"]) (hb : b ∈ ["bool", "int", "str", "tuple", "list", "dict"]) : PySem.W.kitOne K (.type a) (.type b) = some (isA a b) := by
  refine kit_ty ?_
  have all : ∀ a ∈ ["NoneType", "bool", "int", "str", "tuple", "list"], ∀ b ∈ ["bool", "int", "str", "tuple", "list", "dict"], kitB a b = some (isA a b) := by decide +kernel
  exact all a ha b hb
theorem tyD_mem {d : D} {T : String} (hT : tyD d h T) : T ∈ ["NoneType", "bool", "int", "str", "tuple", "list"] := by
  cases d with
  | p p =>
    cases p <;> first | (cases hT; decide) | cases hT
  | own i => rw [hT.1]; decide
/-- isinstance(x, T) -/
theorem vc_isi {x : D} {T n : String} (hT : tyD x h T) (hn : n ∈ ["bool", "int", "str", "tuple", "list", "dict"]) (q : R (dB (isA T n)) h) : VC K (rIsiU K) [x, .p (.ty n)] h R := fun F ρ H vs Q rl a k => by
  cases a with
  | cons a b =>
    cases b with
    | cons b c =>
      cases c
      cases b with
      | p b =>
        cases b
        exact .inl ⟨_, _, _, _, _, rfl, .ty n, hT.v rl a, isA_kit (tyD_mem hT) hn, k _ h _ F ρ H (Same.refl _) (Pre.refl _) rl (.p (.bl _)) q⟩
/-- isinstance(x, (T, S)) -/
theorem ve_isi2 {m n : String} (q : VE K ta env h fun x h1 => ∃ T, tyD x h1 T ∧ m ∈ ["bool", "int", "str", "tuple", "list", "dict"] ∧ n ∈ ["bool", "int", "str", "tuple", "list", "dict"] ∧ R (dB (isA T m || isA T n)) h1) :
    VE K (tCB (rIsiU K) (tCons ta (tCons (tTup (tCons (tC (.ty m)) (tCons (tC (.ty n)) tNil))) tNil))) env h R := fun F ρ σ H Q rl e k =>
  q F ρ σ H _ rl e fun x h1 vx F1 ρ1 H1 s1 p1 r1 dx q1 => by
    obtain ⟨T, hT, hm, hn, q1⟩ := q1
    refine ⟨by show 2 ≤ sizeLine; exact sz_le (by decide), fun p hp => ?_⟩
    have r2 : Rel K (upd F1 p (.tup [.ty m, .ty n])) ρ1 h1 (upd H1 p (.tup [.ty m, .ty n])) := r1.frz hp
    have sn : Same F1 (upd F1 p (.tup [.ty m, .ty n])) := same_new (r1.free hp)
    refine .inr ⟨vx, p, [.ty m, .ty n], _, [.type m, .type n], isA T m || isA T n, rfl, upd_same, .cons (.ty m) (.cons (.ty n) .nil), hT.v r2 (dx.mono sn (Pre.refl _)), ?_, ?_⟩
    · have e1 := isA_kit (K := K) (tyD_mem hT) hm
      have e2 := isA_kit (K := K) (tyD_mem hT) hn
      refine kitAny_cons e1 (fun z => ?_) fun z => by rw [z]; rfl
      rw [z, Bool.false_or]
      refine kitAny_cons e2 (fun z2 => ?_) fun z2 => z2
      rw [z2]
      rfl
    · exact k _ h1 _ _ ρ1 _ (s1.trans sn) p1 r2 (.p (.bl _)) q1
end
end Kb

/-! What is walked is a list or a tuple; data of bounded depth. -/
namespace Kb
open PySem PySem.Spec PyProof.Rows L2
/-- either kind -/
def iSeq (K : PySem.W.Frag) (tl : TE) : TI := fun σ H R => tl σ H fun x H1 => (∃ a, x = .ref a ∧ (∃ xs, SqL K H1 a xs) ∧ R (Itl K a) H1) ∨ ∃ a, x = .ref a ∧ (∃ xs, SqT K H1 a xs) ∧ R (Itt K a) H1
theorem pi_seq {X : Cx} {tg l : Expr} {tl : TE} (hl : PE X l tl) : PI X tg l (iSeq X.K tl) := by
  refine ⟨fun pins s σ H R I h => ?_⟩
  refine thn (hl.run pins s σ H _ I h) fun v s1 ⟨x, H1, I1, r1, q1⟩ => ?_
  have fin : ∀ b ∈ [s1.heap.objs.size], _ := fun b hb => by
    have e : b = s1.heap.objs.size := by simpa using hb
    subst e
    exact I1.fpOk (Nat.le_refl _) (I1.hok.fresh (Nat.le_refl _))
  rcases q1 with q1 | q1 <;> obtain ⟨a, e, ⟨xs, hq⟩, q⟩ := q1 <;> subst e <;> cases r1
  · obtain ⟨its, rv, p, hz⟩ := I1.list hq
    refine wpAny_pyIter_list p.isList ?_
    exact ⟨s1.heap.objs.size, [s1.heap.objs.size], _, _, H1, rfl, I1.kept (t' := s1.toks) fun b o e => Heap.get?_push_of_some _ e, turn_list a _, ⟨_, Heap.get?_push_size _ rfl, rfl, rfl⟩, fin, q⟩
  · obtain ⟨its, rv, p, hz⟩ := I1.tuple hq
    refine wpAny_pyIter_tuple (show s1.heap.IsTuple a its.toArray from p) ?_
    exact ⟨s1.heap.objs.size, [s1.heap.objs.size], _, _, H1, rfl, I1.kept (t' := s1.toks) fun b o e => Heap.get?_push_of_some _ e, turn_tuple a _, ⟨_, Heap.get?_push_size _ rfl, rfl, rfl⟩, fin, q⟩
section
variable {K : PySem.W.Frag} {env : Env'} {h : Hs}
theorem vi_seqL {tl : TE} {R : List D → (Hs → Prop) → Hs → Prop} (q : VE K tl env h fun x h1 => ∃ ps, x = dL ps ∧ R (ps.map D.p) (fun _ => True) h1) : VI K (iSeq K tl) env h R := fun F ρ σ H Q rl e k =>
  q F ρ σ H _ rl e fun x h1 vx F1 ρ1 H1 s1 p1 r1 dx q1 => by
    obtain ⟨ps, rfl, q1⟩ := q1
    cases dx with
    | p dx =>
      cases dx with
      | @lst a _ vs ha rp =>
        refine .inl ⟨a, rfl, ⟨vs, r1.same.seq ha⟩, k (ps.map D.p) (fun _ => True) h1 _ F1 ρ1 H1 s1 p1 r1 ⟨fun F' ρ' h' H' s p r _ => ?_, fun i F' ρ' h' H' s p r _ hi => ?_, fun i d F' ρ' h' H' x H2 s p r _ hd hy => ?_⟩ q1⟩
        · exact ⟨vs, r.same.seq (s.seq ha), by rw [List.length_map, rp.len]; exact Nat.le_refl _⟩
        · rw [List.length_map, rp.len] at hi
          exact ⟨vs, vs[i], r.same.seq (s.seq ha), List.getElem?_eq_getElem hi⟩
        · obtain ⟨e1, e2⟩ := hy
          subst e1
          rw [List.getElem?_map] at hd
          cases hp : ps[i]? with
          | none => rw [hp] at hd; cases hd
          | some p0 =>
            rw [hp] at hd; cases hd
            obtain ⟨v, hv, rv⟩ := rp.get hp
            have ev := e2 vs (r.same.seq (s.seq ha))
            rw [hv] at ev; cases ev
            exact ⟨F', Same.refl _, r, .p (rv.mono s)⟩
theorem vi_seqT {tl : TE} {R : List D → (Hs → Prop) → Hs → Prop} (q : VE K tl env h fun x h1 => ∃ ps, x = dT ps ∧ R (ps.map D.p) (fun _ => True) h1) : VI K (iSeq K tl) env h R := fun F ρ σ H Q rl e k =>
  q F ρ σ H _ rl e fun x h1 vx F1 ρ1 H1 s1 p1 r1 dx q1 => by
    obtain ⟨ps, rfl, q1⟩ := q1
    cases dx with
    | p dx =>
      cases dx with
      | @tup a _ vs ha rp =>
        refine .inr ⟨a, rfl, ⟨vs, sqT_mono r1.same ha⟩, k (ps.map D.p) (fun _ => True) h1 _ F1 ρ1 H1 s1 p1 r1 ⟨fun F' ρ' h' H' s p r _ => ?_, fun i F' ρ' h' H' s p r _ hi => ?_, fun i d F' ρ' h' H' x H2 s p r _ hd hy => ?_⟩ q1⟩
        · exact ⟨vs, sqT_mono r.same (sqT_mono s ha), by rw [List.length_map, rp.len]; exact Nat.le_refl _⟩
        · rw [List.length_map, rp.len] at hi
          exact ⟨vs, vs[i], sqT_mono r.same (sqT_mono s ha), List.getElem?_eq_getElem hi⟩
        · obtain ⟨e1, e2⟩ := hy
          subst e1
          rw [List.getElem?_map] at hd
          cases hp : ps[i]? with
          | none => rw [hp] at hd; cases hd
          | some p0 =>
            rw [hp] at hd; cases hd
            obtain ⟨v, hv, rv⟩ := rp.get hp
            have ev := e2 vs (sqT_mono r.same (sqT_mono s ha))
            rw [hv] at ev; cases ev
            exact ⟨F', Same.refl _, r, .p (rv.mono s)⟩
theorem vi_seqO {tl : TE} {R : List D → (Hs → Prop) → Hs → Prop} (q : VE K tl env h fun x h1 => ∃ n xs, x = .own n ∧ h1[n]? = some (some (.lst xs)) ∧ R xs (fun h2 => h2[n]? = some (some (.lst xs))) h1) : VI K (iSeq K tl) env h R := fun F ρ σ H Q rl e k =>
  q F ρ σ H _ rl e fun x h1 vx F1 ρ1 H1 s1 p1 r1 dx q1 => by
    obtain ⟨n, xs, rfl, hx, q1⟩ := q1
    cases dx with
    | @own a _ ha =>
      have at_ : ∀ (F' : Hp) (ρ' : List Addr) (h' : Hs) (H' : Hp), Pre ρ1 ρ' → Rel K F' ρ' h' H' → h'[n]? = some (some (.lst xs)) → ∃ vs, H' a = some (.lst vs) ∧ RA K F' ρ' xs vs := fun F' ρ' h' H' p r hn => by
        obtain ⟨a', u, e1, e2, e3, vs, e4, e5⟩ := r.own _ _ hn
        rw [p _ _ ha] at e1; cases e1
        subst e4
        exact ⟨vs, e3, e5⟩
      obtain ⟨vs, hv, _⟩ := at_ F1 ρ1 h1 H1 (Pre.refl _) r1 hx
      refine .inl ⟨a, rfl, ⟨vs, .of hv⟩, k xs _ h1 _ F1 ρ1 H1 s1 p1 r1 ⟨fun F' ρ' h' H' s p r c => ?_, fun i F' ρ' h' H' s p r c hi => ?_, fun i d F' ρ' h' H' x H2 s p r c hd hy => ?_⟩ q1⟩
      · obtain ⟨vs, hv, rv⟩ := at_ F' ρ' h' H' p r c
        exact ⟨vs, .of hv, by rw [rv.len]; exact Nat.le_refl _⟩
      · obtain ⟨vs, hv, rv⟩ := at_ F' ρ' h' H' p r c
        rw [rv.len] at hi
        exact ⟨vs, vs[i], .of hv, List.getElem?_eq_getElem hi⟩
      · obtain ⟨e1, e2⟩ := hy
        subst e1
        obtain ⟨vs, hv, rv⟩ := at_ F' ρ' h' _ p r c
        obtain ⟨v, h1, h2⟩ := rv.get hd
        have ev := e2 vs (.of hv)
        rw [h1] at ev; cases ev
        exact ⟨F', Same.refl _, r, h2⟩

theorem vc_lenL {xs : List P} {R : D → Hs → Prop} (q : R (dI xs.length) h) : VC K (fun xs H Q => ∃ x n, xs = [x] ∧ LenV K x H n ∧ Q (.int n) H) [dL xs] h R := vc_len (n := xs.length) rfl q
theorem vc_lenT {xs : List P} {R : D → Hs → Prop} (q : R (dI xs.length) h) : VC K (fun xs H Q => ∃ x n, xs = [x] ∧ LenV K x H n ∧ Q (.int n) H) [dT xs] h R := vc_len (n := xs.length) rfl q
theorem vc_lenO {i : Nat} {xs : List D} {R : D → Hs → Prop} (hx : h[i]? = some (some (.lst xs))) (q : R (dI xs.length) h) : VC K (fun xs H Q => ∃ x n, xs = [x] ∧ LenV K x H n ∧ Q (.int n) H) [.own i] h R := vc_len (n := xs.length) ⟨xs, hx, rfl⟩ q
theorem ite_nrefl {α : Type} [DecidableEq α] {a : α} {A B : Prop} (q : B) : if (!decide (a = a)) = true then A else B := by rw [decide_eq_true (rfl : a = a)]; exact q
theorem ite_refl {α : Type} [DecidableEq α] {a : α} {A B : Prop} (q : A) : if decide (a = a) = true then A else B := by rw [decide_eq_true (rfl : a = a)]; exact q
theorem isi2_i {x : D} {T m n : String} {S : String → Prop} (hT : tyD x h T) (hm : m ∈ ["bool", "int", "str", "tuple", "list", "dict"]) (hn : n ∈ ["bool", "int", "str", "tuple", "list", "dict"]) (q : S T) :
    ∃ T, tyD x h T ∧ m ∈ ["bool", "int", "str", "tuple", "list", "dict"] ∧ n ∈ ["bool", "int", "str", "tuple", "list", "dict"] ∧ S T := ⟨T, hT, hm, hn, q⟩
theorem ite_tt {c : Bool} {A B : Prop} (e : c = true) (q : A) : if c = true then A else B := by rw [if_pos e]; exact q
theorem ite_ff {c : Bool} {A B : Prop} (e : c = false) (q : B) : if c = true then A else B := by rw [e, if_neg Bool.false_ne_true]; exact q
theorem vt_yes {B : Bool → Hs → Prop} (q : B true h) : VT K tYes env h B := fun F ρ σ H Q rl e k => k true h F ρ H (Same.refl _) (Pre.refl _) rl q
theorem fm_get {α : Type} (ys : List α) : (List.range ys.length).filterMap (fun i => ys[i]?) = ys := by
  induction ys with
  | nil => rfl
  | cons x xs ih =>
    rw [List.length_cons, List.range_succ_eq_map, List.filterMap_cons]
    simp only [List.getElem?_cons_zero, List.filterMap_map]
    exact congrArg (x :: ·) ih
theorem ve_lcMap {wi : TI} {g : TG} {te : TE} {vs : List Nat} {R : D → Hs → Prop} (tg : TgOk g vs)
    (q : VI K wi env h fun ds C h1 => ∃ ys : List P, ys.length = ds.length ∧ ds.length < sizeLine ∧ (∀ acc, C (h1 ++ [some (.lst acc)])) ∧
      (∀ (i : Nat) (d : D) (y : P) (acc : List D), ds[i]? = some d → ys[i]? = some y → VG K g d (wipeD env vs) (h1 ++ [some (.lst acc)]) fun env' h' => h' = h1 ++ [some (.lst acc)] ∧ VE K te env' h' fun z h3 => h3 = h1 ++ [some (.lst acc)] ∧ z = .p y) ∧ R (dL ys) h1) : VE K (tLc wi g tYes te vs) env h R :=
  ve_lc tg fun F ρ σ H Q rl e k => q F ρ σ H Q rl e fun ds C h' J F' ρ' H' s p r it ⟨ys, hl, hz, hC, turn, fin⟩ => k ds C h' J F' ρ' H' s p r it
    ⟨fun i => ys[i]?, hz, hC, fun i d acc hd => by
      have hi : i < ys.length := by rw [hl]; exact (List.getElem?_eq_some_iff.mp hd).1
      have ey : ys[i]? = some ys[i] := List.getElem?_eq_getElem hi
      refine fun F ρ σ H v Q rl e dv k => turn i d _ acc hd ey F ρ σ H v Q rl e dv fun env' h' F' ρ' σ' H' s p r e' ⟨eh, qe⟩ => k env' h' F' ρ' σ' H' s p r e' ⟨eh, vt_yes ⟨rfl, ite_tt rfl ?_⟩⟩
      exact VE.imp qe fun z h3 ⟨a, b⟩ => ⟨a.trans eh.symm, ys[i], b, ey⟩, by rw [← hl, fm_get]; exact fin⟩
end
/-- written data of bounded depth and bounded lengths -/
def okP : Nat → P → Bool
  | _, .non => true
  | _, .bl _ => true
  | _, .int _ => true
  | _, .str s => decide (s.length ≤ 100000)
  | n + 1, .tup xs => decide (xs.length ≤ 100000) && xs.all (okP n)
  | n + 1, .lst xs => decide (xs.length ≤ 100000) && xs.all (okP n)
  | _, _ => false
theorem okP_tup {n : Nat} {xs : List P} (h : okP n (.tup xs) = true) : ∃ m, n = m + 1 ∧ xs.length ≤ 100000 ∧ ∀ x ∈ xs, okP m x = true := by
  cases n with
  | zero => simp [okP] at h
  | succ n =>
    simp only [okP, Bool.and_eq_true, decide_eq_true_eq, List.all_eq_true] at h
    exact ⟨n, rfl, h.1, h.2⟩
theorem okP_lst {n : Nat} {xs : List P} (h : okP n (.lst xs) = true) : ∃ m, n = m + 1 ∧ xs.length ≤ 100000 ∧ ∀ x ∈ xs, okP m x = true := by
  cases n with
  | zero => simp [okP] at h
  | succ n =>
    simp only [okP, Bool.and_eq_true, decide_eq_true_eq, List.all_eq_true] at h
    exact ⟨n, rfl, h.1, h.2⟩
/-- tuples in place of all lists -/
def frzP : Nat → P → P
  | n + 1, .tup xs => .tup (xs.map (frzP n))
  | n + 1, .lst xs => .tup (xs.map (frzP n))
  | _, x => x
end Kb

/-! sum of a list or a tuple; fields; more steps. -/
namespace Kb
open PySem PySem.Spec PyProof.Rows L2
section
variable {prog : Program} {w : World} {A : Around} {E : Value → Shared → Prop} {s : Shared} {l : Addr} {its : List Value} {ns : List Int} {Q : Value → Shared → Prop}
theorem sum_tup (hh : A.handled = none) (hl : s.heap.IsTuple l its.toArray) (hi : IntsAre its ns)
    (h : ∀ h' tk t', (∀ b o, s.heap.get? b = some o → h'.get? b = some o) → Q (.int ns.sum t') { s with heap := h', toks := tk }) : wpAny (model prog w) A (call (.builtin "sum") [.ref l]) Q E s := by
  obtain ⟨xs, e⟩ := hi.allInts.items
  have hn : numsOf (intItems xs).toList = ns := by rw [← e]; exact hi.numsOf
  rw [nums_intItems] at hn
  rw [e] at hl
  have hlt : l < s.heap.objs.size := by obtain ⟨_, e, _⟩ := hl; exact Heap.lt_size e
  refine call_sum_walkG (wpAny_pyIter_tuple hl ?_)
  refine ⟨s.heap.objs.size, _, _, _, _, _, numAt xs, rfl, Walks.tuple (A := A.in1) hh _ l (Nat.ne_of_lt hlt) (intItems xs), ⟨⟨_, Heap.get?_push_size _ rfl, rfl, rfl⟩, hl.at fun o e => Heap.get?_push_of_some _ e⟩, fun b hb => ?_, (fun _ _ => intItems_at), fun h' tk t' hk => ?_⟩
  · show b < (s.heap.push _).objs.size
    rw [Heap.size_push]
    rcases List.mem_cons.mp hb with rfl | hb
    · exact Nat.lt_succ_self _
    · rw [List.mem_singleton.mp hb]
      exact Nat.lt_succ_of_lt hlt
  · have := h h' tk t' fun b o e => hk b o (fun hm => by rw [List.mem_singleton.mp hm] at e; exact absurd (Heap.lt_size e) (Nat.lt_irrefl _)) (Heap.get?_push_of_some _ e)
    have e3 : preSum (numAt xs) (intItems xs).size = ns.sum := by
      rw [show (intItems xs).size = xs.size from by simp [intItems], preSum_eq, List.take_of_length_le (by simp), hn]
    rw [e3]
    exact this
end
section
variable {X : Cx}
def rSumT (K : PySem.W.Frag) : List V → Hp → VK → Prop := fun vs H Q => ∃ (a : Addr) (ns : List Int), vs = [V.ref a] ∧ SqT K H a (ns.map V.int) ∧ Q (.int ns.sum) H
theorem cr_sumT (hc : X.calm = true) : CallR X (.builtin "sum") (rSumT X.K) := by
  intro pins s σ H vs us Q I r h
  obtain ⟨a, ns, rfl, hs, q⟩ := h
  obtain ⟨its, rv, hl, _⟩ := I.tuple hs
  rw [Vals.ref1 r]
  exact sum_tup (I.ok.hd hc) hl rv.ints fun h' tk t' hk => ⟨.int _, H, I.kept hk, ⟨_, rfl⟩, q⟩
def rSumU (K : PySem.W.Frag) : List V → Hp → VK → Prop := fun xs H Q => rSum K xs H Q ∨ rSumT K xs H Q
theorem cr_sumU (hc : X.calm = true) : CallR X (.builtin "sum") (rSumU X.K) := CallR.or (cr_sum hc) (cr_sumT hc)
end
section
variable {K : PySem.W.Frag} {env : Env'} {h : Hs} {R : D → Hs → Prop}
theorem vc_sumL {ns : List Int} (q : R (dI ns.sum) h) : VC K (rSumU K) [dL (ns.map P.int)] h R := fun F ρ H vs Q rl a k => .inl (vc_sum (.inl rfl) q F ρ H vs Q rl a k)
theorem vc_sumT {ns : List Int} (q : R (dI ns.sum) h) : VC K (rSumU K) [dT (ns.map P.int)] h R := fun F ρ H vs Q rl a k => .inr (by
  cases a with
  | cons a b =>
    cases b
    cases a with
    | p a =>
      cases a with
      | tup a r =>
        have e := r.ints
        subst e
        exact ⟨_, ns, rfl, sqT_mono rl.same a, k _ h _ F ρ H (Same.refl _) (Pre.refl _) rl (.p (.int _)) q⟩)
theorem fld_i {x : D} {f : Str} {C : Addr} {d : D} {S : D → Prop} (l : FldD f x h C d) (c : Cls K C) (n : NoAttr K C f) (q : S d) : ∃ C d, Cls K C ∧ NoAttr K C f ∧ FldD f x h C d ∧ S d := ⟨C, d, c, n, l, q⟩
class IsPs (xs : List D) (ps : outParam (List P)) : Prop where
  eq : xs = ps.map D.p
instance : IsPs [] [] := ⟨rfl⟩
instance {x : P} {ds : List D} {ps : List P} [h : IsPs ds ps] : IsPs (.p x :: ds) (x :: ps) := ⟨by rw [h.eq]; rfl⟩
theorem tup_j {S : List P → Prop} {xs : List D} {ps : List P} [ex : IsPs xs ps] (hl : Nat.ble xs.length 100000 = true) (q : S ps) : ∃ ps, xs = ps.map D.p ∧ xs.length ≤ sizeLine ∧ S ps := ⟨ps, ex.eq, sz_le (Nat.le_of_ble_eq_true hl), q⟩
theorem frz_idem : ∀ (n : Nat) (x : P), frzP n (frzP n x) = frzP n x
  | 0, x => rfl
  | n + 1, .tup xs => by
    show P.tup _ = P.tup _
    rw [List.map_map]
    exact congrArg P.tup (List.map_congr_left fun x _ => frz_idem n x)
  | n + 1, .lst xs => by
    show P.tup _ = P.tup _
    rw [List.map_map]
    exact congrArg P.tup (List.map_congr_left fun x _ => frz_idem n x)
  | n + 1, .non => rfl
  | n + 1, .bl _ => rfl
  | n + 1, .int _ => rfl
  | n + 1, .str _ => rfl
  | n + 1, .ins _ _ => rfl
  | n + 1, .ty _ => rfl
  | n + 1, .cls _ => rfl
theorem okP_frz : ∀ (n : Nat) (x : P), okP n x = true → okP n (frzP n x) = true
  | 0, x, h => h
  | n + 1, .tup xs, h => by
    simp only [okP, Bool.and_eq_true, decide_eq_true_eq, List.all_eq_true] at h
    simp only [frzP, okP, Bool.and_eq_true, decide_eq_true_eq, List.all_eq_true, List.length_map, List.mem_map]
    refine ⟨h.1, ?_⟩
    rintro y ⟨x, hx, rfl⟩
    exact okP_frz n x (h.2 x hx)
  | n + 1, .lst xs, h => by
    simp only [okP, Bool.and_eq_true, decide_eq_true_eq, List.all_eq_true] at h
    simp only [frzP, okP, Bool.and_eq_true, decide_eq_true_eq, List.all_eq_true, List.length_map, List.mem_map]
    refine ⟨h.1, ?_⟩
    rintro y ⟨x, hx, rfl⟩
    exact okP_frz n x (h.2 x hx)
  | n + 1, .non, h => h
  | n + 1, .bl _, h => h
  | n + 1, .int _, h => h
  | n + 1, .str _, h => h
  | n + 1, .ins _ _, h => h
  | n + 1, .ty _, h => h
  | n + 1, .cls _, h => h
theorem frz_ints (n : Nat) (ns : List Int) : frzP (n + 1) (.lst (ns.map P.int)) = .tup (ns.map P.int) ∧ frzP (n + 1) (.tup (ns.map P.int)) = .tup (ns.map P.int) := by
  have e : (ns.map P.int).map (frzP n) = ns.map P.int := by
    rw [List.map_map]
    refine List.map_congr_left fun x _ => ?_
    cases n <;> rfl
  exact ⟨congrArg P.tup e, congrArg P.tup e⟩
theorem okP_ints (n : Nat) (ns : List Int) (hl : ns.length ≤ 100000) : okP (n + 1) (.lst (ns.map P.int)) = true ∧ okP (n + 1) (.tup (ns.map P.int)) = true := by
  have e : ∀ x ∈ ns.map P.int, okP n x = true := fun x hx => by
    obtain ⟨i, _, rfl⟩ := List.mem_map.mp hx
    cases n <;> rfl
  constructor <;>
  · simp only [okP, Bool.and_eq_true, decide_eq_true_eq, List.all_eq_true, List.length_map]
    exact ⟨hl, e⟩
end
end Kb

/-! The rules with the kit's part named: they serve in the block of a comprehension too. -/
namespace Kb
open PySem PySem.Spec PyProof.Rows L2
section
variable {X : Cx} {K : PySem.W.Frag}
theorem op_addUK (hK : X.K = K) : OpR X (binaryOp .Add) (rAddU K) := hK ▸ op_addU
theorem op_eqUK (hK : X.K = K) (hu : X.A.units + 64 < cLine) : OpR X (compareOp .Eq) (rEqU K) := hK ▸ op_eqU hu
theorem op_neUK (hK : X.K = K) (hu : X.A.units + 64 < cLine) : OpR X (compareOp .NotEq) (rNeU K) := hK ▸ op_neU hu
theorem op_inUK (hK : X.K = K) : OpR X (compareOp .In) (rInU K) := hK ▸ op_inU
theorem op_ninUK (hK : X.K = K) : OpR X (compareOp .NotIn) (rNiU K) := hK ▸ op_ninU
theorem ix_seqK (hK : X.K = K) : IxR X (rIx K) := hK ▸ ix_seq
theorem sl_listK (hK : X.K = K) : SlR X (rSlL K) := hK ▸ sl_list
theorem call_lenK (hK : X.K = K) : CallR X (.builtin "len") (fun xs H Q => ∃ x n, xs = [x] ∧ LenV K x H n ∧ Q (.int n) H) := hK ▸ call_len
theorem call_isiUK (hK : X.K = K) : CallR X (.builtin "isinstance") (rIsiU K) := hK ▸ call_isiU
theorem cr_sumUK (hK : X.K = K) (hc : X.calm = true) : CallR X (.builtin "sum") (rSumU K) := hK ▸ cr_sumU hc
theorem call_list_ofK (hK : X.K = K) : CallR X (.type "list") (fun xs H Q => ∃ p ys, xs = [.ref p] ∧ (SqL K H p ys ∨ SqT K H p ys) ∧ ∀ l, H l = none → Q (.ref l) (upd H l (.lst ys))) := hK ▸ call_list_of
theorem call_tuple_ofK (hK : X.K = K) : CallR X (.type "tuple") (fun xs H Q => ∃ p ys, xs = [.ref p] ∧ ((SqL K H p ys ∧ ∀ l, H l = none → Q (.ref l) (upd H l (.tup ys))) ∨ (SqT K H p ys ∧ Q (.ref p) H))) := hK ▸ call_tuple_of
theorem pi_seqK {tg l : Expr} {tl : TE} (hK : X.K = K) (hl : PE X l tl) : PI X tg l (iSeq K tl) := hK ▸ pi_seq hl
theorem pe_fldK {e : Expr} {ta : TE} {f : Str} {pos : Pos} (hK : X.K = K) (he : PE X e ta) (hb : attributeBase e f X.env (eval e X.env) = eval e X.env) : PE X (.Attribute e f pos) (tFld K ta f) := hK ▸ pe_fld he hb
end
section
variable {K : PySem.W.Frag} {env : Env'} {h : Hs} {E : En} {t1 t2 : TS}
/-- what is known between two statements -/
theorem vs_cut (I : Env' → Hs → Prop) (q : VS K t1 { E with nx := I } env h) (k : ∀ env' h', I env' h' → VS K t2 E env' h') : VS K (tSeq t1 t2) E env h :=
  vs_seq (VS.imp q k (fun _ _ x => x) (fun _ _ x => x) fun _ _ x => x)
end
end Kb

/-! Keys of three numbers; lists of pairs of numbers; membership. -/
namespace Kb
open PySem PySem.Spec PyProof.Rows L2
open PySem.W (dataLe dataLt AllAlike Sortable)
theorem dataLt_3 (a b c a' b' c' : Int) : dataLt (.tuple [.int a, .int b, .int c]) (.tuple [.int a', .int b', .int c']) = decide (a < a' ∨ (a = a' ∧ (b < b' ∨ (b = b' ∧ c < c')))) := by
  rw [PySem.W.dataLt_tuple, PySem.W.dataLt_cons (by simp [PySem.W.alike]), PySem.W.dataLt_cons (by simp [PySem.W.alike]), PySem.W.dataLt_cons (by simp [PySem.W.alike]), PySem.W.dataLt_int, PySem.W.dataLt_int, PySem.W.dataLt_int]
  have e : PyProof.Rows.lexLt PyProof.Rows.itemOrd (PySem.W.keyToksAll []) (PySem.W.keyToksAll []) = false := PyProof.Rows.lex_irrefl _
  rw [e]
  simp only [PyData.eqv, beq_iff_eq]
  by_cases h1 : a = a' <;> by_cases h2 : b = b' <;> by_cases h3 : c = c' <;> simp [h1, h2, h3]
def key3 {β : Type} (x y z : β → Int) (r : β) : PyData := .tuple [.int (x r), .int (y r), .int (z r)]
theorem dataLe_3 {β : Type} (x y z : β → Int) : dataLe false (key3 x y z) = fun p q => decide (x p < x q ∨ (x p = x q ∧ (y p < y q ∨ (y p = y q ∧ z p ≤ z q)))) := by
  rw [PySem.W.dataLe_eq]
  funext p q
  show (!dataLt (key3 x y z q) (key3 x y z p)) = _
  unfold key3
  rw [dataLt_3]
  by_cases h : x q < x p ∨ (x q = x p ∧ (y q < y p ∨ (y q = y p ∧ z q < z p)))
  · rw [decide_eq_true h]
    exact (decide_eq_false (by omega)).symm
  · rw [decide_eq_false h]
    exact (decide_eq_true (by omega)).symm
theorem sortP_map {β : Type} (rs : List β) (f : β → P) (g : β → PyData) : sortP (rs.map f) (rs.map g) = (rs.mergeSort (dataLe false g)).map f := by
  unfold sortP
  have e : (rs.map f).zip (rs.map g) = rs.map fun r => (f r, g r) := by
    induction rs with
    | nil => rfl
    | cons r rs ih => simp [ih]
  rw [e]
  have e2 : (rs.map fun r => (f r, g r)).mergeSort (dataLe false Prod.snd) = (rs.mergeSort (dataLe false g)).map fun r => (f r, g r) :=
    (List.map_mergeSort (f := fun r => (f r, g r)) fun a _ b _ => rfl).symm
  rw [e2, List.map_map]
  rfl
theorem sort3_pairwise {β : Type} (x y z : β → Int) (rs : List β) : (rs.mergeSort (dataLe false (key3 x y z))).Pairwise fun p q => x p < x q ∨ (x p = x q ∧ (y p < y q ∨ (y p = y q ∧ z p ≤ z q))) := by
  rw [dataLe_3]
  have h := List.pairwise_mergeSort (le := fun p q : β => decide (x p < x q ∨ (x p = x q ∧ (y p < y q ∨ (y p = y q ∧ z p ≤ z q)))))
    (fun a b c h1 h2 => by
      have h1 := of_decide_eq_true h1
      have h2 := of_decide_eq_true h2
      exact decide_eq_true (by omega))
    (fun a b => by
      rw [Bool.or_eq_true]
      by_cases h : x a < x b ∨ (x a = x b ∧ (y a < y b ∨ (y a = y b ∧ z a ≤ z b)))
      · exact .inl (decide_eq_true h)
      · exact .inr (decide_eq_true (by omega))) rs
  exact h.imp fun h => of_decide_eq_true h
theorem alike_key3 {β : Type} (x y z : β → Int) (rs : List β) : AllAlike (rs.map (key3 x y z)) := PySem.W.AllAlike.of fun b b' => by simp [key3, PySem.W.alike, PySem.W.alikeAll]
theorem sortable_key3 {β : Type} (x y z : β → Int) (rs : List β) : Sortable (rs.map (key3 x y z)) := PySem.W.Sortable.tuples fun b => ⟨_, _, rfl⟩
theorem depth_key3 {β : Type} (x y z : β → Int) (rs : List β) : ∀ d ∈ rs.map (key3 x y z), d.depth ≤ 60 := fun d hd => by
  obtain ⟨r, _, rfl⟩ := List.mem_map.mp hd
  simp [key3, PyData.depth, PyData.depthAll]
/-! ### pairs of numbers -/
abbrev pairP (a b : Int) : P := .tup [.int a, .int b]
theorem plain_pair {a b : Int} : plainP (pairP a b) = true := rfl
theorem shaped_pair {a b : Int} : SeqAt.shaped (pyOf (pairP a b)) = true := by
  simp [SeqAt.shaped, pyOf, pyOf.pyOfs, PyData.canLay0, PyData.canLayAll0, PyData.depth, PyData.depthAll]
theorem eqv_pair {a b c d : Int} : PyData.eqv (pyOf (pairP a b)) (pyOf (pairP c d)) = decide (a = c ∧ b = d) := by
  by_cases h1 : a = c <;> by_cases h2 : b = d <;> simp [pyOf, pyOf.pyOfs, PyData.eqv, PyData.eqvAll, h1, h2]
theorem plain_pairs {β : Type} (x y : β → Int) : ∀ rs : List β, plainP (.lst (rs.map fun r => pairP (x r) (y r))) = true
  | [] => rfl
  | r :: rs => by
    have ih := plain_pairs x y rs
    unfold plainP at ih ⊢
    rw [List.map_cons]
    unfold plainP.plainPs
    rw [ih]
    rfl
theorem shaped_pairs {β : Type} (x y : β → Int) (rs : List β) : SeqAt.shaped (pyOf (.lst (rs.map fun r => pairP (x r) (y r)))) = true := by
  have e : PyData.canLayAll0 (pyOf.pyOfs (rs.map fun r => pairP (x r) (y r))) = true ∧ PyData.depthAll (pyOf.pyOfs (rs.map fun r => pairP (x r) (y r))) ≤ 1 := by
    induction rs with
    | nil => simp [pyOf.pyOfs, PyData.canLayAll0, PyData.depthAll]
    | cons r rs ih => simp [pyOf.pyOfs, pyOf, PyData.canLayAll0, PyData.canLay0, PyData.depthAll, PyData.depth, ih.1]; exact Nat.max_le.mpr ⟨Nat.le_refl _, ih.2⟩
  simp only [SeqAt.shaped, pyOf, PyData.canLay0, PyData.depth, e.1, Bool.true_and, decide_eq_true_eq]
  omega
theorem eqv_shaped {d : PyData} (h : SeqAt.shaped d = true) : PyData.eqv d d = true := SeqAt.eqv_refl d (SeqAt.canLay_of_shaped h)
section
variable {K : PySem.W.Frag} {h : Hs} {R : D → Hs → Prop}
/-- two equal lists of pairs -/
theorem v2_nePairs {β : Type} {x y : β → Int} {rs : List β} (q : R (dB false) h) : V2 K (rNeU K) (dL (rs.map fun r => pairP (x r) (y r))) (dL (rs.map fun r => pairP (x r) (y r))) h R :=
  v2_neP (plain_pairs x y rs) (plain_pairs x y rs) (shaped_pairs x y rs) (shaped_pairs x y rs) (by rw [eqv_shaped (shaped_pairs x y rs)]; exact q)
theorem v2_eqPair {a b c d : Int} (q : R (dB (decide (a = c ∧ b = d))) h) : V2 K (rEqU K) (dT [.int a, .int b]) (dT [.int c, .int d]) h R :=
  v2_eqP plain_pair plain_pair shaped_pair shaped_pair (by rw [eqv_pair]; exact q)
theorem inV_ints {x : Int} : ∀ {ns : List Int}, inV (.int x) (ns.map V.int) = decide (x ∈ ns)
  | [] => rfl
  | n :: ns => by
    have ih := inV_ints (x := x) (ns := ns)
    unfold inV at ih ⊢
    rw [List.map_cons, List.any_cons, ih]
    show ((n == x) || _) = _
    by_cases e : n = x
    · simp [e]
    · simp [e, Ne.symm e]
/-- x in xs, an own list of numbers -/
theorem v2_inO {n : Nat} {x : Int} {ns : List Int} (hn : h[n]? = some (some (.lst (ns.map dI)))) (q : R (dB (decide (x ∈ ns))) h) : V2 K (rInU K) (dI x) (.own n) h R := v2_or1 fun F ρ H vx vy Q rl a b k => by
  obtain rfl := a.int
  cases b with
  | own b =>
    obtain ⟨p, u, e1, e2, e3, vs, e4, e5⟩ := rl.own _ _ hn
    rw [b] at e1; cases e1
    subst e4
    have e6 : RA K F ρ ((ns.map P.int).map D.p) vs := by rw [List.map_map]; exact e5
    have e := e6.pure.ints
    subst e
    refine ⟨_, _, rfl, .inl (.of e3), rfl, by simp [flatV], ?_⟩
    show Q (.bl (inV (.int x) (ns.map V.int))) H
    rw [inV_ints]
    exact k _ h _ F ρ H (Same.refl _) (Pre.refl _) rl (.p (.bl _)) q
end
end Kb

/-! From what the top has written to the defs; from the def of the law to its row. -/
namespace Kb
open PySem PySem.Spec PyProof.Rows L2
section
variable {K : PySem.W.Frag} {h : Heap} {mg : Str → Option Value} {x m qual : Str} {st : Stmt} {ps : List Str} {f C : Addr} {oc : Value} {od an : Option Addr} {osl : Array (Option Value)} {kV doc pm cdv ct : Value}
theorem defAt_mk (X : K.In h) (G : h.Ns mainGlobals mg) (hb : ∀ (kV doc pm : Value) (an : Option Addr) (cdv ct : Value) (us : List Value), us.length = ps.length → bindArgs (PySem.W.fnOf x x (defArgs st) (defBody st) (defScope st) .none kV doc pm an cdv ct) ⟨us, []⟩ = pure (ps.zip us))
    (a : PySem.W.nsIn K mainGlobals x = some (some (.ref f))) (l : K.lookup f = some ⟨oc, od, .func (PySem.W.fnOf x x (defArgs st) (defBody st) (defScope st) .none kV doc pm an cdv ct), osl⟩) (c : PySem.W.codeIn K cdv x = true) (k : PySem.W.keepIn K (.ref f) = true) : DefAt K mg x st ps :=
  have F := fun_mk (st := st) l c k
  ⟨f, _, F, PySem.W.mg_of X G a, F.binds hb⟩
theorem methAt_mk (hb : ∀ (kV doc pm : Value) (an : Option Addr) (cdv ct : Value) (us : List Value), us.length = ps.length → bindArgs (PySem.W.fnOf m qual (defArgs st) (defBody st) (defScope st) .none kV doc pm an cdv ct) ⟨us, []⟩ = pure (ps.zip us))
    (a : PySem.W.findIn K (.ref C) m = some (some (.ref f))) (i : PySem.W.isFn K (.ref f) = true) (l : K.lookup f = some ⟨oc, od, .func (PySem.W.fnOf m qual (defArgs st) (defBody st) (defScope st) .none kV doc pm an cdv ct), osl⟩) (c : PySem.W.codeIn K cdv qual = true) (k : PySem.W.keepIn K (.ref f) = true) : MethAt K C m qual st ps :=
  have F := fun_mk (st := st) l c k
  ⟨f, _, F, ⟨a, i, k⟩, F.binds hb⟩
theorem initAt_mk (hb : ∀ (kV doc pm : Value) (an : Option Addr) (cdv ct : Value) (us : List Value), us.length = ps.length → bindArgs (PySem.W.fnOf "__init__" qual (defArgs st) (defBody st) (defScope st) .none kV doc pm an cdv ct) ⟨us, []⟩ = pure (ps.zip us))
    (a : PySem.W.findIn K (.ref C) "__init__" = some (some (.ref f))) (i : PySem.W.isFn K (.ref f) = true) (l : K.lookup f = some ⟨oc, od, .func (PySem.W.fnOf "__init__" qual (defArgs st) (defBody st) (defScope st) .none kV doc pm an cdv ct), osl⟩) (c : PySem.W.codeIn K cdv qual = true) (k : PySem.W.keepIn K (.ref f) = true)
    (mk : PySem.W.makesIn K C = true) (kc : PySem.W.keepIn K (.ref C) = true) : InitAt K C qual st ps :=
  have F := fun_mk (st := st) l c k
  ⟨f, _, F, ⟨mk, a, i, kc⟩, F.binds hb⟩
end
theorem bits_log {z : Int} (h : Builtin.Int.intBits z ≤ 1048576) : z.natAbs.log2 < 2000000 := by
  unfold Builtin.Int.intBits at h
  split at h
  · rename_i e
    have : z = 0 := by simpa using e
    subst this
    decide
  · omega
theorem RD.truB {K : PySem.W.Frag} {F : Hp} {ρ : List Addr} {v : V} (h : RD K F ρ (dB true) v) : v = .bl true := h.bl
/-- the law's promise at its own call -/
theorem spD_start {K : PySem.W.Frag} {W : Spc} {H : Hp} {a : Addr} {ns : List Int} {E : XK} (sq : SqL K H a (ns.map V.int)) (w : W [dL (ns.map P.int)] [] fun d _ => d = dB true) : spD K W [.ref a] H (fun v _ => v = .bl true) E :=
  ⟨[dL (ns.map P.int)], [], H, [], fun d _ => d = dB true, ⟨Same.refl _, rfl, fun i o h => by simp at h, fun i j o u a h => by simp at h⟩, .cons (.p (.lst sq (RPs.of_ints ns))) .nil, w, fun d h' v F' ρ' H' s p r dv e => by
    subst e
    exact dv.bl⟩
theorem walkD {l : PySem.W.OpenLaw} {k : Nat} {q : Program} {loose : List Str} {XP : (Str → Option Value) → Heap → Prop} {YP : World → Heap → Prop} {d : DefRec} {K : Params → PySem.W.Frag} {W : Spc}
    (hn : l.most = some 63) (hdf : d.params.defaults = []) (hr : Room k callerA) (hY : ∀ (w : World) (h : Heap), YP w h → (K w.params).In h)
    (hW : ∀ ns : List Int, ns.length ≤ 63 → (∀ n ∈ ns, n.natAbs.log2 < 2000000) → W [dL (ns.map P.int)] [] fun d _ => d = dB true)
    (F : ∀ (w : World) (mg : Str → Option Value) (fa : Addr) (h : Heap), (K w.params).In h → h.Ns mainGlobals mg → mg d.name = some (.ref fa) →
      ∃ fd : FuncData, (∀ (s : Shared) (u : Value), BindsTo s fd ⟨[u], []⟩ [("script", u)]) ∧ ∀ base : Heap, (K w.params).In base → base.Ns mainGlobals mg → FnOk l.prog w (K w.params) mg base CX0 k fa fd ["script"] (spD (K w.params) W)) :
    PySem.W.WalkO q loose XP YP l.row.toRowW d [] (fun f vs => PySem.call f vs) :=
  L2.walk_ofB (n := 63) (k := k) (x := "script") (CX := fun _ => CX0) (sp := fun w => spD (K w.params) W) hn (by decide) hdf hr hY F
    (fun w H a ns hl hb _ hS => spD_start hS (hW ns hl fun n hm => bits_log (hb n hm))) fun _ _ _ _ _ z => z
end Kb

namespace Law
open PySem PySem.Spec PyProof.Rows L2 Kb
def topS (i : Nat) : Stmt := PySem.Challenge.pw_kithbase_k02_order_of_changes.main.body.getD i (.Pass ⟨0, 0, 0, 0⟩)
-- the steps that are tried: k_clsL a side condition; k_subL one step; k_places steps as long as one fits
local macro_rules | `(tactic| k_clsL) => `(tactic| first | assumption | decide | omega)
local macro_rules | `(tactic| k_subL) => `(tactic| first
  | (with_reducible refine vs_seq ?_) | (with_reducible refine vs_asg ?_) | (with_reducible refine vg_name ?_) | (with_reducible refine vs_ret ?_) | (with_reducible refine vs_if ?_) | (with_reducible refine vs_next ?_) | (with_reducible refine vs_drop ?_)
  | (with_reducible refine vt_test ?_) | (with_reducible refine vt_B ?_) | (with_reducible refine vt_and ?_) | (with_reducible refine vt_or ?_) | (with_reducible refine vt_not ?_) | (with_reducible refine vt_truth ?_)
  | (with_reducible refine ve_op ?_) | (with_reducible refine ve_cb ?_) | (with_reducible refine va_cons ?_) | (with_reducible refine va_nil ?_) | (with_reducible refine ve_call ?_)
  | (with_reducible refine ve_int ?_) | (with_reducible refine ve_str ?_) | (with_reducible refine ve_bl ?_) | (with_reducible refine ve_non ?_) | (with_reducible refine ve_ty ?_)
  | (refine ve_var (by exact rfl) ?_)
  | (with_reducible refine ve_and ?_) | (with_reducible refine ve_or ?_) | (with_reducible refine ve_not ?_) | (with_reducible refine ve_chain ?_) | (with_reducible refine ve_un ?_) | (with_reducible refine ve_if ?_)
  | (with_reducible refine bool_ans ?_) | (with_reducible refine tru_bl ?_)
  | (with_reducible refine vc_intI ?_) | (with_reducible refine v2_addI ?_) | (with_reducible refine v2_sub ?_)
  | (with_reducible refine v2_lt ?_) | (with_reducible refine v2_le ?_) | (with_reducible refine v2_gt ?_) | (with_reducible refine v2_ge ?_)
  | (with_reducible refine v2_eqI ?_) | (with_reducible refine v2_eqS ?_) | (with_reducible refine v2_eqB ?_) | (with_reducible refine v2_neI ?_) | (with_reducible refine v2_neS ?_) | (with_reducible refine v2_neB ?_)
  | (with_reducible refine v2_isN ?_) | (with_reducible refine v2_notN ?_)
  | (with_reducible refine v2_mod ?hm ?_; case hm => k_clsL) | (with_reducible refine v2_div ?hm ?_; case hm => (constructor <;> k_clsL))
  | (with_reducible refine v2_mul ?hm ?_; case hm => first | exact cmul_small (by k_clsL) (by k_clsL) | exact cmul_wide (by k_clsL) (by k_clsL))
  | (with_reducible refine vc_min2 ?_) | (with_reducible refine vc_max2 ?_)
  | (with_reducible refine ve_tup ?_) | (with_reducible refine tup_i ?hl ?he ?hx ?_; (case hx => exact (show _ = (unP _).map D.p from rfl)); (case he => exact rfl); (case hl => decide))
  | (with_reducible refine v1_U ?_))
local macro_rules | `(tactic| k_places) => `(tactic| repeat k_subL)

section
variable {Pg : Program} {w : World} {K : PySem.W.Frag} {mg : Str → Option Value} {base : Heap}
abbrev st_mix : Stmt := (topS 7)
theorem sc_mix : FnScope ["cell", "k", "value"] ["cell", "k"] (defScope st_mix) := ⟨rfl, rfl, rfl, by decide +kernel, rfl, by decide +kernel, by decide +kernel⟩
def mix (c k : Int) : Int := (((c * 48271 + k * 69621 + 12345) % 2147483647) * ((c * 48271 + k * 69621 + 12345) % 2147483647) + k * 40692 + 1) % 2147483399 / 5 % 9973
def W_mix : Spc := fun ds h R => ∃ c k : Int, ds = [dI c, dI k] ∧ c.natAbs.log2 < 2000000 ∧ k.natAbs < 2 ^ 60 ∧ R (dI (mix c k)) h
theorem ok_mix (A : DefAt K mg "_law_mix" st_mix ["cell", "k"]) (m_int : mg "int" = none) : HasF Pg w K mg base CX0 1 "_law_mix" ["cell", "k"] (spD K W_mix) := by
  have sc := sc_mix
  refine A.okD sc W_mix (fun ds h R ⟨c, k, e, _⟩ => by rw [e]; rfl) fun f cdv A outer s H E hr => ?_
  refine ⟨_, (pss_cons (ps_set (i := 2) sc.nd rfl (.inl rfl) (pe_op op_mod (pe_callTy call_intU (by rfl) m_int (by decide +kernel) (pa_cons (pe_op op_addU (pe_op op_addU (pe_op op_mulX (pe_callTy call_intU (by rfl) m_int (by decide +kernel) (pa_cons (pv 0) pa_nil)) pe_int) (pe_op op_mulX (pv 1) pe_int)) pe_int) pa_nil)) pe_int))
  (pss_cons (ps_set (i := 2) sc.nd rfl (.inl rfl) (pe_op op_mod (pe_callTy call_intU (by rfl) m_int (by decide +kernel) (pa_cons (pe_op op_addU (pe_op op_addU (pe_op op_mulX (pv 2) (pv 2)) (pe_op op_mulX (pv 1) pe_int)) pe_int) pa_nil)) pe_int))
  (pss_one (ps_ret (pe_op op_mod (pe_op op_fdiv (pv 2) pe_int) pe_int))))), ?_⟩
  dsimp only [cxOf]
  rintro ds h R ⟨c, k, rfl, hc, hk, q⟩
  k_places
  exact q
end
end Law

namespace Law
open PySem PySem.Spec PyProof.Rows L2 Kb
-- the steps that are tried: k_clsL a side condition; k_subL one step; k_places steps as long as one fits
local macro_rules | `(tactic| k_clsL) => `(tactic| first | assumption | decide | omega)
local macro_rules | `(tactic| k_subL) => `(tactic| first
  | (with_reducible refine vs_seq ?_) | (with_reducible refine vs_asg ?_) | (with_reducible refine vg_name ?_) | (with_reducible refine vs_ret ?_) | (with_reducible refine vs_if ?_) | (with_reducible refine vs_next ?_) | (with_reducible refine vs_drop ?_)
  | (with_reducible refine vt_test ?_) | (with_reducible refine vt_B ?_) | (with_reducible refine vt_and ?_) | (with_reducible refine vt_or ?_) | (with_reducible refine vt_not ?_) | (with_reducible refine vt_truth ?_)
  | (with_reducible refine ve_op ?_) | (with_reducible refine ve_cb ?_) | (with_reducible refine va_cons ?_) | (with_reducible refine va_nil ?_) | (with_reducible refine ve_call ?_)
  | (with_reducible refine ve_int ?_) | (with_reducible refine ve_str ?_) | (with_reducible refine ve_bl ?_) | (with_reducible refine ve_non ?_) | (with_reducible refine ve_ty ?_)
  | (refine ve_var (by exact rfl) ?_)
  | (with_reducible refine ve_and ?_) | (with_reducible refine ve_or ?_) | (with_reducible refine ve_not ?_) | (with_reducible refine ve_chain ?_) | (with_reducible refine ve_un ?_) | (with_reducible refine ve_if ?_)
  | (with_reducible refine bool_ans ?_) | (with_reducible refine tru_bl ?_)
  | (with_reducible refine vc_intI ?_) | (with_reducible refine v2_addI ?_) | (with_reducible refine v2_sub ?_)
  | (with_reducible refine v2_lt ?_) | (with_reducible refine v2_le ?_) | (with_reducible refine v2_gt ?_) | (with_reducible refine v2_ge ?_)
  | (with_reducible refine v2_eqI ?_) | (with_reducible refine v2_eqS ?_) | (with_reducible refine v2_eqB ?_) | (with_reducible refine v2_neI ?_) | (with_reducible refine v2_neS ?_) | (with_reducible refine v2_neB ?_)
  | (with_reducible refine v2_isN ?_) | (with_reducible refine v2_notN ?_)
  | (with_reducible refine v2_mod ?hm ?_; case hm => k_clsL) | (with_reducible refine v2_div ?hm ?_; case hm => (constructor <;> k_clsL))
  | (with_reducible refine v2_mul ?hm ?_; case hm => first | exact cmul_small (by k_clsL) (by k_clsL) | exact cmul_wide (by k_clsL) (by k_clsL))
  | (with_reducible refine vc_min2 ?_) | (with_reducible refine vc_max2 ?_)
  | (with_reducible refine ve_tup ?_) | (with_reducible refine tup_i ?hl ?he ?hx ?_; (case hx => exact (show _ = (unP _).map D.p from rfl)); (case he => exact rfl); (case hl => decide))
  | (with_reducible refine v1_U ?_))
local macro_rules | `(tactic| k_places) => `(tactic| repeat k_subL)

section
variable {Pg : Program} {w : World} {K : PySem.W.Frag} {mg : Str → Option Value} {base : Heap}
theorem mix_lo (c k : Int) : 0 ≤ mix c k ∧ mix c k < 9973 := by unfold mix; omega
abbrev st_draws : Stmt := (topS 8)
theorem sc_draws : FnScope ["script", "draws", "k", "cell", "place"] ["script"] (defScope st_draws) := ⟨rfl, rfl, rfl, by decide +kernel, rfl, by decide +kernel, by decide +kernel⟩
/-- draws: each from 0 to 9972 -/
def Good (ms : List Int) : Prop := ∀ m ∈ ms, 0 ≤ m ∧ m < 9973
theorem Good.snoc {ms : List Int} {m : Int} (g : Good ms) (h : 0 ≤ m ∧ m < 9973) : Good (ms ++ [m]) := fun x hx => by
  rcases List.mem_append.mp hx with hx | hx
  · exact g x hx
  · rw [List.mem_singleton.mp hx]; exact h
def W_draws : Spc := fun ds h R => ∃ ns : List Int, ds = [dL (ns.map P.int)] ∧ ns.length ≤ 63 ∧ (∀ n ∈ ns, n.natAbs.log2 < 2000000) ∧ ∀ ms : List Int, Good ms → ms.length ≤ 3780 → R (dL (ms.map P.int)) h
theorem map_dI (ms : List Int) : (ms.map P.int).map D.p = ms.map dI := by rw [List.map_map]; rfl
theorem ok_draws (A : DefAt K mg "_law_draws" st_draws ["script"]) (m_int : mg "int" = none) (m_len : mg "len" = none) (m_min : mg "min" = none) (m_range : mg "range" = none)
    (h__law_mix : HasF Pg w K mg base CX0 1 "_law_mix" ["cell", "k"] (spD K W_mix)) : HasF Pg w K mg base CX0 2 "_law_draws" ["script"] (spD K W_draws) := by
  have sc := sc_draws
  refine A.okD sc W_draws (fun ds h R ⟨c, e, _⟩ => by rw [e]; rfl) fun f cdv A outer s H E hr => ?_
  refine ⟨_, (pss_cons (ps_set (i := 1) sc.nd rfl (.inl rfl) (pe_lst pa_nil))
  (pss_cons (ps_for PassesOwn.never rfl (pi_range1 rfl m_range (pa_cons (pe_callB (call_min2 rfl) (by rfl) m_min (by decide +kernel) (pa_cons pe_int (pa_cons (pe_callB call_len (by rfl) m_len PySem.boot_len (pa_cons (pv 0) pa_nil)) pa_nil))) pa_nil)) (pg_name (i := 2) sc.nd rfl (.inl rfl))
  (pss_cons (ps_set (i := 3) sc.nd rfl (.inl rfl) (pe_callTy call_intU (by rfl) m_int (by decide +kernel) (pa_cons (pe_ix ix_seq (pv 0) (pv 2) (fun _ _ => rfl)) pa_nil)))
  (pss_one (ps_if (pt_cmpR op_lt (pv 3) (pe_op op_pow pe_int pe_int) (nomark _)) (pss_one (ps_expr (pe_bm PySem.F.plainAttrs_list PySem.F.slot_list_append PySem.F.type_list_append mt_append (pv 1) (pa_cons (h__law_mix.call (hr.mono (by decide)) rfl pass0 (pa_cons (pv 3) (pa_cons (pv 2) pa_nil))) pa_nil)))) (pss_one (ps_for PassesOwn.never rfl (pi_range1 rfl m_range (pa_cons pe_int pa_nil)) (pg_name (i := 4) sc.nd rfl (.inl rfl))
  (pss_one (ps_if (pt_cmpR op_gt (pv 3) pe_int (nomark _)) (pss_cons (ps_expr (pe_bm PySem.F.plainAttrs_list PySem.F.slot_list_append PySem.F.type_list_append mt_append (pv 1) (pa_cons (pe_op op_mod (pe_callTy call_intU (by rfl) m_int (by decide +kernel) (pa_cons (pv 3) pa_nil)) pe_int) pa_nil)))
  (pss_one (ps_set (i := 3) sc.nd rfl (.inl rfl) (pe_op op_fdiv (pv 3) pe_int)))) pss_nil))))))))
  (pss_one (ps_ret (pv 1))))), ?_⟩
  dsimp only [cxOf]
  rintro ds h R ⟨ns, rfl, hl, hb, q⟩
  refine vs_fin ?_
  k_subL; k_subL
  refine ve_lstO ?_
  k_places
  refine ⟨by decide, ?_⟩
  k_places
  refine vs_for (vi_range1 ?_)
  k_places
  refine vc_len (n := ns.length) (by simp) ?_
  k_places
  refine ⟨_, rfl, by split <;> omega, by split <;> omega, ?_⟩
  refine ⟨fun i env h' => ∃ (ms : List Int) (o2 o3 o4 : Option D), env = [some (dL (ns.map P.int)), some (.own h.length), o2, o3, o4] ∧ h' = h ++ [some (.lst (ms.map dI))] ∧ Good ms ∧ ms.length ≤ 60 * i, ?_, ?_, ?_, ?_⟩
  · exact ⟨[], none, none, none, rfl, rfl, fun m hm => by simp at hm, by simp⟩
  · exact fun _ _ _ _ => trivial
  · rintro i d env h' hd ⟨ms, o2, o3, o4, rfl, rfl, hg, hlen⟩
    obtain ⟨hi, rfl⟩ := rng_get hd
    have hi2 : i < ns.length := by split at hi <;> omega
    k_places
    have hget : (ns.map P.int)[i]? = some (.int ns[i]) := by rw [List.getElem?_map, List.getElem?_eq_getElem hi2]; rfl
    refine v2_ixL (at_nat i (by omega) hget) ?_
    k_places
    refine v2_pow (by decide) ?_
    k_places
    have hz := hb ns[i] (List.getElem_mem hi2)
    generalize ns[i] = z at hz
    refine ite_dec (fun _ => ?_) (fun _ => ?_)
    · k_subL
      refine ve_bm ?_
      k_places
      refine ⟨⟨rfl, ms.map dI, by simp⟩, ?_⟩
      k_places
      refine ⟨z, (i : Int), by simp, hz, by omega, ?_⟩
      k_places
      refine vm_append (xs := ms.map dI) (by simp) (by simp; have e := sizeLine_eq; omega) ?_
      refine ⟨ms ++ [mix z i], _, _, _, rfl, by simp, hg.snoc (mix_lo _ _), by simp; omega⟩
    · refine vs_for (vi_range1 ?_)
      k_places
      refine ⟨_, rfl, by decide, by decide, ?_⟩
      refine ⟨fun j env h' => ∃ (ms' : List Int) (z' : Int) (o2 o4 : Option D), env = [some (dL (ns.map P.int)), some (.own h.length), o2, some (dI z'), o4] ∧ h' = h ++ [some (.lst (ms'.map dI))] ∧ Good ms' ∧ ms'.length ≤ ms.length + j, ?_, ?_, ?_, ?_⟩
      · exact ⟨ms, z, _, _, rfl, rfl, hg, by omega⟩
      · exact fun _ _ _ _ => trivial
      · rintro j d env h' hd ⟨ms', z', o2, o4, rfl, rfl, hg', hlen'⟩
        obtain ⟨hj, rfl⟩ := rng_get hd
        k_places
        refine ite_dec (fun _ => ?_) (fun _ => ?_)
        · k_subL
          k_subL
          refine ve_bm ?_
          k_places
          refine ⟨⟨rfl, ms'.map dI, by simp⟩, ?_⟩
          k_places
          have hj60 : j < 60 := hj
          refine vm_append (xs := ms'.map dI) (by simp) (by simp; have e := sizeLine_eq; omega) ?_
          k_places
          refine ⟨ms' ++ [z' % 9973], z' / 9973, _, _, rfl, by simp, hg'.snoc (by omega), by simp; omega⟩
        · k_subL
          exact ⟨ms', z', _, _, rfl, rfl, hg', by omega⟩
      · rintro env h' ⟨ms', z', o2, o4, rfl, rfl, hg', hlen'⟩
        rw [rng_len] at hlen'
        exact ⟨ms', _, _, _, rfl, rfl, hg', by have e : (60 : Int).toNat = 60 := rfl; omega⟩
  · rintro env h' ⟨ms, o2, o3, o4, rfl, rfl, hg, hlen⟩
    rw [rng_len] at hlen
    k_places
    refine ⟨[some (.lst (ms.map dI))], rfl, .inr (.inl ⟨h.length, ms.map P.int, rfl, Nat.le_refl _, by simp [map_dI], q ms hg (by split at hlen <;> omega)⟩)⟩
end
end Law

namespace Law
open PySem PySem.Spec PyProof.Rows L2 Kb
-- the steps that are tried: k_clsL a side condition; k_subL one step; k_places steps as long as one fits
local macro_rules | `(tactic| k_clsL) => `(tactic| first | assumption | decide | omega)
local macro_rules | `(tactic| k_subL) => `(tactic| first
  | (with_reducible refine vs_seq ?_) | (with_reducible refine vs_asg ?_) | (with_reducible refine vg_name ?_) | (with_reducible refine vs_ret ?_) | (with_reducible refine vs_if ?_) | (with_reducible refine vs_next ?_) | (with_reducible refine vs_drop ?_)
  | (with_reducible refine vt_test ?_) | (with_reducible refine vt_B ?_) | (with_reducible refine vt_and ?_) | (with_reducible refine vt_or ?_) | (with_reducible refine vt_not ?_) | (with_reducible refine vt_truth ?_)
  | (with_reducible refine ve_op ?_) | (with_reducible refine ve_cb ?_) | (with_reducible refine va_cons ?_) | (with_reducible refine va_nil ?_) | (with_reducible refine ve_call ?_)
  | (with_reducible refine ve_int ?_) | (with_reducible refine ve_str ?_) | (with_reducible refine ve_bl ?_) | (with_reducible refine ve_non ?_) | (with_reducible refine ve_ty ?_)
  | (refine ve_var (by exact rfl) ?_)
  | (with_reducible refine ve_and ?_) | (with_reducible refine ve_or ?_) | (with_reducible refine ve_not ?_) | (with_reducible refine ve_chain ?_) | (with_reducible refine ve_un ?_) | (with_reducible refine ve_if ?_)
  | (with_reducible refine bool_ans ?_) | (with_reducible refine tru_bl ?_)
  | (with_reducible refine vc_intI ?_) | (with_reducible refine v2_addI ?_) | (with_reducible refine v2_sub ?_)
  | (with_reducible refine v2_lt ?_) | (with_reducible refine v2_le ?_) | (with_reducible refine v2_gt ?_) | (with_reducible refine v2_ge ?_)
  | (with_reducible refine v2_eqI ?_) | (with_reducible refine v2_eqS ?_) | (with_reducible refine v2_eqB ?_) | (with_reducible refine v2_neI ?_) | (with_reducible refine v2_neS ?_) | (with_reducible refine v2_neB ?_)
  | (with_reducible refine v2_isN ?_) | (with_reducible refine v2_notN ?_)
  | (with_reducible refine v2_mod ?hm ?_; case hm => k_clsL) | (with_reducible refine v2_div ?hm ?_; case hm => (constructor <;> k_clsL))
  | (with_reducible refine v2_mul ?hm ?_; case hm => first | exact cmul_small (by k_clsL) (by k_clsL) | exact cmul_wide (by k_clsL) (by k_clsL))
  | (with_reducible refine vc_min2 ?_) | (with_reducible refine vc_max2 ?_)
  | (with_reducible refine ve_tup ?_) | (with_reducible refine tup_i ?hl ?he ?hx ?_; (case hx => exact (show _ = (unP _).map D.p from rfl)); (case he => exact rfl); (case hl => decide))
  | (with_reducible refine v1_U ?_))
local macro_rules | `(tactic| k_places) => `(tactic| repeat k_subL)

section
variable {Pg : Program} {w : World} {K : PySem.W.Frag} {mg : Str → Option Value} {base : Heap}
abbrev st_at : Stmt := (topS 9)
theorem sc_at : FnScope ["draws", "index"] ["draws", "index"] (defScope st_at) := ⟨rfl, rfl, rfl, by decide +kernel, rfl, by decide +kernel, by decide +kernel⟩
def lawAt (ms : List Int) (i : Int) : Int := if i < ms.length then ms.getD i.toNat 0 else if ms = [] then mix i 77 else mix (ms.getD (i % ms.length).toNat 0 + i * 131) i
theorem lawAt_lo {ms : List Int} (g : Good ms) (i : Int) (h0 : 0 ≤ i) : 0 ≤ lawAt ms i ∧ lawAt ms i < 9973 := by
  unfold lawAt
  split
  · rename_i h
    have hl : i.toNat < ms.length := by omega
    rw [List.getD_eq_getElem?_getD, List.getElem?_eq_getElem hl]
    exact g _ (List.getElem_mem hl)
  · split
    · exact mix_lo _ _
    · exact mix_lo _ _
def W_at : Spc := fun ds h R => ∃ (ms : List Int) (i : Int), ds = [dL (ms.map P.int), dI i] ∧ Good ms ∧ ms.length ≤ 3780 ∧ 0 ≤ i ∧ i < 2 ^ 40 ∧ R (dI (lawAt ms i)) h
theorem get_ints {ms : List Int} {n : Nat} (h : n < ms.length) : (ms.map P.int)[n]? = some (.int (ms.getD n 0)) := by
  rw [List.getElem?_map, List.getD_eq_getElem?_getD, List.getElem?_eq_getElem h]; rfl
theorem ok_at (A : DefAt K mg "_law_at" st_at ["draws", "index"]) (m_int : mg "int" = none) (m_len : mg "len" = none)
    (h__law_mix : HasF Pg w K mg base CX0 1 "_law_mix" ["cell", "k"] (spD K W_mix)) : HasF Pg w K mg base CX0 2 "_law_at" ["draws", "index"] (spD K W_at) := by
  have sc := sc_at
  refine A.okD sc W_at (fun ds h R ⟨_, c, e, _⟩ => by rw [e]; rfl) fun f cdv A outer s H E hr => ?_
  refine ⟨_, (pss_cons (ps_if (pt_cmpR op_lt (pv 1) (pe_callB call_len (by rfl) m_len (by decide +kernel) (pa_cons (pv 0) pa_nil)) (nomark _)) (pss_one (ps_ret (pe_ix ix_seq (pv 0) (pv 1) (fun _ _ => rfl)))) pss_nil)
  (pss_cons (ps_if (pt_cmpR (op_eqU hr.units) (pe_callB call_len (by rfl) m_len (by decide +kernel) (pa_cons (pv 0) pa_nil)) pe_int (nomark _)) (pss_one (ps_ret (h__law_mix.call (hr.mono (by first | decide | omega)) rfl pass0 (pa_cons (pv 1) (pa_cons pe_int pa_nil))))) pss_nil)
  (pss_one (ps_ret (h__law_mix.call (hr.mono (by first | decide | omega)) rfl pass0 (pa_cons (pe_op op_addU (pe_ix ix_seq (pv 0) (pe_op op_mod (pe_callTy call_intU (by rfl) m_int (by decide +kernel) (pa_cons (pv 1) pa_nil)) (pe_callB call_len (by rfl) m_len (by decide +kernel) (pa_cons (pv 0) pa_nil))) (fun _ _ => rfl)) (pe_op op_mulX (pv 1) pe_int)) (pa_cons (pv 1) pa_nil))))))), ?_⟩
  dsimp only [cxOf]
  rintro ds h R ⟨ms, i, rfl, hg, hl, h0, h1, q⟩
  refine vs_fin ?_
  k_places
  refine vc_len (n := ms.length) (by simp) ?_
  k_places
  refine ite_dec (fun hi => ?_) (fun hi => ?_)
  · k_places
    refine v2_ixL (at_nat i.toNat (by omega) (get_ints (by omega))) ?_
    refine fin_p0 ?_
    unfold lawAt at q
    rw [if_pos hi] at q
    exact q
  · k_places
    refine vc_len (n := ms.length) (by simp) ?_
    k_places
    refine ite_dec (fun hn => ?_) (fun hn => ?_)
    · k_places
      have hm : ms = [] := List.length_eq_zero_iff.mp (by omega)
      refine ⟨i, 77, rfl, ?_, by decide, fin_p0 ?_⟩
      · exact Nat.lt_trans (log2_small (n := i.natAbs) (by omega)) (by decide)
      · unfold lawAt at q
        rw [if_neg hi, if_pos hm] at q
        exact q
    · k_places
      refine vc_len (n := ms.length) (by simp) ?_
      k_places
      have hp : 0 < ms.length := by omega
      have hj1 := Int.emod_nonneg i (show (ms.length : Int) ≠ 0 by omega)
      have hj2 := Int.emod_lt_of_pos i (show (0 : Int) < ms.length by omega)
      have hjl : (i % (ms.length : Int)).toNat < ms.length := by omega
      refine v2_ixL (at_nat (i % (ms.length : Int)).toNat (by omega) (get_ints hjl)) ?_
      k_places
      have hv := hg _ (List.getElem_mem hjl)
      have e1 : ms.getD (i % (ms.length : Int)).toNat 0 = ms[(i % (ms.length : Int)).toNat] := by rw [List.getD_eq_getElem?_getD, List.getElem?_eq_getElem hjl]; rfl
      refine ⟨_, i, rfl, ?_, by omega, fin_p0 ?_⟩
      · rw [e1]
        exact Nat.lt_trans (log2_small (n := (ms[(i % (ms.length : Int)).toNat] + i * 131).natAbs) (by omega)) (by decide)
      · unfold lawAt at q
        rw [if_neg hi, if_neg (fun z => hn (by rw [z]; rfl))] at q
        exact q
abbrev st_isint : Stmt := (topS 10)
theorem sc_isint : FnScope ["actual"] ["actual"] (defScope st_isint) := ⟨rfl, rfl, rfl, by decide +kernel, rfl, by decide +kernel, by decide +kernel⟩
def W_isint : Spc := fun ds h R => ∃ i : Int, ds = [dI i] ∧ R (dB true) h
theorem ok_isint (A : DefAt K mg "_law_is_integer" st_isint ["actual"]) (m_int : mg "int" = none) (m_bool : mg "bool" = none) (m_isinstance : mg "isinstance" = none) : HasF Pg w K mg base CX0 1 "_law_is_integer" ["actual"] (spD K W_isint) := by
  have sc := sc_isint
  refine A.okD sc W_isint (fun ds h R ⟨c, e, _⟩ => by rw [e]; rfl) fun f cdv A outer s H E hr => ?_
  refine ⟨_, (pss_one (ps_ret (pe_and (pe_callB call_isiU (by rfl) m_isinstance (by decide +kernel) (pa_cons (pv 0) (pa_cons (pe_bltn (v := .ty "int") rfl m_int (by decide +kernel) rfl) pa_nil))) (pe_one (pe_not (pe_callB call_isiU (by rfl) m_isinstance (by decide +kernel) (pa_cons (pv 0) (pa_cons (pe_bltn (v := .ty "bool") rfl m_bool (by decide +kernel) rfl) pa_nil)))))))), ?_⟩
  dsimp only [cxOf]
  rintro ds h R ⟨i, rfl, q⟩
  refine vs_fin ?_
  k_places
  refine vc_isi (T := "int") rfl (by decide) ?_
  k_places
  refine ite_tt (by decide) ?_
  k_places
  refine vc_isi (T := "int") rfl (by decide) ?_
  refine ⟨_, rfl, ?_⟩
  exact fin_p0 q
end
end Law

namespace Law
open PySem PySem.Spec PyProof.Rows L2 Kb
-- the steps that are tried: k_clsL a side condition; k_subL one step; k_places steps as long as one fits
local macro_rules | `(tactic| k_clsL) => `(tactic| first | assumption | decide | omega)
local macro_rules | `(tactic| k_subL) => `(tactic| first
  | (with_reducible refine vs_seq ?_) | (with_reducible refine vs_asg ?_) | (with_reducible refine vg_name ?_) | (with_reducible refine vs_ret ?_) | (with_reducible refine vs_if ?_) | (with_reducible refine vs_next ?_) | (with_reducible refine vs_drop ?_)
  | (with_reducible refine vt_test ?_) | (with_reducible refine vt_B ?_) | (with_reducible refine vt_and ?_) | (with_reducible refine vt_or ?_) | (with_reducible refine vt_not ?_) | (with_reducible refine vt_truth ?_)
  | (with_reducible refine ve_op ?_) | (with_reducible refine ve_isi2 ?_) | ((with_reducible refine isi2_i (T := "tuple") ?hT ?hm ?hn ?_); (case hT => exact rfl); (case hm => decide); (case hn => decide)) | ((with_reducible refine isi2_i (T := "list") ?hT ?hm ?hn ?_); (case hT => exact rfl); (case hm => decide); (case hn => decide)) | ((with_reducible refine isi2_i (T := "int") ?hT ?hm ?hn ?_); (case hT => exact rfl); (case hm => decide); (case hn => decide)) | ((with_reducible refine isi2_i (T := "bool") ?hT ?hm ?hn ?_); (case hT => exact rfl); (case hm => decide); (case hn => decide)) | ((with_reducible refine isi2_i (T := "str") ?hT ?hm ?hn ?_); (case hT => exact rfl); (case hm => decide); (case hn => decide)) | ((with_reducible refine isi2_i (T := "NoneType") ?hT ?hm ?hn ?_); (case hT => exact rfl); (case hm => decide); (case hn => decide)) | (with_reducible refine ve_cb ?_) | (with_reducible refine va_cons ?_) | (with_reducible refine va_nil ?_) | (with_reducible refine ve_call ?_)
  | (with_reducible refine ve_int ?_) | (with_reducible refine ve_str ?_) | (with_reducible refine ve_bl ?_) | (with_reducible refine ve_non ?_) | (with_reducible refine ve_ty ?_)
  | (refine ve_var (by exact rfl) ?_)
  | (with_reducible refine ve_and ?_) | (with_reducible refine ve_or ?_) | (with_reducible refine ve_not ?_) | (with_reducible refine ve_chain ?_) | (with_reducible refine ve_un ?_) | (with_reducible refine ve_if ?_)
  | (with_reducible refine bool_ans ?_) | (with_reducible refine tru_bl ?_)
  | (with_reducible refine vc_intI ?_) | (with_reducible refine v2_addI ?_) | (with_reducible refine v2_sub ?_)
  | (with_reducible refine v2_lt ?_) | (with_reducible refine v2_le ?_) | (with_reducible refine v2_gt ?_) | (with_reducible refine v2_ge ?_)
  | (with_reducible refine v2_eqI ?_) | (with_reducible refine v2_eqS ?_) | (with_reducible refine v2_eqB ?_) | (with_reducible refine v2_neI ?_) | (with_reducible refine v2_neS ?_) | (with_reducible refine v2_neB ?_)
  | (with_reducible refine v2_isN ?_) | (with_reducible refine v2_notN ?_)
  | (with_reducible refine v2_mod ?hm ?_; case hm => k_clsL) | (with_reducible refine v2_div ?hm ?_; case hm => (constructor <;> k_clsL))
  | (with_reducible refine v2_mul ?hm ?_; case hm => first | exact cmul_small (by k_clsL) (by k_clsL) | exact cmul_wide (by k_clsL) (by k_clsL))
  | (with_reducible refine vc_min2 ?_) | (with_reducible refine vc_max2 ?_)
  | (with_reducible refine ve_tup ?_) | (with_reducible refine tup_i ?hl ?he ?hx ?_; (case hx => exact (show _ = (unP _).map D.p from rfl)); (case he => exact rfl); (case hl => decide))
  | ((with_reducible refine vc_isi (T := "tuple") ?hT ?hn ?_); (case hT => first | exact rfl | exact ⟨rfl, _, by first | assumption | simp⟩); (case hn => decide)) | ((with_reducible refine vc_isi (T := "list") ?hT ?hn ?_); (case hT => first | exact rfl | exact ⟨rfl, _, by first | assumption | simp⟩); (case hn => decide)) | ((with_reducible refine vc_isi (T := "int") ?hT ?hn ?_); (case hT => first | exact rfl | exact ⟨rfl, _, by first | assumption | simp⟩); (case hn => decide)) | ((with_reducible refine vc_isi (T := "bool") ?hT ?hn ?_); (case hT => first | exact rfl | exact ⟨rfl, _, by first | assumption | simp⟩); (case hn => decide)) | ((with_reducible refine vc_isi (T := "str") ?hT ?hn ?_); (case hT => first | exact rfl | exact ⟨rfl, _, by first | assumption | simp⟩); (case hn => decide)) | ((with_reducible refine vc_isi (T := "NoneType") ?hT ?hn ?_); (case hT => first | exact rfl | exact ⟨rfl, _, by first | assumption | simp⟩); (case hn => decide))
  | (with_reducible refine vc_lenL ?_) | (with_reducible refine vc_lenT ?_) | (with_reducible refine ite_nrefl ?_) | (with_reducible refine ite_refl ?_)
  | ((with_reducible refine ite_tt ?hc ?_); (case hc => first | decide | exact rfl)) | ((with_reducible refine ite_ff ?hc ?_); (case hc => first | decide | exact rfl))
  | (with_reducible refine v1_U ?_))
local macro_rules | `(tactic| k_places) => `(tactic| repeat k_subL)

section
variable {Pg : Program} {w : World} {K : PySem.W.Frag} {mg : Str → Option Value} {base : Heap}
abbrev st_same : Stmt := (topS 11)
theorem sc_same : FnScope ["actual", "expected", "k"] ["actual", "expected"] (defScope st_same) := ⟨rfl, rfl, rfl, by decide +kernel, rfl, by decide +kernel, by decide +kernel⟩
def W_same : Nat → Spc
  | 0 => fun _ _ _ => False
  | n + 1 => fun ds h R => ∃ p : P, ds = [.p p, .p p] ∧ okP n p = true ∧ R (dB true) h
theorem ok_same (A : DefAt K mg "_law_same" st_same ["actual", "expected"]) (m_int : mg "int" = none) (m_bool : mg "bool" = none) (m_str : mg "str" = none) (m_list : mg "list" = none) (m_tuple : mg "tuple" = none) (m_len : mg "len" = none) (m_range : mg "range" = none) (m_isinstance : mg "isinstance" = none)
    (h__law_is_integer : HasF Pg w K mg base CX0 1 "_law_is_integer" ["actual"] (spD K W_isint)) : ∀ n : Nat, HasF Pg w K mg base CX0 (n + 2) "_law_same" ["actual", "expected"] (spD K (W_same n))
  | 0 => .never A sc_same fun _ _ _ h => h
  | n + 1 => by
    have sc := sc_same
    have h__law_same := ok_same A m_int m_bool m_str m_list m_tuple m_len m_range m_isinstance h__law_is_integer n
    refine A.okD sc (W_same (n + 1)) (fun ds h R ⟨c, e, _⟩ => by rw [e]; rfl) fun f cdv A outer s H E hr => ?_
    refine ⟨_, (pss_cons (ps_if (pt_val (pe_callB call_isiU (by rfl) m_isinstance (by decide +kernel) (pa_cons (pv 1) (pa_cons (pe_tup (pa_cons (pe_bltn (v := .ty "list") rfl m_list (by decide +kernel) rfl) (pa_cons (pe_bltn (v := .ty "tuple") rfl m_tuple (by decide +kernel) rfl) pa_nil))) pa_nil)))) (pss_cons (ps_if (PW.pt (pw_or (pt_cmpR (op_neU hr.units) (pe_callB call_isiU (by rfl) m_isinstance (by decide +kernel) (pa_cons (pv 1) (pa_cons (pe_bltn (v := .ty "list") rfl m_list (by decide +kernel) rfl) pa_nil))) (pe_callB call_isiU (by rfl) m_isinstance (by decide +kernel) (pa_cons (pv 0) (pa_cons (pe_bltn (v := .ty "list") rfl m_list (by decide +kernel) rfl) pa_nil))) (nomark _)) (pw_or1 (pt_cmpR (op_neU hr.units) (pe_callB call_isiU (by rfl) m_isinstance (by decide +kernel) (pa_cons (pv 1) (pa_cons (pe_bltn (v := .ty "tuple") rfl m_tuple (by decide +kernel) rfl) pa_nil))) (pe_callB call_isiU (by rfl) m_isinstance (by decide +kernel) (pa_cons (pv 0) (pa_cons (pe_bltn (v := .ty "tuple") rfl m_tuple (by decide +kernel) rfl) pa_nil))) (nomark _))))) (pss_one (ps_ret pe_bl)) pss_nil)
  (pss_cons (ps_if (pt_cmpR (op_neU hr.units) (pe_callB call_len (by rfl) m_len (by decide +kernel) (pa_cons (pv 0) pa_nil)) (pe_callB call_len (by rfl) m_len (by decide +kernel) (pa_cons (pv 1) pa_nil)) (nomark _)) (pss_one (ps_ret pe_bl)) pss_nil)
  (pss_cons (ps_for PassesOwn.never rfl (pi_range1 rfl m_range (pa_cons (pe_callB call_len (by rfl) m_len (by decide +kernel) (pa_cons (pv 1) pa_nil)) pa_nil)) (pg_name (i := 2) sc.nd rfl (.inl rfl))
  (pss_one (ps_if (pt_not (pt_val (h__law_same.call (hr.mono (by first | decide | omega)) rfl pass0 (pa_cons (pe_ix ix_seq (pv 0) (pv 2) (fun _ _ => rfl)) (pa_cons (pe_ix ix_seq (pv 1) (pv 2) (fun _ _ => rfl)) pa_nil))))) (pss_one (ps_ret pe_bl)) pss_nil)))
  (pss_one (ps_ret pe_bl))))) pss_nil)
  (pss_cons (ps_if (pt_cmpR op_isN (pv 1) pe_non (nomark _)) (pss_one (ps_ret (pe_cmpR op_isN (pv 0) pe_non (nomark _)))) pss_nil)
  (pss_cons (ps_if (pt_val (pe_callB call_isiU (by rfl) m_isinstance (by decide +kernel) (pa_cons (pv 1) (pa_cons (pe_bltn (v := .ty "bool") rfl m_bool (by decide +kernel) rfl) pa_nil)))) (pss_one (ps_ret (pe_and (pe_callB call_isiU (by rfl) m_isinstance (by decide +kernel) (pa_cons (pv 0) (pa_cons (pe_bltn (v := .ty "bool") rfl m_bool (by decide +kernel) rfl) pa_nil))) (pe_one (pe_cmpR (op_eqU hr.units) (pv 0) (pv 1) (nomark _)))))) pss_nil)
  (pss_cons (ps_if (pt_val (pe_callB call_isiU (by rfl) m_isinstance (by decide +kernel) (pa_cons (pv 1) (pa_cons (pe_bltn (v := .ty "int") rfl m_int (by decide +kernel) rfl) pa_nil)))) (pss_one (ps_ret (pe_and (h__law_is_integer.call (hr.mono (by first | decide | omega)) rfl pass0 (pa_cons (pv 0) pa_nil)) (pe_one (pe_cmpR (op_eqU hr.units) (pv 0) (pv 1) (nomark _)))))) pss_nil)
  (pss_one (ps_ret (pe_and (pe_callB call_isiU (by rfl) m_isinstance (by decide +kernel) (pa_cons (pv 0) (pa_cons (pe_bltn (v := .ty "str") rfl m_str (by decide +kernel) rfl) pa_nil))) (pe_one (pe_cmpR (op_eqU hr.units) (pv 0) (pv 1) (nomark _)))))))))), ?_⟩
    dsimp only [cxOf]
    rintro ds h R ⟨p, rfl, hp, q⟩
    refine vs_fin ?_
    cases p with
    | ty _ => simp [okP] at hp
    | cls _ => simp [okP] at hp
    | ins _ _ => simp [okP] at hp
    | non =>
      k_places
      exact fin_p0 q
    | bl b =>
      k_places
      rw [decide_eq_true (show b = b from rfl)]
      exact fin_p0 q
    | int i =>
      k_places
      refine ⟨i, rfl, ?_⟩
      k_places
      rw [decide_eq_true (show i = i from rfl)]
      exact fin_p0 q
    | str z =>
      k_places
      rw [decide_eq_true (show z = z from rfl)]
      exact fin_p0 q
    | tup xs =>
      obtain ⟨m, rfl, hl, hx⟩ := okP_tup hp
      k_places
      refine vs_for (vi_range1 ?_)
      k_places
      refine ⟨_, rfl, by omega, by omega, ?_⟩
      refine ⟨fun i env h' => (∃ o, env = [some (dT xs), some (dT xs), o]) ∧ h' = h, ?_, ?_, ?_, ?_⟩
      · exact ⟨⟨none, rfl⟩, rfl⟩
      · exact fun _ _ _ _ => trivial
      · rintro i d env h' hd ⟨⟨o, rfl⟩, rfl⟩
        obtain ⟨hi, rfl⟩ := rng_get hd
        have hi2 : i < xs.length := by omega
        k_places
        refine v2_ixT (at_nat i (by omega) (List.getElem?_eq_getElem hi2)) ?_
        k_places
        refine v2_ixT (at_nat i (by omega) (List.getElem?_eq_getElem hi2)) ?_
        k_places
        refine ⟨_, rfl, hx _ (List.getElem_mem hi2), ?_⟩
        k_places
        exact ⟨⟨_, rfl⟩, rfl⟩
      · rintro env h' ⟨⟨o, rfl⟩, rfl⟩
        k_places
        exact fin_p0 q
    | lst xs =>
      obtain ⟨m, rfl, hl, hx⟩ := okP_lst hp
      k_places
      refine vs_for (vi_range1 ?_)
      k_places
      refine ⟨_, rfl, by omega, by omega, ?_⟩
      refine ⟨fun i env h' => (∃ o, env = [some (dL xs), some (dL xs), o]) ∧ h' = h, ?_, ?_, ?_, ?_⟩
      · exact ⟨⟨none, rfl⟩, rfl⟩
      · exact fun _ _ _ _ => trivial
      · rintro i d env h' hd ⟨⟨o, rfl⟩, rfl⟩
        obtain ⟨hi, rfl⟩ := rng_get hd
        have hi2 : i < xs.length := by omega
        k_places
        refine v2_ixL (at_nat i (by omega) (List.getElem?_eq_getElem hi2)) ?_
        k_places
        refine v2_ixL (at_nat i (by omega) (List.getElem?_eq_getElem hi2)) ?_
        k_places
        refine ⟨_, rfl, hx _ (List.getElem_mem hi2), ?_⟩
        k_places
        exact ⟨⟨_, rfl⟩, rfl⟩
      · rintro env h' ⟨⟨o, rfl⟩, rfl⟩
        k_places
        exact fin_p0 q
end
end Law

namespace Law
open PySem PySem.Spec PyProof.Rows L2 Kb
-- the steps that are tried: k_clsL a side condition; k_subL one step; k_places steps as long as one fits
local macro_rules | `(tactic| k_clsL) => `(tactic| first | assumption | decide | omega)
local macro_rules | `(tactic| k_subL) => `(tactic| first
  | (with_reducible refine vs_seq ?_) | (with_reducible refine vs_asg ?_) | (with_reducible refine vg_name ?_) | (with_reducible refine vs_ret ?_) | (with_reducible refine vs_if ?_) | (with_reducible refine vs_next ?_) | (with_reducible refine vs_drop ?_)
  | (with_reducible refine vt_test ?_) | (with_reducible refine vt_B ?_) | (with_reducible refine vt_and ?_) | (with_reducible refine vt_or ?_) | (with_reducible refine vt_not ?_) | (with_reducible refine vt_truth ?_)
  | (with_reducible refine ve_op ?_) | (with_reducible refine ve_isi2 ?_) | ((with_reducible refine isi2_i (T := "tuple") ?hT ?hm ?hn ?_); (case hT => exact rfl); (case hm => decide); (case hn => decide)) | ((with_reducible refine isi2_i (T := "list") ?hT ?hm ?hn ?_); (case hT => exact rfl); (case hm => decide); (case hn => decide)) | ((with_reducible refine isi2_i (T := "int") ?hT ?hm ?hn ?_); (case hT => exact rfl); (case hm => decide); (case hn => decide)) | ((with_reducible refine isi2_i (T := "bool") ?hT ?hm ?hn ?_); (case hT => exact rfl); (case hm => decide); (case hn => decide)) | ((with_reducible refine isi2_i (T := "str") ?hT ?hm ?hn ?_); (case hT => exact rfl); (case hm => decide); (case hn => decide)) | ((with_reducible refine isi2_i (T := "NoneType") ?hT ?hm ?hn ?_); (case hT => exact rfl); (case hm => decide); (case hn => decide)) | (with_reducible refine ve_cb ?_) | (with_reducible refine va_cons ?_) | (with_reducible refine va_nil ?_) | (with_reducible refine ve_call ?_)
  | (with_reducible refine ve_int ?_) | (with_reducible refine ve_str ?_) | (with_reducible refine ve_bl ?_) | (with_reducible refine ve_non ?_) | (with_reducible refine ve_ty ?_)
  | (refine ve_var (by exact rfl) ?_)
  | (with_reducible refine ve_and ?_) | (with_reducible refine ve_or ?_) | (with_reducible refine ve_not ?_) | (with_reducible refine ve_chain ?_) | (with_reducible refine ve_un ?_) | (with_reducible refine ve_if ?_)
  | (with_reducible refine bool_ans ?_) | (with_reducible refine tru_bl ?_)
  | (with_reducible refine vc_intI ?_) | (with_reducible refine v2_addI ?_) | (with_reducible refine v2_sub ?_)
  | (with_reducible refine v2_lt ?_) | (with_reducible refine v2_le ?_) | (with_reducible refine v2_gt ?_) | (with_reducible refine v2_ge ?_)
  | (with_reducible refine v2_eqI ?_) | (with_reducible refine v2_eqS ?_) | (with_reducible refine v2_eqB ?_) | (with_reducible refine v2_neI ?_) | (with_reducible refine v2_neS ?_) | (with_reducible refine v2_neB ?_)
  | (with_reducible refine v2_isN ?_) | (with_reducible refine v2_notN ?_)
  | (with_reducible refine v2_mod ?hm ?_; case hm => k_clsL) | (with_reducible refine v2_div ?hm ?_; case hm => (constructor <;> k_clsL))
  | (with_reducible refine v2_mul ?hm ?_; case hm => first | exact cmul_small (by k_clsL) (by k_clsL) | exact cmul_wide (by k_clsL) (by k_clsL))
  | (with_reducible refine vc_min2 ?_) | (with_reducible refine vc_max2 ?_)
  | (with_reducible refine ve_tup ?_) | (with_reducible refine tup_i ?hl ?he ?hx ?_; (case hx => exact (show _ = (unP _).map D.p from rfl)); (case he => exact rfl); (case hl => decide))
  | ((with_reducible refine vc_isi (T := "tuple") ?hT ?hn ?_); (case hT => first | exact rfl | exact ⟨rfl, _, by first | assumption | simp⟩); (case hn => decide)) | ((with_reducible refine vc_isi (T := "list") ?hT ?hn ?_); (case hT => first | exact rfl | exact ⟨rfl, _, by first | assumption | simp⟩); (case hn => decide)) | ((with_reducible refine vc_isi (T := "int") ?hT ?hn ?_); (case hT => first | exact rfl | exact ⟨rfl, _, by first | assumption | simp⟩); (case hn => decide)) | ((with_reducible refine vc_isi (T := "bool") ?hT ?hn ?_); (case hT => first | exact rfl | exact ⟨rfl, _, by first | assumption | simp⟩); (case hn => decide)) | ((with_reducible refine vc_isi (T := "str") ?hT ?hn ?_); (case hT => first | exact rfl | exact ⟨rfl, _, by first | assumption | simp⟩); (case hn => decide)) | ((with_reducible refine vc_isi (T := "NoneType") ?hT ?hn ?_); (case hT => first | exact rfl | exact ⟨rfl, _, by first | assumption | simp⟩); (case hn => decide))
  | (with_reducible refine vc_lenL ?_) | (with_reducible refine vc_lenT ?_) | (with_reducible refine ite_nrefl ?_) | (with_reducible refine ite_refl ?_)
  | ((with_reducible refine ite_tt ?hc ?_); (case hc => first | decide | exact rfl)) | ((with_reducible refine ite_ff ?hc ?_); (case hc => first | decide | exact rfl))
  | (with_reducible refine v1_U ?_))
local macro_rules | `(tactic| k_places) => `(tactic| repeat k_subL)

section
variable {Pg : Program} {w : World} {K : PySem.W.Frag} {mg : Str → Option Value} {base : Heap}
abbrev st_frozen : Stmt := (topS 2)
theorem sc_frozen : FnScope ["value", "item"] ["value"] (defScope st_frozen) := ⟨rfl, rfl, rfl, by decide +kernel, rfl, by decide +kernel, by decide +kernel⟩
def W_frozen : Nat → Spc
  | 0 => fun _ _ _ => False
  | n + 1 => fun ds h R => ∃ p : P, ds = [.p p] ∧ okP n p = true ∧ R (.p (frzP n p)) h
theorem ok_frozen (A : DefAt K mg "frozen" st_frozen ["value"]) (m_list : mg "list" = none) (m_tuple : mg "tuple" = none) (m_isinstance : mg "isinstance" = none) : ∀ n : Nat, HasF Pg w K mg base CX0 (n + 1) "frozen" ["value"] (spD K (W_frozen n))
  | 0 => .never A sc_frozen fun _ _ _ h => h
  | n + 1 => by
    have sc := sc_frozen
    have h_frozen := ok_frozen A m_list m_tuple m_isinstance n
    refine A.okD sc (W_frozen (n + 1)) (fun ds h R ⟨c, e, _⟩ => by rw [e]; rfl) fun f cdv A outer s H E hr => ?_
    refine ⟨_, (pss_cons (ps_if (pt_val (pe_callB call_isiU (by rfl) m_isinstance (by decide +kernel) (pa_cons (pv 0) (pa_cons (pe_tup (pa_cons (pe_bltn (v := .ty "list") rfl m_list (by decide +kernel) rfl) (pa_cons (pe_bltn (v := .ty "tuple") rfl m_tuple (by decide +kernel) rfl) pa_nil))) pa_nil)))) (pss_one (ps_ret (pe_callTy call_tuple_of (by rfl) m_tuple (by decide +kernel) (pa_cons (pe_lc (own := [("item", 1)]) rfl sc.nd (pi_seq (pv 0)) (blkOk_by (N := ["value", "item"]) (sc := defScope (topS 2)) (by decide +kernel)) (fun _ _ _ _ _ => (pg_name (i := 1) sc.nd rfl (.inl rfl))) (fun _ _ _ _ _ => pts_nil) (fun _ _ _ _ _ => (h_frozen.call (hr.mono (by first | decide | omega)) rfl pass0 (pa_cons (pv 1) pa_nil)))) pa_nil)))) pss_nil)
  (pss_one (ps_ret (pv 0)))), ?_⟩
    dsimp only [cxOf]
    rintro ds h R ⟨p, rfl, hp, q⟩
    refine vs_fin ?_
    cases p with
    | ty _ => simp [okP] at hp
    | cls _ => simp [okP] at hp
    | ins _ _ => simp [okP] at hp
    | non => k_places; exact fin_p0 (by cases n <;> exact q)
    | bl b => k_places; exact fin_p0 (by cases n <;> exact q)
    | int b => k_places; exact fin_p0 (by cases n <;> exact q)
    | str b => k_places; exact fin_p0 (by cases n <;> exact q)
    | tup xs =>
      obtain ⟨m, rfl, hl, hx⟩ := okP_tup hp
      k_places
      refine ve_lcMap tg_name ?_
      refine vi_seqT ?_
      k_places
      refine ⟨xs, rfl, xs.map (frzP m), by simp, ?_, fun _ => trivial, ?_, ?_⟩
      · rw [List.length_map]; have e := sizeLine_eq; omega
      · intro i d y acc hd hy
        rw [List.getElem?_map] at hd hy
        cases e : xs[i]? with
        | none => rw [e] at hd; cases hd
        | some p0 =>
          rw [e] at hd hy
          cases hd
          cases hy
          refine vg_name ⟨rfl, ?_⟩
          k_places
          exact ⟨p0, rfl, hx p0 (List.mem_of_getElem? e), rfl, rfl⟩
      · k_places
        refine vc_tuple rfl ?_
        exact fin_p0 q
    | lst xs =>
      obtain ⟨m, rfl, hl, hx⟩ := okP_lst hp
      k_places
      refine ve_lcMap tg_name ?_
      refine vi_seqL ?_
      k_places
      refine ⟨xs, rfl, xs.map (frzP m), by simp, ?_, fun _ => trivial, ?_, ?_⟩
      · rw [List.length_map]; have e := sizeLine_eq; omega
      · intro i d y acc hd hy
        rw [List.getElem?_map] at hd hy
        cases e : xs[i]? with
        | none => rw [e] at hd; cases hd
        | some p0 =>
          rw [e] at hd hy
          cases hd
          cases hy
          refine vg_name ⟨rfl, ?_⟩
          k_places
          exact ⟨p0, rfl, hx p0 (List.mem_of_getElem? e), rfl, rfl⟩
      · k_places
        refine vc_tuple rfl ?_
        exact fin_p0 q
end
end Law

namespace Law
open PySem PySem.Spec PyProof.Rows L2 Kb
section
variable {h : Hs} {C : Addr} {a n : Int} {hd cap pub pts : P}
def chF (a n : Int) (hd cap pub pts : P) : List (Str × P) := [("author", .int a), ("number", .int n), ("heard", hd), ("capability", cap), ("publics", pub), ("parts", pts)]
def chP (C : Addr) (a n : Int) (hd cap pub pts : P) : P := .ins C (chF a n hd cap pub pts)
theorem fl_author : FldD "author" (.p (chP C a n hd cap pub pts)) h C (dI a) := ⟨rfl, by kernel_rfl⟩
theorem fl_number : FldD "number" (.p (chP C a n hd cap pub pts)) h C (dI n) := ⟨rfl, by kernel_rfl⟩
theorem fl_heard : FldD "heard" (.p (chP C a n hd cap pub pts)) h C (.p hd) := ⟨rfl, by kernel_rfl⟩
theorem fl_capability : FldD "capability" (.p (chP C a n hd cap pub pts)) h C (.p cap) := ⟨rfl, by kernel_rfl⟩
theorem fl_publics : FldD "publics" (.p (chP C a n hd cap pub pts)) h C (.p pub) := ⟨rfl, by kernel_rfl⟩
theorem fl_parts : FldD "parts" (.p (chP C a n hd cap pub pts)) h C (.p pts) := ⟨rfl, by kernel_rfl⟩
theorem putD_le {f : Str} {d : D} : ∀ {l : List (Str × D)} {k : Nat}, l.length ≤ k → (putD f d l).length ≤ k + 1
  | [], k, _ => Nat.succ_le_succ (Nat.zero_le _)
  | p :: r, 0, h => absurd h (Nat.not_succ_le_zero _)
  | p :: r, k + 1, h => by
    unfold putD
    split
    · exact Nat.le_succ_of_le h
    · exact Nat.succ_le_succ (putD_le (Nat.le_of_succ_le_succ h))
theorem put6 : putD "parts" (.p pts) (putD "publics" (.p pub) (putD "capability" (.p cap) (putD "heard" (.p hd) (putD "number" (dI n) (putD "author" (dI a) []))))) = (chF a n hd cap pub pts).map fun q => (q.1, D.p q.2) := by kernel_rfl
theorem no_meth {m : Str} (hm : ((chF 0 0 .non .non .non .non).map fun q => q.1).contains m = false) : InsD C m (.p (chP C a n hd cap pub pts)) h := by
  refine ⟨rfl, ?_⟩
  have hm' : m ≠ "author" ∧ m ≠ "number" ∧ m ≠ "heard" ∧ m ≠ "capability" ∧ m ≠ "publics" ∧ m ≠ "parts" := by
    simpa [chF, List.contains_iff_mem] using hm
  obtain ⟨h1, h2, h3, h4, h5, h6⟩ := hm'
  have e : ∀ x : Str, m ≠ x → (m == x) = false := fun x hx => by simpa using hx
  simp [chF, List.lookup, e _ h1, e _ h2, e _ h3, e _ h4, e _ h5, e _ h6]
end
/-- what the class is, as the top made it -/
structure Chg (K : PySem.W.Frag) (mg : Str → Option Value) (C : Addr) : Prop where
  cl : Cls K C
  n1 : NoAttr K C "author"
  n2 : NoAttr K C "number"
  n3 : NoAttr K C "heard"
  n4 : NoAttr K C "capability"
  n5 : NoAttr K C "publics"
  n6 : NoAttr K C "parts"
  mgC : mg "Change" = some (.ref C)
-- the steps that are tried: k_clsL a side condition; k_subL one step; k_places steps as long as one fits
local macro_rules | `(tactic| k_clsL) => `(tactic| first | assumption | decide | omega)
local macro_rules | `(tactic| k_subL) => `(tactic| first
  | (with_reducible refine vs_seq ?_) | (with_reducible refine vs_asg ?_) | (with_reducible refine vg_name ?_) | (with_reducible refine vs_ret ?_) | (with_reducible refine vs_if ?_) | (with_reducible refine vs_next ?_) | (with_reducible refine vs_drop ?_)
  | (with_reducible refine vt_test ?_) | (with_reducible refine vt_B ?_) | (with_reducible refine vt_and ?_) | (with_reducible refine vt_or ?_) | (with_reducible refine vt_not ?_) | (with_reducible refine vt_truth ?_)
  | (with_reducible refine ve_op ?_) | (with_reducible refine ve_isi2 ?_) | ((with_reducible refine isi2_i (T := "tuple") ?hT ?hm ?hn ?_); (case hT => exact rfl); (case hm => decide); (case hn => decide)) | ((with_reducible refine isi2_i (T := "list") ?hT ?hm ?hn ?_); (case hT => exact rfl); (case hm => decide); (case hn => decide)) | ((with_reducible refine isi2_i (T := "int") ?hT ?hm ?hn ?_); (case hT => exact rfl); (case hm => decide); (case hn => decide)) | ((with_reducible refine isi2_i (T := "bool") ?hT ?hm ?hn ?_); (case hT => exact rfl); (case hm => decide); (case hn => decide)) | ((with_reducible refine isi2_i (T := "str") ?hT ?hm ?hn ?_); (case hT => exact rfl); (case hm => decide); (case hn => decide)) | ((with_reducible refine isi2_i (T := "NoneType") ?hT ?hm ?hn ?_); (case hT => exact rfl); (case hm => decide); (case hn => decide)) | (with_reducible refine ve_cb ?_) | (with_reducible refine va_cons ?_) | (with_reducible refine va_nil ?_) | (with_reducible refine ve_call ?_)
  | (with_reducible refine ve_int ?_) | (with_reducible refine ve_str ?_) | (with_reducible refine ve_bl ?_) | (with_reducible refine ve_non ?_) | (with_reducible refine ve_ty ?_)
  | (refine ve_var (by exact rfl) ?_)
  | (with_reducible refine ve_and ?_) | (with_reducible refine ve_or ?_) | (with_reducible refine ve_not ?_) | (with_reducible refine ve_chain ?_) | (with_reducible refine ve_un ?_) | (with_reducible refine ve_if ?_)
  | (with_reducible refine bool_ans ?_) | (with_reducible refine tru_bl ?_)
  | (with_reducible refine vc_intI ?_) | (with_reducible refine v2_addI ?_) | (with_reducible refine v2_sub ?_)
  | (with_reducible refine v2_lt ?_) | (with_reducible refine v2_le ?_) | (with_reducible refine v2_gt ?_) | (with_reducible refine v2_ge ?_)
  | (with_reducible refine v2_eqI ?_) | (with_reducible refine v2_eqS ?_) | (with_reducible refine v2_eqB ?_) | (with_reducible refine v2_neI ?_) | (with_reducible refine v2_neS ?_) | (with_reducible refine v2_neB ?_)
  | (with_reducible refine v2_isN ?_) | (with_reducible refine v2_notN ?_)
  | (with_reducible refine v2_mod ?hm ?_; case hm => k_clsL) | (with_reducible refine v2_div ?hm ?_; case hm => (constructor <;> k_clsL))
  | (with_reducible refine v2_mul ?hm ?_; case hm => first | exact cmul_small (by k_clsL) (by k_clsL) | exact cmul_wide (by k_clsL) (by k_clsL))
  | (with_reducible refine vc_min2 ?_) | (with_reducible refine vc_max2 ?_)
  | (with_reducible refine ve_tup ?_) | (with_reducible refine tup_i ?hl ?he ?hx ?_; (case hx => exact (show _ = (unP _).map D.p from rfl)); (case he => exact rfl); (case hl => decide))
  | ((with_reducible refine vc_isi (T := "tuple") ?hT ?hn ?_); (case hT => first | exact rfl | exact ⟨rfl, _, by first | assumption | simp⟩); (case hn => decide)) | ((with_reducible refine vc_isi (T := "list") ?hT ?hn ?_); (case hT => first | exact rfl | exact ⟨rfl, _, by first | assumption | simp⟩); (case hn => decide)) | ((with_reducible refine vc_isi (T := "int") ?hT ?hn ?_); (case hT => first | exact rfl | exact ⟨rfl, _, by first | assumption | simp⟩); (case hn => decide)) | ((with_reducible refine vc_isi (T := "bool") ?hT ?hn ?_); (case hT => first | exact rfl | exact ⟨rfl, _, by first | assumption | simp⟩); (case hn => decide)) | ((with_reducible refine vc_isi (T := "str") ?hT ?hn ?_); (case hT => first | exact rfl | exact ⟨rfl, _, by first | assumption | simp⟩); (case hn => decide)) | ((with_reducible refine vc_isi (T := "NoneType") ?hT ?hn ?_); (case hT => first | exact rfl | exact ⟨rfl, _, by first | assumption | simp⟩); (case hn => decide))
  | (with_reducible refine vc_lenL ?_) | (with_reducible refine vc_lenT ?_) | (with_reducible refine ite_nrefl ?_) | (with_reducible refine ite_refl ?_)
  | ((with_reducible refine ite_tt ?hc ?_); (case hc => first | decide | exact rfl)) | ((with_reducible refine ite_ff ?hc ?_); (case hc => first | decide | exact rfl))
  | (with_reducible refine v1_U ?_))
local macro_rules | `(tactic| k_places) => `(tactic| repeat k_subL)

local macro_rules | `(tactic| k_subL) => `(tactic| first
  | (with_reducible refine ve_fld ?_)
  | ((with_reducible refine fld_i fl_author ?hc ?hn ?_); (case hc => assumption); (case hn => assumption)) | ((with_reducible refine fld_i fl_number ?hc ?hn ?_); (case hc => assumption); (case hn => assumption))
  | ((with_reducible refine fld_i fl_heard ?hc ?hn ?_); (case hc => assumption); (case hn => assumption)) | ((with_reducible refine fld_i fl_capability ?hc ?hn ?_); (case hc => assumption); (case hn => assumption))
  | ((with_reducible refine fld_i fl_publics ?hc ?hn ?_); (case hc => assumption); (case hn => assumption)) | ((with_reducible refine fld_i fl_parts ?hc ?hn ?_); (case hc => assumption); (case hn => assumption)))
section
variable {Pg : Program} {w : World} {K : PySem.W.Frag} {mg : Str → Option Value} {base : Heap} {C : Addr}
abbrev st_init : Stmt := (inClass (topS 1) 0)
theorem sc_init : FnScope ["self", "author", "number", "heard", "capability", "publics", "parts"] ["self", "author", "number", "heard", "capability", "publics", "parts"] (defScope st_init) := ⟨rfl, rfl, rfl, by decide +kernel, rfl, by decide +kernel, by decide +kernel⟩
def W_init (C : Addr) : Spc := fun ds h R => ∃ (i : Nat) (a n : Int) (hd cap pub pts : P), ds = [.own i, dI a, dI n, .p hd, .p cap, .p pub, .p pts] ∧ h[i]? = some (some (.ins C [])) ∧ okP 5 hd = true ∧ okP 5 pub = true ∧ okP 5 pts = true ∧
  R dN (h.set i (some (.ins C ((chF a n (frzP 5 hd) cap (frzP 5 pub) (frzP 5 pts)).map fun q => (q.1, D.p q.2)))))
theorem ok_init (A : InitAt K C "Change.__init__" st_init ["self", "author", "number", "heard", "capability", "publics", "parts"]) (T : Chg K mg C)
    (h_frozen : HasF Pg w K mg base CX0 7 "frozen" ["value"] (spD K (W_frozen 6))) : HasMk Pg w K mg base CX0 8 "Change" C ["self", "author", "number", "heard", "capability", "publics", "parts"] (spD K (W_init C)) := by
  have sc := sc_init
  obtain ⟨cl, n1, n2, n3, n4, n5, n6, mgC⟩ := T
  refine A.okD mgC sc (W_init C) (fun ds h R ⟨_, _, _, _, _, _, _, e, _⟩ => by rw [e]; rfl) fun f cdv A outer s H E hr => ?_
  refine ⟨_, (pss_cons (ps_fld (pv 0) (pv 1) rfl)
  (pss_cons (ps_fld (pv 0) (pv 2) rfl)
  (pss_cons (ps_fld (pv 0) (h_frozen.call (hr.mono (by first | decide | omega)) rfl pass0 (pa_cons (pv 3) pa_nil)) rfl)
  (pss_cons (ps_fld (pv 0) (pv 4) rfl)
  (pss_cons (ps_fld (pv 0) (h_frozen.call (hr.mono (by first | decide | omega)) rfl pass0 (pa_cons (pv 5) pa_nil)) rfl)
  (pss_one (ps_fld (pv 0) (h_frozen.call (hr.mono (by first | decide | omega)) rfl pass0 (pa_cons (pv 6) pa_nil)) rfl))))))), ?_⟩
  dsimp only [cxOf]
  rintro ds h R ⟨i, a, n, hd, cap, pub, pts, rfl, hi, ok1, ok2, ok3, q⟩
  have il : i < h.length := (List.getElem?_eq_some_iff.mp hi).1
  have gi : ∀ {o : Option OO} {h' : Hs}, i < h'.length → (h'.set i o)[i]? = some o := fun hl => List.getElem?_set_self hl
  k_subL
  refine vs_fld ?_
  k_places
  refine ⟨i, C, [], rfl, hi, cl, n1, by decide, ?_⟩
  k_subL
  refine vs_fld ?_
  k_places
  refine ⟨i, C, _, rfl, gi il, cl, n2, (Nat.lt_of_le_of_lt (by repeat (first | exact Nat.zero_le _ | apply putD_le)) (by decide : 6 < 1000)), ?_⟩
  k_subL
  refine vs_fld ?_
  k_places
  refine ⟨hd, rfl, ok1, ?_⟩
  k_places
  refine ⟨i, C, _, rfl, gi (by simpa using il), cl, n3, (Nat.lt_of_le_of_lt (by repeat (first | exact Nat.zero_le _ | apply putD_le)) (by decide : 6 < 1000)), ?_⟩
  k_subL
  refine vs_fld ?_
  k_places
  refine ⟨i, C, _, rfl, gi (by simpa using il), cl, n4, (Nat.lt_of_le_of_lt (by repeat (first | exact Nat.zero_le _ | apply putD_le)) (by decide : 6 < 1000)), ?_⟩
  k_subL
  refine vs_fld ?_
  k_places
  refine ⟨pub, rfl, ok2, ?_⟩
  k_places
  refine ⟨i, C, _, rfl, gi (by simpa using il), cl, n5, (Nat.lt_of_le_of_lt (by repeat (first | exact Nat.zero_le _ | apply putD_le)) (by decide : 6 < 1000)), ?_⟩
  refine vs_fld ?_
  k_places
  refine ⟨pts, rfl, ok3, ?_⟩
  k_places
  refine ⟨i, C, _, rfl, gi (by simpa using il), cl, n6, (Nat.lt_of_le_of_lt (by repeat (first | exact Nat.zero_le _ | apply putD_le)) (by decide : 6 < 1000)), ?_⟩
  rw [put6]
  simp only [List.set_set]
  exact q
end
end Law

namespace Law
open PySem PySem.Spec PyProof.Rows L2 Kb
-- the steps that are tried: k_clsL a side condition; k_subL one step; k_places steps as long as one fits
local macro_rules | `(tactic| k_clsL) => `(tactic| first | assumption | decide | omega)
local macro_rules | `(tactic| k_subL) => `(tactic| first
  | (with_reducible refine vs_seq ?_) | (with_reducible refine vs_asg ?_) | (with_reducible refine vg_name ?_) | (with_reducible refine vs_ret ?_) | (with_reducible refine vs_if ?_) | (with_reducible refine vs_next ?_) | (with_reducible refine vs_drop ?_)
  | (with_reducible refine vt_test ?_) | (with_reducible refine vt_B ?_) | (with_reducible refine vt_and ?_) | (with_reducible refine vt_or ?_) | (with_reducible refine vt_not ?_) | (with_reducible refine vt_truth ?_)
  | (with_reducible refine ve_op ?_) | (with_reducible refine ve_isi2 ?_) | ((with_reducible refine isi2_i (T := "tuple") ?hT ?hm ?hn ?_); (case hT => exact rfl); (case hm => decide); (case hn => decide)) | ((with_reducible refine isi2_i (T := "list") ?hT ?hm ?hn ?_); (case hT => exact rfl); (case hm => decide); (case hn => decide)) | ((with_reducible refine isi2_i (T := "int") ?hT ?hm ?hn ?_); (case hT => exact rfl); (case hm => decide); (case hn => decide)) | ((with_reducible refine isi2_i (T := "bool") ?hT ?hm ?hn ?_); (case hT => exact rfl); (case hm => decide); (case hn => decide)) | ((with_reducible refine isi2_i (T := "str") ?hT ?hm ?hn ?_); (case hT => exact rfl); (case hm => decide); (case hn => decide)) | ((with_reducible refine isi2_i (T := "NoneType") ?hT ?hm ?hn ?_); (case hT => exact rfl); (case hm => decide); (case hn => decide)) | (with_reducible refine ve_cb ?_) | (with_reducible refine va_cons ?_) | (with_reducible refine va_nil ?_) | (with_reducible refine ve_call ?_)
  | (with_reducible refine ve_int ?_) | (with_reducible refine ve_str ?_) | (with_reducible refine ve_bl ?_) | (with_reducible refine ve_non ?_) | (with_reducible refine ve_ty ?_)
  | (refine ve_var (by exact rfl) ?_)
  | (with_reducible refine ve_and ?_) | (with_reducible refine ve_or ?_) | (with_reducible refine ve_not ?_) | (with_reducible refine ve_chain ?_) | (with_reducible refine ve_un ?_) | (with_reducible refine ve_if ?_)
  | (with_reducible refine bool_ans ?_) | (with_reducible refine tru_bl ?_)
  | (with_reducible refine vc_intI ?_) | (with_reducible refine v2_addI ?_) | (with_reducible refine v2_sub ?_)
  | (with_reducible refine v2_lt ?_) | (with_reducible refine v2_le ?_) | (with_reducible refine v2_gt ?_) | (with_reducible refine v2_ge ?_)
  | (with_reducible refine v2_eqI ?_) | (with_reducible refine v2_eqS ?_) | (with_reducible refine v2_eqB ?_) | (with_reducible refine v2_neI ?_) | (with_reducible refine v2_neS ?_) | (with_reducible refine v2_neB ?_)
  | (with_reducible refine v2_isN ?_) | (with_reducible refine v2_notN ?_)
  | ((with_reducible refine v2_mod ?hm ?_); case hm => k_clsL) | ((with_reducible refine v2_div ?hm ?_); case hm => (constructor <;> k_clsL))
  | ((with_reducible refine v2_mul ?hm ?_); case hm => first | exact cmul_small (by k_clsL) (by k_clsL) | exact cmul_wide (by k_clsL) (by k_clsL))
  | (with_reducible refine vc_min2 ?_) | (with_reducible refine vc_max2 ?_)
  | (with_reducible refine ve_tup ?_) | ((with_reducible refine tup_j ?hl ?_); (case hl => exact rfl))
  | ((with_reducible refine vc_isi (T := "tuple") ?hT ?hn ?_); (case hT => first | exact rfl | exact ⟨rfl, _, by first | assumption | simp⟩); (case hn => decide)) | ((with_reducible refine vc_isi (T := "list") ?hT ?hn ?_); (case hT => first | exact rfl | exact ⟨rfl, _, by first | assumption | simp⟩); (case hn => decide)) | ((with_reducible refine vc_isi (T := "int") ?hT ?hn ?_); (case hT => first | exact rfl | exact ⟨rfl, _, by first | assumption | simp⟩); (case hn => decide)) | ((with_reducible refine vc_isi (T := "bool") ?hT ?hn ?_); (case hT => first | exact rfl | exact ⟨rfl, _, by first | assumption | simp⟩); (case hn => decide)) | ((with_reducible refine vc_isi (T := "str") ?hT ?hn ?_); (case hT => first | exact rfl | exact ⟨rfl, _, by first | assumption | simp⟩); (case hn => decide)) | ((with_reducible refine vc_isi (T := "NoneType") ?hT ?hn ?_); (case hT => first | exact rfl | exact ⟨rfl, _, by first | assumption | simp⟩); (case hn => decide))
  | (with_reducible refine vc_lenL ?_) | (with_reducible refine vc_lenT ?_) | (with_reducible refine ite_nrefl ?_) | (with_reducible refine ite_refl ?_)
  | ((with_reducible refine ite_tt ?hc ?_); (case hc => first | decide | exact rfl)) | ((with_reducible refine ite_ff ?hc ?_); (case hc => first | decide | exact rfl))
  | (with_reducible refine v1_U ?_))
local macro_rules | `(tactic| k_places) => `(tactic| repeat k_subL)

local macro_rules | `(tactic| k_subL) => `(tactic| first
  | (with_reducible refine ve_fld ?_)
  | ((with_reducible refine fld_i fl_author ?hc ?hn ?_); (case hc => assumption); (case hn => assumption)) | ((with_reducible refine fld_i fl_number ?hc ?hn ?_); (case hc => assumption); (case hn => assumption))
  | ((with_reducible refine fld_i fl_heard ?hc ?hn ?_); (case hc => assumption); (case hn => assumption)) | ((with_reducible refine fld_i fl_capability ?hc ?hn ?_); (case hc => assumption); (case hn => assumption))
  | ((with_reducible refine fld_i fl_publics ?hc ?hn ?_); (case hc => assumption); (case hn => assumption)) | ((with_reducible refine fld_i fl_parts ?hc ?hn ?_); (case hc => assumption); (case hn => assumption)))
section
variable {Pg : Program} {w : World} {K : PySem.W.Frag} {mg : Str → Option Value} {base : Heap} {C : Addr}
abbrev st_name : Stmt := (inClass (topS 1) 1)
theorem sc_name : FnScope ["self"] ["self"] (defScope st_name) := ⟨rfl, rfl, rfl, by decide +kernel, rfl, by decide +kernel, by decide +kernel⟩
def W_name (C : Addr) : Spc := fun ds h R => ∃ (a n : Int) (hd cap pub pts : P), ds = [.p (chP C a n hd cap pub pts)] ∧ R (dT [.int a, .int n]) h
theorem ok_name (A : MethAt K C "name" "Change.name" st_name ["self"]) (T : Chg K mg C) : HasM Pg w K mg base CX0 1 C "name" ["self"] (spD K (W_name C)) := by
  have sc := sc_name
  obtain ⟨cl, n1, n2, n3, n4, n5, n6, mgC⟩ := T
  refine A.okD cl sc (W_name C) (fun ds h R ⟨_, _, _, _, _, _, e, _⟩ => by rw [e]; rfl) fun f cdv A outer s H E hr => ?_
  refine ⟨_, (pss_one (ps_ret (pe_tup (pa_cons (pe_fld (pv 0) rfl) (pa_cons (pe_fld (pv 0) rfl) pa_nil))))), ?_⟩
  dsimp only [cxOf]
  rintro ds h R ⟨a, n, hd, cap, pub, pts, rfl, q⟩
  k_places
  exact q
abbrev st_header : Stmt := (inClass (topS 1) 2)
theorem sc_header : FnScope ["self"] ["self"] (defScope st_header) := ⟨rfl, rfl, rfl, by decide +kernel, rfl, by decide +kernel, by decide +kernel⟩
def W_header (C : Addr) : Spc := fun ds h R => ∃ (a n : Int) (hd cap pub pts : P), ds = [.p (chP C a n hd cap pub pts)] ∧ R (dT [.int a, .int n, hd, cap, pub]) h
theorem ok_header (A : MethAt K C "header" "Change.header" st_header ["self"]) (T : Chg K mg C) : HasM Pg w K mg base CX0 1 C "header" ["self"] (spD K (W_header C)) := by
  have sc := sc_header
  obtain ⟨cl, n1, n2, n3, n4, n5, n6, mgC⟩ := T
  refine A.okD cl sc (W_header C) (fun ds h R ⟨_, _, _, _, _, _, e, _⟩ => by rw [e]; rfl) fun f cdv A outer s H E hr => ?_
  refine ⟨_, (pss_one (ps_ret (pe_tup (pa_cons (pe_fld (pv 0) rfl) (pa_cons (pe_fld (pv 0) rfl) (pa_cons (pe_fld (pv 0) rfl) (pa_cons (pe_fld (pv 0) rfl) (pa_cons (pe_fld (pv 0) rfl) pa_nil)))))))), ?_⟩
  dsimp only [cxOf]
  rintro ds h R ⟨a, n, hd, cap, pub, pts, rfl, q⟩
  k_places
  exact q
abbrev st_with : Stmt := (inClass (topS 1) 3)
theorem sc_with : FnScope ["self", "parts"] ["self", "parts"] (defScope st_with) := ⟨rfl, rfl, rfl, by decide +kernel, rfl, by decide +kernel, by decide +kernel⟩
def W_with (C : Addr) : Spc := fun ds h R => ∃ (a n : Int) (hd cap pub pts new : P), ds = [.p (chP C a n hd cap pub pts), .p new] ∧ okP 5 hd = true ∧ okP 5 pub = true ∧ okP 5 new = true ∧ R (.p (chP C a n (frzP 5 hd) cap (frzP 5 pub) (frzP 5 new))) h
theorem ok_with (A : MethAt K C "with_parts" "Change.with_parts" st_with ["self", "parts"]) (T : Chg K mg C)
    (c_Change : HasMk Pg w K mg base CX0 8 "Change" C ["self", "author", "number", "heard", "capability", "publics", "parts"] (spD K (W_init C))) : HasM Pg w K mg base CX0 10 C "with_parts" ["self", "parts"] (spD K (W_with C)) := by
  have sc := sc_with
  obtain ⟨cl, n1, n2, n3, n4, n5, n6, mgC⟩ := T
  refine A.okD cl sc (W_with C) (fun ds h R ⟨_, _, _, _, _, _, _, e, _⟩ => by rw [e]; rfl) fun f cdv A outer s H E hr => ?_
  refine ⟨_, (pss_one (ps_ret (c_Change.make (hr.mono (by first | decide | omega)) rfl pass0 (pa_cons (pe_fld (pv 0) rfl) (pa_cons (pe_fld (pv 0) rfl) (pa_cons (pe_fld (pv 0) rfl) (pa_cons (pe_fld (pv 0) rfl) (pa_cons (pe_fld (pv 0) rfl) (pa_cons (pv 1) pa_nil))))))))), ?_⟩
  dsimp only [cxOf]
  rintro ds h R ⟨a, n, hd, cap, pub, pts, new, rfl, ok1, ok2, ok3, q⟩
  refine vs_fin ?_
  k_places
  refine ve_makeF ?_
  k_places
  refine ⟨_, a, n, hd, cap, pub, new, rfl, by simp, ok1, ok2, ok3, rfl, _, ?_, fin_p0 q⟩
  simp
abbrev st_past : Stmt := (topS 3)
theorem sc_past : FnScope ["name", "change", "author", "number"] ["name", "change"] (defScope st_past) := ⟨rfl, rfl, rfl, by decide +kernel, rfl, by decide +kernel, by decide +kernel⟩
def isPast (a n : Int) (hs : List Int) : Bool := decide (0 ≤ a) && decide (a < hs.length) && decide (1 ≤ n) && decide (n ≤ hs.getD a.toNat 0)
def W_past (C : Addr) : Spc := fun ds h R => ∃ (x y a n : Int) (hs : List Int) (cap pub pts : P), ds = [dT [.int x, .int y], .p (chP C a n (.tup (hs.map P.int)) cap pub pts)] ∧ R (dB (isPast x y hs)) h
theorem ok_past (A : DefAt K mg "in_past" st_past ["name", "change"]) (T : Chg K mg C) (m_len : mg "len" = none) : HasF Pg w K mg base CX0 1 "in_past" ["name", "change"] (spD K (W_past C)) := by
  have sc := sc_past
  obtain ⟨cl, n1, n2, n3, n4, n5, n6, mgC⟩ := T
  refine A.okD sc (W_past C) (fun ds h R ⟨_, _, _, _, _, _, _, _, e, _⟩ => by rw [e]; rfl) fun f cdv A outer s H E hr => ?_
  refine ⟨_, (pss_cons (ps_asg (pv 0) (pg_tup rfl (pgs_cons (pg_name (i := 2) sc.nd rfl (.inl rfl)) (pgs_cons (pg_name (i := 3) sc.nd rfl (.inl rfl)) pgs_nil))))
  (pss_one (ps_ret (pe_and (pe_chain op_le op_lt pe_int (pv 2) (pe_callB call_len (by rfl) m_len (by decide +kernel) (pa_cons (pe_fld (pv 1) rfl) pa_nil))) (pe_one (pe_chain op_le op_le pe_int (pv 3) (pe_ix ix_seq (pe_fld (pv 1) rfl) (pv 2) (fun _ _ => rfl)))))))), ?_⟩
  dsimp only [cxOf]
  rintro ds h R ⟨x, y, a, n, hs, cap, pub, pts, rfl, q⟩
  refine vs_fin ?_
  k_places
  refine vg_tup rfl (vgs_cons (vg_name (vgs_cons (vg_name (vgs_nil ?_)))))
  k_places
  have e0 : isPast x y hs = (decide (0 ≤ x) && decide (x < hs.length) && decide (1 ≤ y) && decide (y ≤ hs.getD x.toNat 0)) := rfl
  rw [e0] at q
  refine ite_dec (fun h0 => ?_) (fun h0 => ?_)
  · k_places
    rw [List.length_map]
    refine ite_dec (fun h1 => ?_) (fun h1 => ?_)
    · k_places
      refine ite_dec (fun h2 => ?_) (fun h2 => ?_)
      · k_places
        refine v2_ixT (at_nat x.toNat (by omega) (get_ints (by omega))) ?_
        k_places
        rw [decide_eq_true h0, decide_eq_true h1, decide_eq_true h2] at q
        exact fin_p0 q
      · rw [decide_eq_false h2, Bool.and_false, Bool.false_and] at q
        exact fin_p0 q
    · k_places
      rw [decide_eq_false h1, Bool.and_false, Bool.false_and, Bool.false_and] at q
      exact fin_p0 q
  · k_places
    rw [decide_eq_false h0, Bool.false_and, Bool.false_and, Bool.false_and] at q
    exact fin_p0 q
abbrev st_key : Stmt := (topS 4)
theorem sc_key : FnScope ["change"] ["change"] (defScope st_key) := ⟨rfl, rfl, rfl, by decide +kernel, rfl, by decide +kernel, by decide +kernel⟩
def W_key (C : Addr) : Spc := fun ds h R => ∃ (a n : Int) (hs : List Int) (cap pub pts : P), ds = [.p (chP C a n (.tup (hs.map P.int)) cap pub pts)] ∧ R (dT [.int hs.sum, .int a, .int n]) h
theorem ok_key (A : DefAt K mg "order_key" st_key ["change"]) (T : Chg K mg C) (m_sum : mg "sum" = none) : HasF Pg w K mg base CX0 1 "order_key" ["change"] (spD K (W_key C)) := by
  have sc := sc_key
  obtain ⟨cl, n1, n2, n3, n4, n5, n6, mgC⟩ := T
  refine A.okD sc (W_key C) (fun ds h R ⟨_, _, _, _, _, _, e, _⟩ => by rw [e]; rfl) fun f cdv A outer s H E hr => ?_
  refine ⟨_, (pss_one (ps_ret (pe_tup (pa_cons (pe_callB (cr_sumU rfl) (by rfl) m_sum (by decide +kernel) (pa_cons (pe_fld (pv 0) rfl) pa_nil)) (pa_cons (pe_fld (pv 0) rfl) (pa_cons (pe_fld (pv 0) rfl) pa_nil)))))), ?_⟩
  dsimp only [cxOf]
  rintro ds h R ⟨a, n, hs, cap, pub, pts, rfl, q⟩
  k_places
  refine vc_sumT ?_
  k_places
  exact q
abbrev st_order : Stmt := (topS 5)
theorem sc_order : FnScope ["changes"] ["changes"] (defScope st_order) := ⟨rfl, rfl, rfl, by decide +kernel, rfl, by decide +kernel, by decide +kernel⟩
/-- in_order: an own list -/
def W_order (W : Spc) : Spc := fun ds h R => ∃ (ps : List P) (kz : List PyData), ds = [dL ps] ∧ SrtOk W ps kz h ∧ R (.own h.length) (h ++ [some (.lst ((sortP ps kz).map D.p))])
theorem ok_order {W : Spc} (A : DefAt K mg "in_order" st_order ["changes"]) (m_sorted : mg "sorted" = none) (h_key : HasF Pg w K mg base CX0 1 "order_key" ["change"] (spD K W)) :
    HasF Pg w K mg base CX0 4 "in_order" ["changes"] (spD K (W_order W)) := by
  have sc := sc_order
  obtain ⟨f_order_key, fd_order_key, F_order_key, mg_order_key, kp_order_key, b_order_key⟩ := h_key.ex
  refine A.okD sc (W_order W) (fun ds h R ⟨_, _, e, _⟩ => by rw [e]; rfl) fun f cdv A outer s H E hr => ?_
  refine ⟨_, (pss_one (ps_ret (pe_callBK (call_sortedK F_order_key b_order_key (hr.mono (by first | decide | omega))) (by rfl) m_sorted (by decide +kernel) (pa_cons (pv 0) pa_nil) (pk_cons (pe_glob (v := .ref f_order_key) rfl mg_order_key rfl) pk_nil)))), ?_⟩
  dsimp only [cxOf]
  rintro ds h R ⟨ps, kz, rfl, ok, q⟩
  k_places
  refine ve_sortedKO ?_
  k_places
  refine ve_cls ?_
  k_places
  exact ⟨ps, kz, rfl, rfl, ok, q⟩
end
end Law

namespace Law
open PySem PySem.Spec PyProof.Rows L2 Kb
structure Row where
  a : Int
  n : Int
  hs : List Int
  cap : P
  pub : List P
abbrev partsL : List P := [.non, .tup [], .tup [.tup [.str "table", .str "t"]], .tup []]
abbrev Row.p (r : Row) : P := .lst [.int r.a, .int r.n, .lst (r.hs.map P.int), r.cap, .lst r.pub, .lst partsL]
abbrev Row.c (C : Addr) (r : Row) : P := chP C r.a r.n (.tup (r.hs.map P.int)) r.cap (.tup r.pub) (.tup partsL)
structure Row.Ok (r : Row) : Prop where
  hl : r.hs.length ≤ 6
  cap : okP 4 r.cap = true
  pl : r.pub.length ≤ 3
  pub : ∀ x ∈ r.pub, okP 4 x = true ∧ frzP 4 x = x
theorem Row.Ok.okP_pub {r : Row} (o : r.Ok) : okP 5 (.tup r.pub) = true ∧ okP 5 (.lst r.pub) = true := by
  constructor <;>
  · simp only [okP, Bool.and_eq_true, decide_eq_true_eq, List.all_eq_true]
    exact ⟨by have := o.pl; omega, fun x hx => (o.pub x hx).1⟩
theorem Row.Ok.frz_pub {r : Row} (o : r.Ok) : frzP 5 (.tup r.pub) = .tup r.pub ∧ frzP 5 (.lst r.pub) = .tup r.pub := by
  have e : r.pub.map (frzP 4) = r.pub := by
    conv => rhs; rw [← List.map_id r.pub]
    exact List.map_congr_left fun x hx => (o.pub x hx).2
  exact ⟨congrArg P.tup e, congrArg P.tup e⟩
theorem okP_le : ∀ {n m : Nat} {x : P}, n ≤ m → okP n x = true → okP m x = true
  | 0, 0, _, _, q => q
  | 0, m + 1, .non, _, _ => rfl
  | 0, m + 1, .bl _, _, _ => rfl
  | 0, m + 1, .int _, _, _ => rfl
  | 0, m + 1, .str s, _, q => q
  | 0, m + 1, .tup _, _, q => by simp [okP] at q
  | 0, m + 1, .lst _, _, q => by simp [okP] at q
  | 0, m + 1, .ins _ _, _, q => by simp [okP] at q
  | 0, m + 1, .ty _, _, q => by simp [okP] at q
  | 0, m + 1, .cls _, _, q => by simp [okP] at q
  | n + 1, 0, _, h, _ => absurd h (Nat.not_succ_le_zero _)
  | n + 1, m + 1, .non, _, _ => rfl
  | n + 1, m + 1, .bl _, _, _ => rfl
  | n + 1, m + 1, .int _, _, _ => rfl
  | n + 1, m + 1, .str s, _, q => q
  | n + 1, m + 1, .tup xs, h, q => by
    simp only [okP, Bool.and_eq_true, decide_eq_true_eq, List.all_eq_true] at q ⊢
    exact ⟨q.1, fun x hx => okP_le (Nat.le_of_succ_le_succ h) (q.2 x hx)⟩
  | n + 1, m + 1, .lst xs, h, q => by
    simp only [okP, Bool.and_eq_true, decide_eq_true_eq, List.all_eq_true] at q ⊢
    exact ⟨q.1, fun x hx => okP_le (Nat.le_of_succ_le_succ h) (q.2 x hx)⟩
  | n + 1, m + 1, .ins _ _, _, q => by simp [okP] at q
  | n + 1, m + 1, .ty _, _, q => by simp [okP] at q
  | n + 1, m + 1, .cls _, _, q => by simp [okP] at q
-- the steps that are tried: k_clsL a side condition; k_subL one step; k_places steps as long as one fits
local macro_rules | `(tactic| k_clsL) => `(tactic| first | assumption | decide | omega)
local macro_rules | `(tactic| k_subL) => `(tactic| first
  | (with_reducible refine vs_seq ?_) | (with_reducible refine vs_asg ?_) | (with_reducible refine vg_name ?_) | (with_reducible refine vs_ret ?_) | (with_reducible refine vs_if ?_) | (with_reducible refine vs_next ?_) | (with_reducible refine vs_drop ?_)
  | (with_reducible refine vt_test ?_) | (with_reducible refine vt_B ?_) | (with_reducible refine vt_and ?_) | (with_reducible refine vt_or ?_) | (with_reducible refine vt_not ?_) | (with_reducible refine vt_truth ?_)
  | (with_reducible refine ve_op ?_) | (with_reducible refine ve_isi2 ?_) | ((with_reducible refine isi2_i (T := "tuple") ?hT ?hm ?hn ?_); (case hT => exact rfl); (case hm => decide); (case hn => decide)) | ((with_reducible refine isi2_i (T := "list") ?hT ?hm ?hn ?_); (case hT => exact rfl); (case hm => decide); (case hn => decide)) | ((with_reducible refine isi2_i (T := "int") ?hT ?hm ?hn ?_); (case hT => exact rfl); (case hm => decide); (case hn => decide)) | ((with_reducible refine isi2_i (T := "bool") ?hT ?hm ?hn ?_); (case hT => exact rfl); (case hm => decide); (case hn => decide)) | ((with_reducible refine isi2_i (T := "str") ?hT ?hm ?hn ?_); (case hT => exact rfl); (case hm => decide); (case hn => decide)) | ((with_reducible refine isi2_i (T := "NoneType") ?hT ?hm ?hn ?_); (case hT => exact rfl); (case hm => decide); (case hn => decide)) | (with_reducible refine ve_cb ?_) | (with_reducible refine va_cons ?_) | (with_reducible refine va_nil ?_) | (with_reducible refine ve_call ?_)
  | (with_reducible refine ve_int ?_) | (with_reducible refine ve_str ?_) | (with_reducible refine ve_bl ?_) | (with_reducible refine ve_non ?_) | (with_reducible refine ve_ty ?_)
  | (refine ve_var (by exact rfl) ?_)
  | (with_reducible refine ve_and ?_) | (with_reducible refine ve_or ?_) | (with_reducible refine ve_not ?_) | (with_reducible refine ve_chain ?_) | (with_reducible refine ve_un ?_) | (with_reducible refine ve_if ?_)
  | (with_reducible refine bool_ans ?_) | (with_reducible refine tru_bl ?_)
  | (with_reducible refine vc_intI ?_) | (with_reducible refine v2_addI ?_) | (with_reducible refine v2_sub ?_)
  | (with_reducible refine v2_lt ?_) | (with_reducible refine v2_le ?_) | (with_reducible refine v2_gt ?_) | (with_reducible refine v2_ge ?_)
  | (with_reducible refine v2_eqI ?_) | (with_reducible refine v2_eqS ?_) | (with_reducible refine v2_eqB ?_) | (with_reducible refine v2_neI ?_) | (with_reducible refine v2_neS ?_) | (with_reducible refine v2_neB ?_)
  | (with_reducible refine v2_isN ?_) | (with_reducible refine v2_notN ?_)
  | ((with_reducible refine v2_mod ?hm ?_); case hm => k_clsL) | ((with_reducible refine v2_div ?hm ?_); case hm => (constructor <;> k_clsL))
  | ((with_reducible refine v2_mul ?hm ?_); case hm => first | exact cmul_small (by k_clsL) (by k_clsL) | exact cmul_wide (by k_clsL) (by k_clsL))
  | (with_reducible refine vc_min2 ?_) | (with_reducible refine vc_max2 ?_)
  | (with_reducible refine ve_tup ?_) | ((with_reducible refine tup_j ?hl ?_); (case hl => exact rfl))
  | ((with_reducible refine vc_isi (T := "tuple") ?hT ?hn ?_); (case hT => first | exact rfl | exact ⟨rfl, _, by first | assumption | simp⟩); (case hn => decide)) | ((with_reducible refine vc_isi (T := "list") ?hT ?hn ?_); (case hT => first | exact rfl | exact ⟨rfl, _, by first | assumption | simp⟩); (case hn => decide)) | ((with_reducible refine vc_isi (T := "int") ?hT ?hn ?_); (case hT => first | exact rfl | exact ⟨rfl, _, by first | assumption | simp⟩); (case hn => decide)) | ((with_reducible refine vc_isi (T := "bool") ?hT ?hn ?_); (case hT => first | exact rfl | exact ⟨rfl, _, by first | assumption | simp⟩); (case hn => decide)) | ((with_reducible refine vc_isi (T := "str") ?hT ?hn ?_); (case hT => first | exact rfl | exact ⟨rfl, _, by first | assumption | simp⟩); (case hn => decide)) | ((with_reducible refine vc_isi (T := "NoneType") ?hT ?hn ?_); (case hT => first | exact rfl | exact ⟨rfl, _, by first | assumption | simp⟩); (case hn => decide))
  | (with_reducible refine vc_lenL ?_) | (with_reducible refine vc_lenT ?_) | (with_reducible refine ite_nrefl ?_) | (with_reducible refine ite_refl ?_)
  | ((with_reducible refine ite_tt ?hc ?_); (case hc => first | decide | exact rfl)) | ((with_reducible refine ite_ff ?hc ?_); (case hc => first | decide | exact rfl))
  | (with_reducible refine v1_U ?_))
local macro_rules | `(tactic| k_places) => `(tactic| repeat k_subL)

local macro_rules | `(tactic| k_subL) => `(tactic| first
  | (with_reducible refine ve_fld ?_) | (with_reducible refine ve_meth ?_) | ((with_reducible refine ⟨no_meth ?hm, ?_⟩); (case hm => decide +kernel))
  | ((with_reducible refine fld_i fl_author ?hc ?hn ?_); (case hc => assumption); (case hn => assumption)) | ((with_reducible refine fld_i fl_number ?hc ?hn ?_); (case hc => assumption); (case hn => assumption))
  | ((with_reducible refine fld_i fl_heard ?hc ?hn ?_); (case hc => assumption); (case hn => assumption)) | ((with_reducible refine fld_i fl_capability ?hc ?hn ?_); (case hc => assumption); (case hn => assumption))
  | ((with_reducible refine fld_i fl_publics ?hc ?hn ?_); (case hc => assumption); (case hn => assumption)) | ((with_reducible refine fld_i fl_parts ?hc ?hn ?_); (case hc => assumption); (case hn => assumption)))
local macro_rules | `(tactic| k_subL) => `(tactic| first
  | (refine v2_ixL (by exact rfl) ?_) | (refine v2_ixT (by exact rfl) ?_) | (refine vc_list (by exact rfl) ?_) | (refine vc_tuple (by exact rfl) ?_) | (with_reducible refine vc_sumL ?_) | (with_reducible refine vc_sumT ?_))

section
variable {Pg : Program} {w : World} {K : PySem.W.Frag} {mg : Str → Option Value} {base : Heap} {C : Addr}
abbrev st_change : Stmt := (topS 13)
theorem sc_change : FnScope ["row", "as_lists"] ["row", "as_lists"] (defScope st_change) := ⟨rfl, rfl, rfl, by decide +kernel, rfl, by decide +kernel, by decide +kernel⟩
def W_change (C : Addr) : Spc := fun ds h R => ∃ (r : Row) (b : Bool), ds = [.p r.p, dB b] ∧ r.Ok ∧ R (.p (r.c C)) h
theorem ok_change (A : DefAt K mg "_law_change" st_change ["row", "as_lists"]) (m_list : mg "list" = none) (m_tuple : mg "tuple" = none)
    (c_Change : HasMk Pg w K mg base CX0 8 "Change" C ["self", "author", "number", "heard", "capability", "publics", "parts"] (spD K (W_init C))) : HasF Pg w K mg base CX0 10 "_law_change" ["row", "as_lists"] (spD K (W_change C)) := by
  have sc := sc_change
  refine A.okD sc (W_change C) (fun ds h R ⟨_, _, e, _⟩ => by rw [e]; rfl) fun f cdv A outer s H E hr => ?_
  refine ⟨_, (pss_cons (ps_if (pt_truth (pv 1) (by intro _; rfl)) (pss_one (ps_ret (c_Change.make (hr.mono (by first | decide | omega)) rfl pass0 (pa_cons (pe_ix ix_seq (pv 0) pe_int (fun _ _ => rfl)) (pa_cons (pe_ix ix_seq (pv 0) pe_int (fun _ _ => rfl)) (pa_cons (pe_callTy call_list_of (by rfl) m_list (by decide +kernel) (pa_cons (pe_ix ix_seq (pv 0) pe_int (fun _ _ => rfl)) pa_nil)) (pa_cons (pe_ix ix_seq (pv 0) pe_int (fun _ _ => rfl)) (pa_cons (pe_callTy call_list_of (by rfl) m_list (by decide +kernel) (pa_cons (pe_ix ix_seq (pv 0) pe_int (fun _ _ => rfl)) pa_nil)) (pa_cons (pe_callTy call_list_of (by rfl) m_list (by decide +kernel) (pa_cons (pe_ix ix_seq (pv 0) pe_int (fun _ _ => rfl)) pa_nil)) pa_nil))))))))) pss_nil)
  (pss_one (ps_ret (c_Change.make (hr.mono (by first | decide | omega)) rfl pass0 (pa_cons (pe_ix ix_seq (pv 0) pe_int (fun _ _ => rfl)) (pa_cons (pe_ix ix_seq (pv 0) pe_int (fun _ _ => rfl)) (pa_cons (pe_callTy call_tuple_of (by rfl) m_tuple (by decide +kernel) (pa_cons (pe_ix ix_seq (pv 0) pe_int (fun _ _ => rfl)) pa_nil)) (pa_cons (pe_ix ix_seq (pv 0) pe_int (fun _ _ => rfl)) (pa_cons (pe_callTy call_tuple_of (by rfl) m_tuple (by decide +kernel) (pa_cons (pe_ix ix_seq (pv 0) pe_int (fun _ _ => rfl)) pa_nil)) (pa_cons (pe_callTy call_tuple_of (by rfl) m_tuple (by decide +kernel) (pa_cons (pe_ix ix_seq (pv 0) pe_int (fun _ _ => rfl)) pa_nil)) pa_nil)))))))))), ?_⟩
  dsimp only [cxOf]
  rintro ds h R ⟨r, b, rfl, ok, q⟩
  have hl := ok.hl
  have o1 := okP_ints 4 r.hs (by omega)
  have f1 := frz_ints 4 r.hs
  have o2 := ok.okP_pub
  have f2 := ok.frz_pub
  refine vs_fin ?_
  k_places
  refine ite_b (fun hb => ?_) (fun hb => ?_)
  · k_places
    refine ve_makeF ?_
    k_places
    refine ⟨_, r.a, r.n, .lst (r.hs.map P.int), r.cap, .lst r.pub, .lst partsL, rfl, by simp, o1.1, o2.2, rfl, rfl, chF r.a r.n (frzP 5 (.lst (r.hs.map P.int))) r.cap (frzP 5 (.lst r.pub)) (frzP 5 (.lst partsL)), by simp, fin_p0 ?_⟩
    rw [f1.1, f2.2]
    exact q
  · k_places
    refine ve_makeF ?_
    k_places
    refine ⟨_, r.a, r.n, .tup (r.hs.map P.int), r.cap, .tup r.pub, .tup partsL, rfl, by simp, o1.2, o2.1, rfl, rfl, chF r.a r.n (frzP 5 (.tup (r.hs.map P.int))) r.cap (frzP 5 (.tup r.pub)) (frzP 5 (.tup partsL)), by simp, fin_p0 ?_⟩
    rw [f1.2, f2.1]
    exact q
abbrev st_kept : Stmt := (topS 14)
theorem sc_kept : FnScope ["change", "row", "header", "other"] ["change", "row"] (defScope st_kept) := ⟨rfl, rfl, rfl, by decide +kernel, rfl, by decide +kernel, by decide +kernel⟩
def W_kept (C : Addr) : Spc := fun ds h R => ∃ r : Row, ds = [.p (r.c C), .p r.p] ∧ r.Ok ∧ R (dB true) h
theorem ok_kept (A : DefAt K mg "_law_is_kept" st_kept ["change", "row"]) (T : Chg K mg C) (m_sum : mg "sum" = none) (m_tuple : mg "tuple" = none)
    (h__law_same : HasF Pg w K mg base CX0 9 "_law_same" ["actual", "expected"] (spD K (W_same 7)))
    (h_order_key : HasF Pg w K mg base CX0 1 "order_key" ["change"] (spD K (W_key C)))
    (h_Change_name : HasM Pg w K mg base CX0 1 C "name" ["self"] (spD K (W_name C)))
    (h_Change_header : HasM Pg w K mg base CX0 1 C "header" ["self"] (spD K (W_header C)))
    (h_Change_with_parts : HasM Pg w K mg base CX0 10 C "with_parts" ["self", "parts"] (spD K (W_with C))) : HasF Pg w K mg base CX0 11 "_law_is_kept" ["change", "row"] (spD K (W_kept C)) := by
  have sc := sc_kept
  refine A.okD sc (W_kept C) (fun ds h R ⟨_, e, _⟩ => by rw [e]; rfl) fun f cdv A outer s H E hr => ?_
  refine ⟨_, (pss_cons (ps_set (i := 2) sc.nd rfl (.inl rfl) (pe_tup (pa_cons (pe_ix ix_seq (pv 1) pe_int (fun _ _ => rfl)) (pa_cons (pe_ix ix_seq (pv 1) pe_int (fun _ _ => rfl)) (pa_cons (pe_callTy call_tuple_of (by rfl) m_tuple (by decide +kernel) (pa_cons (pe_ix ix_seq (pv 1) pe_int (fun _ _ => rfl)) pa_nil)) (pa_cons (pe_ix ix_seq (pv 1) pe_int (fun _ _ => rfl)) (pa_cons (pe_callTy call_tuple_of (by rfl) m_tuple (by decide +kernel) (pa_cons (pe_ix ix_seq (pv 1) pe_int (fun _ _ => rfl)) pa_nil)) pa_nil)))))))
  (pss_cons (ps_if (PW.pt (pw_or (pt_not (pt_val (h__law_same.call (hr.mono (by first | decide | omega)) rfl pass0 (pa_cons (h_Change_header.meth0 (hr.mono (by first | decide | omega)) pass0 (pv 0)) (pa_cons (pv 2) pa_nil))))) (pw_or1 (pt_not (pt_val (h__law_same.call (hr.mono (by first | decide | omega)) rfl pass0 (pa_cons (h_Change_name.meth0 (hr.mono (by first | decide | omega)) pass0 (pv 0)) (pa_cons (pe_tup (pa_cons (pe_ix ix_seq (pv 1) pe_int (fun _ _ => rfl)) (pa_cons (pe_ix ix_seq (pv 1) pe_int (fun _ _ => rfl)) pa_nil))) pa_nil)))))))) (pss_one (ps_ret pe_bl)) pss_nil)
  (pss_cons (ps_if (PW.pt (pw_or (pt_not (pt_val (h__law_same.call (hr.mono (by first | decide | omega)) rfl pass0 (pa_cons (pe_fld (pv 0) rfl) (pa_cons (pe_ix ix_seq (pv 2) pe_int (fun _ _ => rfl)) pa_nil))))) (pw_or1 (pt_not (pt_val (h__law_same.call (hr.mono (by first | decide | omega)) rfl pass0 (pa_cons (pe_fld (pv 0) rfl) (pa_cons (pe_ix ix_seq (pv 2) pe_int (fun _ _ => rfl)) pa_nil)))))))) (pss_one (ps_ret pe_bl)) pss_nil)
  (pss_cons (ps_if (PW.pt (pw_or (pt_not (pt_val (h__law_same.call (hr.mono (by first | decide | omega)) rfl pass0 (pa_cons (pe_fld (pv 0) rfl) (pa_cons (pe_callTy call_tuple_of (by rfl) m_tuple (by decide +kernel) (pa_cons (pe_ix ix_seq (pv 1) pe_int (fun _ _ => rfl)) pa_nil)) pa_nil))))) (pw_or1 (pt_not (pt_val (h__law_same.call (hr.mono (by first | decide | omega)) rfl pass0 (pa_cons (pe_fld (pv 0) rfl) (pa_cons (pe_ix ix_seq (pv 1) pe_int (fun _ _ => rfl)) pa_nil)))))))) (pss_one (ps_ret pe_bl)) pss_nil)
  (pss_cons (ps_set (i := 3) sc.nd rfl (.inl rfl) (h_Change_with_parts.meth (hr.mono (by first | decide | omega)) pass0 (pv 0) (pa_cons (pe_lst (pa_cons (pe_tup pa_nil) (pa_cons pe_non (pa_cons pe_non (pa_cons (pe_tup (pa_cons (pe_tup (pa_cons pe_str (pa_cons pe_str pa_nil))) pa_nil)) pa_nil))))) pa_nil)))
  (pss_cons (ps_if (PW.pt (pw_or (pt_not (pt_val (h__law_same.call (hr.mono (by first | decide | omega)) rfl pass0 (pa_cons (h_Change_header.meth0 (hr.mono (by first | decide | omega)) pass0 (pv 3)) (pa_cons (pv 2) pa_nil))))) (pw_or1 (pt_not (pt_val (h__law_same.call (hr.mono (by first | decide | omega)) rfl pass0 (pa_cons (pe_fld (pv 3) rfl) (pa_cons (pe_tup (pa_cons (pe_tup pa_nil) (pa_cons pe_non (pa_cons pe_non (pa_cons (pe_tup (pa_cons (pe_tup (pa_cons pe_str (pa_cons pe_str pa_nil))) pa_nil)) pa_nil))))) pa_nil)))))))) (pss_one (ps_ret pe_bl)) pss_nil)
  (pss_cons (ps_if (PW.pt (pw_or (pt_not (pt_val (h__law_same.call (hr.mono (by first | decide | omega)) rfl pass0 (pa_cons (pe_fld (pv 0) rfl) (pa_cons (pe_callTy call_tuple_of (by rfl) m_tuple (by decide +kernel) (pa_cons (pe_ix ix_seq (pv 1) pe_int (fun _ _ => rfl)) pa_nil)) pa_nil))))) (pw_or1 (pt_not (pt_val (h__law_same.call (hr.mono (by first | decide | omega)) rfl pass0 (pa_cons (pe_fld (pv 0) rfl) (pa_cons (pe_ix ix_seq (pv 1) pe_int (fun _ _ => rfl)) pa_nil)))))))) (pss_one (ps_ret pe_bl)) pss_nil)
  (pss_one (ps_ret (pe_and (h__law_same.call (hr.mono (by first | decide | omega)) rfl pass0 (pa_cons (pe_fld (pv 0) rfl) (pa_cons (pe_ix ix_seq (pv 1) pe_int (fun _ _ => rfl)) pa_nil))) (pe_one (h__law_same.call (hr.mono (by first | decide | omega)) rfl pass0 (pa_cons (h_order_key.call (hr.mono (by first | decide | omega)) rfl pass0 (pa_cons (pv 0) pa_nil)) (pa_cons (pe_tup (pa_cons (pe_callB (cr_sumU rfl) (by rfl) m_sum (by decide +kernel) (pa_cons (pe_ix ix_seq (pv 1) pe_int (fun _ _ => rfl)) pa_nil)) (pa_cons (pe_ix ix_seq (pv 1) pe_int (fun _ _ => rfl)) (pa_cons (pe_ix ix_seq (pv 1) pe_int (fun _ _ => rfl)) pa_nil)))) pa_nil)))))))))))))), ?_⟩
  dsimp only [cxOf]
  rintro ds h R ⟨r, rfl, ok, q⟩
  obtain ⟨cl, n1, n2, n3, n4, n5, n6, mgC⟩ := T
  have hl := ok.hl
  have o1 := okP_ints 4 r.hs (by omega)
  have f1 := frz_ints 4 r.hs
  have o2 := ok.okP_pub
  have f2 := ok.frz_pub
  refine vs_fin ?_
  have k1 : okP 6 (.tup [.int r.a, .int r.n, .tup (r.hs.map P.int), r.cap, .tup r.pub]) = true := by
    have e1 : okP 5 (.tup (r.hs.map P.int)) = true := o1.2
    have e2 : okP 5 r.cap = true := okP_le (by decide) ok.cap
    show (decide (_ ≤ 100000) && List.all _ (okP 5)) = true
    simp only [List.all_cons, List.all_nil, e1, e2, o2.1]
    rfl
  have k3 : okP 6 (.tup (r.hs.map P.int)) = true := okP_le (n := 5) (by decide) o1.2
  have k4 : okP 6 (.tup r.pub) = true := okP_le (n := 5) (by decide) o2.1
  have k6 : okP 6 r.cap = true := okP_le (n := 4) (by decide) ok.cap
  k_places
  refine ⟨_, _, _, _, _, _, rfl, ?_⟩
  k_places
  refine ⟨_, rfl, k1, ?_⟩
  k_places
  refine ⟨_, _, _, _, _, _, rfl, ?_⟩
  k_places
  refine ⟨_, rfl, rfl, ?_⟩
  k_places
  refine ⟨_, rfl, k3, ?_⟩
  k_places
  refine ⟨_, rfl, k4, ?_⟩
  k_places
  refine ⟨_, rfl, rfl, ?_⟩
  k_places
  refine ⟨_, rfl, k6, ?_⟩
  k_places
  refine ve_lst ?_
  k_places
  refine ⟨_, _, _, _, _, _, _, rfl, o1.2, o2.1, rfl, ?_⟩
  k_places
  rw [f1.2, f2.1]
  k_places
  refine ⟨_, _, _, _, _, _, rfl, ?_⟩
  k_places
  refine ⟨_, rfl, k1, ?_⟩
  k_places
  refine ⟨.tup [.tup [], .non, .non, .tup [.tup [.str "table", .str "u"]]], rfl, rfl, ?_⟩
  k_places
  refine ⟨_, rfl, rfl, ?_⟩
  k_places
  refine ⟨_, rfl, rfl, ?_⟩
  k_places
  refine ⟨_, rfl, rfl, ?_⟩
  k_places
  refine ⟨_, _, _, _, _, _, rfl, ?_⟩
  k_places
  refine ⟨_, rfl, rfl, ?_⟩
  exact fin_p0 q
abbrev st_first : Stmt := (topS 15)
theorem sc_first : FnScope ["row", "other"] ["row", "other"] (defScope st_first) := ⟨rfl, rfl, rfl, by decide +kernel, rfl, by decide +kernel, by decide +kernel⟩
def Row.lt (r t : Row) : Prop := r.hs.sum < t.hs.sum ∨ (r.hs.sum = t.hs.sum ∧ (r.a < t.a ∨ (r.a = t.a ∧ r.n < t.n)))
def W_first : Spc := fun ds h R => ∃ r t : Row, ds = [.p r.p, .p t.p] ∧ r.lt t ∧ R (dB true) h
theorem ok_first (A : DefAt K mg "_law_comes_first" st_first ["row", "other"]) (m_sum : mg "sum" = none) : HasF Pg w K mg base CX0 1 "_law_comes_first" ["row", "other"] (spD K W_first) := by
  have sc := sc_first
  refine A.okD sc W_first (fun ds h R ⟨_, _, e, _⟩ => by rw [e]; rfl) fun f cdv A outer s H E hr => ?_
  refine ⟨_, (pss_cons (ps_if (pt_cmpR (op_neU hr.units) (pe_callB (cr_sumU rfl) (by rfl) m_sum (by decide +kernel) (pa_cons (pe_ix ix_seq (pv 0) pe_int (fun _ _ => rfl)) pa_nil)) (pe_callB (cr_sumU rfl) (by rfl) m_sum (by decide +kernel) (pa_cons (pe_ix ix_seq (pv 1) pe_int (fun _ _ => rfl)) pa_nil)) (nomark _)) (pss_one (ps_ret (pe_cmpR op_lt (pe_callB (cr_sumU rfl) (by rfl) m_sum (by decide +kernel) (pa_cons (pe_ix ix_seq (pv 0) pe_int (fun _ _ => rfl)) pa_nil)) (pe_callB (cr_sumU rfl) (by rfl) m_sum (by decide +kernel) (pa_cons (pe_ix ix_seq (pv 1) pe_int (fun _ _ => rfl)) pa_nil)) (nomark _)))) pss_nil)
  (pss_cons (ps_if (pt_cmpR (op_neU hr.units) (pe_ix ix_seq (pv 0) pe_int (fun _ _ => rfl)) (pe_ix ix_seq (pv 1) pe_int (fun _ _ => rfl)) (nomark _)) (pss_one (ps_ret (pe_cmpR op_lt (pe_ix ix_seq (pv 0) pe_int (fun _ _ => rfl)) (pe_ix ix_seq (pv 1) pe_int (fun _ _ => rfl)) (nomark _)))) pss_nil)
  (pss_one (ps_ret (pe_cmpR op_lt (pe_ix ix_seq (pv 0) pe_int (fun _ _ => rfl)) (pe_ix ix_seq (pv 1) pe_int (fun _ _ => rfl)) (nomark _)))))), ?_⟩
  dsimp only [cxOf]
  rintro ds h R ⟨r, t, rfl, lt, q⟩
  refine vs_fin ?_
  k_places
  refine ite_ndec (fun h1 => ?_) (fun h1 => ?_)
  · k_places
    rw [decide_eq_true (show r.hs.sum < t.hs.sum by rcases lt with h | ⟨h, _⟩ <;> omega)]
    exact fin_p0 q
  · k_places
    refine ite_ndec (fun h2 => ?_) (fun h2 => ?_)
    · k_places
      rw [decide_eq_true (show r.a < t.a by rcases lt with h | ⟨h, h | ⟨h, _⟩⟩ <;> omega)]
      exact fin_p0 q
    · k_places
      rw [decide_eq_true (show r.n < t.n by rcases lt with h | ⟨h, h | ⟨h, _⟩⟩ <;> omega)]
      exact fin_p0 q
abbrev st_ispast : Stmt := (topS 16)
theorem sc_ispast : FnScope ["name", "row"] ["name", "row"] (defScope st_ispast) := ⟨rfl, rfl, rfl, by decide +kernel, rfl, by decide +kernel, by decide +kernel⟩
def W_ispast : Spc := fun ds h R => ∃ (x y : Int) (r : Row), ds = [dT [.int x, .int y], .p r.p] ∧ R (dB (isPast x y r.hs)) h
theorem ok_ispast (A : DefAt K mg "_law_is_past" st_ispast ["name", "row"]) (m_len : mg "len" = none) : HasF Pg w K mg base CX0 1 "_law_is_past" ["name", "row"] (spD K W_ispast) := by
  have sc := sc_ispast
  refine A.okD sc W_ispast (fun ds h R ⟨_, _, _, e, _⟩ => by rw [e]; rfl) fun f cdv A outer s H E hr => ?_
  refine ⟨_, (pss_one (ps_ret (pe_and (pe_cmpR op_le pe_int (pe_ix ix_seq (pv 0) pe_int (fun _ _ => rfl)) (nomark _)) (pe_and (pe_cmpR op_lt (pe_ix ix_seq (pv 0) pe_int (fun _ _ => rfl)) (pe_callB call_len (by rfl) m_len (by decide +kernel) (pa_cons (pe_ix ix_seq (pv 1) pe_int (fun _ _ => rfl)) pa_nil)) (nomark _)) (pe_and (pe_cmpR op_le pe_int (pe_ix ix_seq (pv 0) pe_int (fun _ _ => rfl)) (nomark _)) (pe_one (pe_cmpR op_le (pe_ix ix_seq (pv 0) pe_int (fun _ _ => rfl)) (pe_ix ix_seq (pe_ix ix_seq (pv 1) pe_int (fun _ _ => rfl)) (pe_ix ix_seq (pv 0) pe_int (fun _ _ => rfl)) (fun _ _ => rfl)) (nomark _)))))))), ?_⟩
  dsimp only [cxOf]
  rintro ds h R ⟨x, y, r, rfl, q⟩
  have e0 : isPast x y r.hs = (decide (0 ≤ x) && decide (x < r.hs.length) && decide (1 ≤ y) && decide (y ≤ r.hs.getD x.toNat 0)) := rfl
  rw [e0] at q
  refine vs_fin ?_
  k_places
  refine ite_dec (fun h0 => ?_) (fun h0 => ?_)
  · k_places
    rw [List.length_map]
    refine ite_dec (fun h1 => ?_) (fun h1 => ?_)
    · k_places
      refine ite_dec (fun h2 => ?_) (fun h2 => ?_)
      · k_places
        refine v2_ixL (at_nat x.toNat (by omega) (get_ints (by omega))) ?_
        k_places
        rw [decide_eq_true h0, decide_eq_true h1, decide_eq_true h2] at q
        exact fin_p0 q
      · k_places
        rw [decide_eq_false h2, Bool.and_false, Bool.false_and] at q
        exact fin_p0 q
    · k_places
      rw [decide_eq_false h1, Bool.and_false, Bool.false_and, Bool.false_and] at q
      exact fin_p0 q
  · k_places
    rw [decide_eq_false h0, Bool.false_and, Bool.false_and, Bool.false_and] at q
    exact fin_p0 q
end
end Law

namespace Law
open PySem PySem.Spec PyProof.Rows L2 Kb
section
variable {h : Hs} {a b x : Option OO}
theorem g2a : (h ++ [a, b])[h.length]? = some a := by simp
theorem g2b : (h ++ [a, b])[h.length + 1]? = some b := by simp
theorem s2a : (h ++ [a, b]).set h.length x = h ++ [x, b] := by simp
theorem s2b : (h ++ [a, b]).set (h.length + 1) x = h ++ [a, x] := by simp
end
theorem cut_mem {α : Type} {xs : List α} {lo hi : Option Int} {x : α} (hx : x ∈ cutP xs lo hi) : x ∈ xs := List.mem_of_mem_drop (List.mem_of_mem_take hx)
/-- rows as the law makes them -/
structure RowsOk (rs : List Row) : Prop where
  ok : ∀ r ∈ rs, r.Ok
  ne : rs.Pairwise fun r t => ¬ (r.a = t.a ∧ r.n = t.n)
  len : rs.length ≤ 60
structure NumOk (rs : List Row) (nums : List Int) : Prop where
  len : nums.length = 6
  le : ∀ r ∈ rs, 0 ≤ r.a ∧ r.a < 6 ∧ r.n ≤ nums.getD r.a.toNat 0
theorem NumOk.snoc {rs : List Row} {nums : List Int} (o : NumOk rs nums) (ok : RowsOk rs) {r : Row} (hr : r.Ok) (h0 : 0 ≤ r.a) (h1 : r.a < 6) (hn : nums.getD r.a.toNat 0 < r.n) (hl : rs.length < 60) :
    NumOk (rs ++ [r]) (nums.set r.a.toNat r.n) ∧ RowsOk (rs ++ [r]) := by
  have gs : ∀ i : Nat, i < 6 → (nums.set r.a.toNat r.n).getD i 0 = if r.a.toNat = i then r.n else nums.getD i 0 := fun i hi => by
    have hl6 := o.len
    simp only [List.getD_eq_getElem?_getD, List.getElem?_set]
    by_cases e : r.a.toNat = i
    · rw [if_pos e, if_pos e, if_pos (by omega)]; rfl
    · rw [if_neg e, if_neg e]
  refine ⟨⟨by rw [List.length_set]; exact o.len, fun t ht => ?_⟩, ⟨fun t ht => ?_, ?_, by rw [List.length_append]; simp only [List.length_cons, List.length_nil]; omega⟩⟩
  · rcases List.mem_append.mp ht with ht | ht
    · obtain ⟨a, b, c⟩ := o.le t ht
      refine ⟨a, b, ?_⟩
      rw [gs _ (by omega)]
      split
      · rename_i e
        have e2 : r.a = t.a := by omega
        rw [e2] at hn
        omega
      · exact c
    · rw [List.mem_singleton.mp ht]
      refine ⟨h0, h1, ?_⟩
      rw [gs _ (by omega), if_pos rfl]
      exact Int.le_refl _
  · rcases List.mem_append.mp ht with ht | ht
    · exact ok.ok t ht
    · rw [List.mem_singleton.mp ht]; exact hr
  · refine List.pairwise_append.mpr ⟨ok.ne, List.pairwise_singleton _ _, fun t ht u hu => ?_⟩
    rw [List.mem_singleton.mp hu]
    rintro ⟨e1, e2⟩
    obtain ⟨a, b, c⟩ := o.le t ht
    rw [e1] at c
    omega
-- the steps that are tried: k_clsL a side condition; k_subL one step; k_places steps as long as one fits
local macro_rules | `(tactic| k_clsL) => `(tactic| first | assumption | decide | omega)
local macro_rules | `(tactic| k_subL) => `(tactic| first
  | (with_reducible refine vs_seq ?_) | (with_reducible refine vs_asg ?_) | (with_reducible refine vg_name ?_) | (with_reducible refine vs_ret ?_) | (with_reducible refine vs_if ?_) | (with_reducible refine vs_next ?_) | (with_reducible refine vs_drop ?_)
  | (with_reducible refine vt_test ?_) | (with_reducible refine vt_B ?_) | (with_reducible refine vt_and ?_) | (with_reducible refine vt_or ?_) | (with_reducible refine vt_not ?_) | (with_reducible refine vt_truth ?_)
  | (with_reducible refine ve_op ?_) | (with_reducible refine ve_isi2 ?_) | ((with_reducible refine isi2_i (T := "tuple") ?hT ?hm ?hn ?_); (case hT => exact rfl); (case hm => decide); (case hn => decide)) | ((with_reducible refine isi2_i (T := "list") ?hT ?hm ?hn ?_); (case hT => exact rfl); (case hm => decide); (case hn => decide)) | ((with_reducible refine isi2_i (T := "int") ?hT ?hm ?hn ?_); (case hT => exact rfl); (case hm => decide); (case hn => decide)) | ((with_reducible refine isi2_i (T := "bool") ?hT ?hm ?hn ?_); (case hT => exact rfl); (case hm => decide); (case hn => decide)) | ((with_reducible refine isi2_i (T := "str") ?hT ?hm ?hn ?_); (case hT => exact rfl); (case hm => decide); (case hn => decide)) | ((with_reducible refine isi2_i (T := "NoneType") ?hT ?hm ?hn ?_); (case hT => exact rfl); (case hm => decide); (case hn => decide)) | (with_reducible refine ve_cb ?_) | (with_reducible refine va_cons ?_) | (with_reducible refine va_nil ?_) | (with_reducible refine ve_call ?_)
  | (with_reducible refine ve_int ?_) | (with_reducible refine ve_str ?_) | (with_reducible refine ve_bl ?_) | (with_reducible refine ve_non ?_) | (with_reducible refine ve_ty ?_)
  | (refine ve_var (by exact rfl) ?_)
  | (with_reducible refine ve_and ?_) | (with_reducible refine ve_or ?_) | (with_reducible refine ve_not ?_) | (with_reducible refine ve_chain ?_) | (with_reducible refine ve_un ?_) | (with_reducible refine ve_if ?_)
  | (with_reducible refine bool_ans ?_) | (with_reducible refine tru_bl ?_)
  | (with_reducible refine vc_intI ?_) | (with_reducible refine v2_addI ?_) | (with_reducible refine v2_sub ?_)
  | (with_reducible refine v2_lt ?_) | (with_reducible refine v2_le ?_) | (with_reducible refine v2_gt ?_) | (with_reducible refine v2_ge ?_)
  | (with_reducible refine v2_eqI ?_) | (with_reducible refine v2_eqS ?_) | (with_reducible refine v2_eqB ?_) | (with_reducible refine v2_neI ?_) | (with_reducible refine v2_neS ?_) | (with_reducible refine v2_neB ?_)
  | (with_reducible refine v2_isN ?_) | (with_reducible refine v2_notN ?_)
  | ((with_reducible refine v2_mod ?hm ?_); case hm => k_clsL) | ((with_reducible refine v2_div ?hm ?_); case hm => (constructor <;> k_clsL))
  | ((with_reducible refine v2_mul ?hm ?_); case hm => first | exact cmul_small (by k_clsL) (by k_clsL) | exact cmul_wide (by k_clsL) (by k_clsL))
  | (with_reducible refine vc_min2 ?_) | (with_reducible refine vc_max2 ?_)
  | (with_reducible refine ve_tup ?_) | ((with_reducible refine tup_j ?hl ?_); (case hl => exact rfl))
  | ((with_reducible refine vc_isi (T := "tuple") ?hT ?hn ?_); (case hT => first | exact rfl | exact ⟨rfl, _, by first | assumption | simp⟩); (case hn => decide)) | ((with_reducible refine vc_isi (T := "list") ?hT ?hn ?_); (case hT => first | exact rfl | exact ⟨rfl, _, by first | assumption | simp⟩); (case hn => decide)) | ((with_reducible refine vc_isi (T := "int") ?hT ?hn ?_); (case hT => first | exact rfl | exact ⟨rfl, _, by first | assumption | simp⟩); (case hn => decide)) | ((with_reducible refine vc_isi (T := "bool") ?hT ?hn ?_); (case hT => first | exact rfl | exact ⟨rfl, _, by first | assumption | simp⟩); (case hn => decide)) | ((with_reducible refine vc_isi (T := "str") ?hT ?hn ?_); (case hT => first | exact rfl | exact ⟨rfl, _, by first | assumption | simp⟩); (case hn => decide)) | ((with_reducible refine vc_isi (T := "NoneType") ?hT ?hn ?_); (case hT => first | exact rfl | exact ⟨rfl, _, by first | assumption | simp⟩); (case hn => decide))
  | (with_reducible refine vc_lenL ?_) | (with_reducible refine vc_lenT ?_) | (with_reducible refine ite_nrefl ?_) | (with_reducible refine ite_refl ?_)
  | ((with_reducible refine ite_tt ?hc ?_); (case hc => first | decide | exact rfl)) | ((with_reducible refine ite_ff ?hc ?_); (case hc => first | decide | exact rfl))
  | (with_reducible refine v1_U ?_))
local macro_rules | `(tactic| k_places) => `(tactic| repeat k_subL)

local macro_rules | `(tactic| k_subL) => `(tactic| first
  | (with_reducible refine ve_fld ?_) | (with_reducible refine ve_meth ?_) | ((with_reducible refine ⟨no_meth ?hm, ?_⟩); (case hm => decide +kernel))
  | ((with_reducible refine fld_i fl_author ?hc ?hn ?_); (case hc => assumption); (case hn => assumption)) | ((with_reducible refine fld_i fl_number ?hc ?hn ?_); (case hc => assumption); (case hn => assumption))
  | ((with_reducible refine fld_i fl_heard ?hc ?hn ?_); (case hc => assumption); (case hn => assumption)) | ((with_reducible refine fld_i fl_capability ?hc ?hn ?_); (case hc => assumption); (case hn => assumption))
  | ((with_reducible refine fld_i fl_publics ?hc ?hn ?_); (case hc => assumption); (case hn => assumption)) | ((with_reducible refine fld_i fl_parts ?hc ?hn ?_); (case hc => assumption); (case hn => assumption)))
local macro_rules | `(tactic| k_subL) => `(tactic| first
  | (refine v2_ixL (by exact rfl) ?_) | (refine v2_ixT (by exact rfl) ?_) | (refine vc_list (by exact rfl) ?_) | (refine vc_tuple (by exact rfl) ?_) | (with_reducible refine vc_sumL ?_) | (with_reducible refine vc_sumT ?_))

local macro_rules | `(tactic| k_clsL) => `(tactic| first | assumption | decide | omega)
section
variable {Pg : Program} {w : World} {K : PySem.W.Frag} {mg : Str → Option Value} {base : Heap} {C : Addr}
abbrev st_rows : Stmt := (topS 12)
theorem sc_rows : FnScope ["draws", "count", "size", "limit", "rows", "numbers", "k", "author", "heard", "capability", "publics", "j"] ["draws"] (defScope st_rows) := ⟨rfl, rfl, rfl, by decide +kernel, rfl, by decide +kernel, by decide +kernel⟩
def W_rows : Spc := fun ds h R => ∃ ms : List Int, ds = [dL (ms.map P.int)] ∧ Good ms ∧ ms.length ≤ 3780 ∧ ∀ rs, RowsOk rs → R (dL (rs.map Row.p)) h
theorem ok_rows (A : DefAt K mg "_law_rows" st_rows ["draws"]) (m_range : mg "range" = none) (h__law_at : HasF Pg w K mg base CX0 2 "_law_at" ["draws", "index"] (spD K W_at)) : HasF Pg w K mg base CX0 3 "_law_rows" ["draws"] (spD K W_rows) := by
  have sc := sc_rows
  refine A.okD sc W_rows (fun ds h R ⟨_, e, _⟩ => by rw [e]; rfl) fun f cdv A outer s H E hr => ?_
  refine ⟨_, (pss_cons (ps_set (i := 1) sc.nd rfl (.inl rfl) (pe_op op_mod (h__law_at.call (hr.mono (by first | decide | omega)) rfl pass0 (pa_cons (pv 0) (pa_cons pe_int pa_nil))) pe_int))
  (pss_cons (ps_if (pt_cmpR (op_eqUK (K := K) (by rfl) hr.units) (pe_op op_mod (h__law_at.call (hr.mono (by first | decide | omega)) rfl pass0 (pa_cons (pv 0) (pa_cons pe_int pa_nil))) pe_int) pe_int (nomark _)) (pss_one (ps_set (i := 1) sc.nd rfl (.inl rfl) pe_int)) pss_nil)
  (pss_cons (ps_set (i := 2) sc.nd rfl (.inl rfl) (pe_op (op_addUK (K := K) (by rfl)) pe_int (pe_op op_mod (h__law_at.call (hr.mono (by first | decide | omega)) rfl pass0 (pa_cons (pv 0) (pa_cons pe_int pa_nil))) pe_int)))
  (pss_cons (ps_set (i := 3) sc.nd rfl (.inr rfl) (pe_ix (ix_seqK (K := K) (by rfl)) (pe_lst (pa_cons pe_int (pa_cons pe_int (pa_cons pe_int pa_nil)))) (pe_op op_mod (h__law_at.call (hr.mono (by first | decide | omega)) rfl pass0 (pa_cons (pv 0) (pa_cons pe_int pa_nil))) pe_int) (fun _ _ => rfl)))
  (pss_cons (ps_set (i := 4) sc.nd rfl (.inl rfl) (pe_lst pa_nil))
  (pss_cons (ps_set (i := 5) sc.nd rfl (.inl rfl) (pe_lst (pa_cons pe_int (pa_cons pe_int (pa_cons pe_int (pa_cons pe_int (pa_cons pe_int (pa_cons pe_int pa_nil))))))))
  (pss_cons (ps_for PassesOwn.never rfl (pi_range1 rfl m_range (pa_cons (pv 1) pa_nil)) (pg_name (i := 6) sc.nd rfl (.inr rfl))
  (pss_cons (ps_set (i := 7) sc.nd rfl (.inl rfl) (pe_op op_mod (h__law_at.call (hr.mono (by first | decide | omega)) rfl pass0 (pa_cons (pv 0) (pa_cons (pe_op (op_addUK (K := K) (by rfl)) pe_int (pe_op op_mulX pe_int (pv 6))) pa_nil))) (pv 2)))
  (pss_cons (ps_asg (pe_op (op_addUK (K := K) (by rfl)) (pe_op (op_addUK (K := K) (by rfl)) (pe_ix (ix_seqK (K := K) (by rfl)) (pv 5) (pv 7) (fun _ _ => rfl)) pe_int) (pe_op op_fdiv (h__law_at.call (hr.mono (by first | decide | omega)) rfl pass0 (pa_cons (pv 0) (pa_cons (pe_op (op_addUK (K := K) (by rfl)) pe_int (pe_op op_mulX pe_int (pv 6))) pa_nil))) pe_int)) (pg_sub (pv 5) (pv 7) set_list))
  (pss_cons (ps_setLc (i := 8) (own := [("j", 11)]) rfl sc.nd rfl rfl (sw_true rfl rfl rfl (by decide +kernel)) (pi_range1 rfl m_range (pa_cons (pv 2) pa_nil)) (blkOk_by (N := ["draws", "count", "size", "limit", "rows", "numbers", "k", "author", "heard", "capability", "publics", "j"]) (sc := defScope (topS 12)) (by decide +kernel)) (fun _ _ _ _ _ => (pg_name (i := 11) sc.nd rfl (.inl rfl))) (fun _ _ _ _ _ => pts_nil) (fun _ _ _ _ _ => (pe_op op_mod (h__law_at.call (hr.mono (by first | decide | omega)) rfl pass0 (pa_cons (pv 0) (pa_cons (pe_op (op_addUK (K := K) (by rfl)) (pe_op (op_addUK (K := K) (by rfl)) pe_int (pe_op op_mulX pe_int (pv 6))) (pv 11)) pa_nil))) (pv 3))))
  (pss_cons (ps_set (i := 9) sc.nd rfl (.inl rfl) (pe_ix (ix_seqK (K := K) (by rfl)) (pe_lst (pa_cons pe_non (pa_cons (pe_tup (pa_cons pe_int (pa_cons (pe_op (op_addUK (K := K) (by rfl)) pe_int (pe_op op_mod (h__law_at.call (hr.mono (by first | decide | omega)) rfl pass0 (pa_cons (pv 0) (pa_cons (pe_op (op_addUK (K := K) (by rfl)) pe_int (pe_op op_mulX pe_int (pv 6))) pa_nil))) pe_int)) (pa_cons pe_int pa_nil)))) pa_nil))) (pe_op op_mod (pe_op op_fdiv (h__law_at.call (hr.mono (by first | decide | omega)) rfl pass0 (pa_cons (pv 0) (pa_cons (pe_op (op_addUK (K := K) (by rfl)) pe_int (pe_op op_mulX pe_int (pv 6))) pa_nil))) pe_int) pe_int) (fun _ _ => rfl)))
  (pss_cons (ps_set (i := 10) sc.nd rfl (.inl rfl) (pe_slice (sl_listK (K := K) (by rfl)) (pe_lst (pa_cons (pe_tup (pa_cons pe_str pa_nil)) (pa_cons (pe_tup (pa_cons pe_str (pa_cons (pe_tup (pa_cons pe_int (pa_cons pe_int (pa_cons (pv 6) pa_nil)))) pa_nil))) (pa_cons (pe_tup (pa_cons pe_str (pa_cons pe_non pa_nil))) pa_nil)))) po_none (po_some (pe_op op_mod (pe_op op_fdiv (h__law_at.call (hr.mono (by first | decide | omega)) rfl pass0 (pa_cons (pv 0) (pa_cons (pe_op (op_addUK (K := K) (by rfl)) pe_int (pe_op op_mulX pe_int (pv 6))) pa_nil))) pe_int) pe_int))))
  (pss_one (ps_expr (pe_bm PySem.F.plainAttrs_list PySem.F.slot_list_append PySem.F.type_list_append mt_append (pv 4) (pa_cons (pe_lst (pa_cons (pv 7) (pa_cons (pe_ix (ix_seqK (K := K) (by rfl)) (pv 5) (pv 7) (fun _ _ => rfl)) (pa_cons (pv 8) (pa_cons (pv 9) (pa_cons (pv 10) (pa_cons (pe_lst (pa_cons pe_non (pa_cons (pe_tup pa_nil) (pa_cons (pe_tup (pa_cons (pe_tup (pa_cons pe_str (pa_cons pe_str pa_nil))) pa_nil)) (pa_cons (pe_tup pa_nil) pa_nil))))) pa_nil))))))) pa_nil))))))))))
  (pss_one (ps_ret (pv 4)))))))))), ?_⟩
  dsimp only [cxOf]
  rintro ds h R ⟨ms, rfl, hg, hl, q⟩
  have v0 : ∀ i : Int, 0 ≤ i → 0 ≤ lawAt ms i ∧ lawAt ms i < 9973 := fun i hi => lawAt_lo hg i hi
  refine vs_fin ?_
  refine vs_cut (fun env' h' => ∃ c : Int, (0 ≤ c ∧ c ≤ 60) ∧ env' = [some (dL (ms.map P.int)), some (dI c), none, none, none, none, none, none, none, none, none, none] ∧ h = h') ?_ ?_
  · k_places
    refine ⟨ms, 0, rfl, hg, hl, by decide, by decide, ?_⟩
    k_places
    exact ⟨_, ⟨by have := v0 0 (by decide); omega, by omega⟩, rfl, rfl⟩
  rintro _ _ ⟨c0, hc0, rfl, rfl⟩
  refine vs_cut (fun env' h' => ∃ c : Int, (0 ≤ c ∧ c ≤ 60) ∧ env' = [some (dL (ms.map P.int)), some (dI c), none, none, none, none, none, none, none, none, none, none] ∧ h = h') ?_ ?_
  · k_places
    refine ⟨ms, 1, rfl, hg, hl, by decide, by decide, ?_⟩
    k_places
    refine ite_dec (fun _ => ?_) (fun _ => ?_)
    · k_places
      exact ⟨60, by decide, rfl, rfl⟩
    · k_places
      exact ⟨c0, hc0, rfl, rfl⟩
  rintro _ _ ⟨c, hc, rfl, rfl⟩
  k_places
  refine ⟨ms, 2, rfl, hg, hl, by decide, by decide, ?_⟩
  k_places
  have hsz : 1 ≤ 1 + lawAt ms 2 % 6 ∧ 1 + lawAt ms 2 % 6 ≤ 6 := by omega
  generalize 1 + lawAt ms 2 % 6 = size at hsz
  refine ve_lst ?_
  k_places
  refine ⟨ms, 3, rfl, hg, hl, by decide, by decide, ?_⟩
  k_places
  obtain ⟨lim, hlim, hlp⟩ : ∃ l : Int, atI [P.int 4, .int 2, .int 9973] (lawAt ms 3 % 3) = some (.int l) ∧ 0 < l := by
    have h3 : lawAt ms 3 % 3 = 0 ∨ lawAt ms 3 % 3 = 1 ∨ lawAt ms 3 % 3 = 2 := by omega
    rcases h3 with e | e | e <;> rw [e]
    · exact ⟨4, rfl, by decide⟩
    · exact ⟨2, rfl, by decide⟩
    · exact ⟨9973, rfl, by decide⟩
  refine v2_ixL hlim ?_
  k_places
  refine ve_lstO ?_
  k_places
  refine ⟨by decide, ?_⟩
  k_places
  refine ve_lstO ?_
  k_places
  refine ⟨by decide, ?_⟩
  k_places
  refine vs_for (vi_range1 ?_)
  k_places
  refine ⟨c, rfl, by omega, by omega, ?_⟩
  refine ⟨fun i env' h' => ∃ (rs : List Row) (nums : List Int) (o6 o7 o8 o9 o10 o11 : Option D), env' = [some (dL (ms.map P.int)), some (dI c), some (dI size), some (dI lim), some (.own h.length), some (.own (h.length + 1)), o6, o7, o8, o9, o10, o11] ∧
    h ++ [some (.lst (rs.map fun r => D.p r.p)), some (.lst (nums.map dI))] = h' ∧ NumOk rs nums ∧ RowsOk rs ∧ rs.length = i, ?_, fun _ _ _ _ => trivial, ?_, ?_⟩
  · exact ⟨[], [0, 0, 0, 0, 0, 0], _, _, _, _, _, _, by simp; exact ⟨rfl, rfl, rfl, rfl, rfl, rfl⟩, by simp, ⟨rfl, fun r hr => by simp at hr⟩, ⟨fun r hr => by simp at hr, .nil, by simp⟩, rfl⟩
  · rintro i d env' h' hd ⟨rs, nums, o6, o7, o8, o9, o10, o11, rfl, rfl, hnum, hrows, hlen⟩
    obtain ⟨hi, rfl⟩ := rng_get hd
    have hi2 : i < 60 := by omega
    k_places
    refine ⟨ms, _, rfl, hg, hl, by omega, by omega, ?_⟩
    k_places
    have ha0 : 0 ≤ lawAt ms (10 + 9 * (0 + (i : Int))) % size := Int.emod_nonneg _ (by omega)
    have ha1 : lawAt ms (10 + 9 * (0 + (i : Int))) % size < size := Int.emod_lt_of_pos _ (by omega)
    generalize lawAt ms (10 + 9 * (0 + (i : Int))) % size = a at ha0 ha1
    have hnl := hnum.len
    have hal : a.toNat < nums.length := by omega
    have hget : (nums.map dI)[a.toNat]? = some (dI (nums.getD a.toNat 0)) := by
      rw [List.getElem?_map, List.getD_eq_getElem?_getD, List.getElem?_eq_getElem hal]; rfl
    refine v2_ixO g2b (at_nat a.toNat (by omega) hget) ?_
    k_places
    refine ⟨ms, _, rfl, hg, hl, by omega, by omega, ?_⟩
    k_places
    have w11 := v0 (11 + 9 * (0 + (i : Int))) (by omega)
    obtain ⟨n, hn⟩ : ∃ n, n = nums.getD a.toNat 0 + 1 + lawAt ms (11 + 9 * (0 + (i : Int))) / 997 := ⟨_, rfl⟩
    rw [← hn]
    have hnn : nums.getD a.toNat 0 < n := by omega
    clear hn
    refine vg_sub ?_
    k_places
    refine ⟨h.length + 1, a, nums.map dI, a.toNat, rfl, rfl, g2b, ?_, ?_⟩
    · rw [List.length_map]
      unfold ixN
      rw [if_pos ha0, if_pos (by omega)]
    rw [s2b, show (nums.map dI).set a.toNat (dI n) = (nums.set a.toNat n).map dI from by rw [List.map_set]]
    k_places
    refine ve_lcMap tg_name ?_
    refine vi_range1 ?_
    k_places
    refine ⟨size, rfl, by omega, by omega, ?_⟩
    refine ⟨((List.range size.toNat).map fun (j : Nat) => lawAt ms (12 + 9 * (0 + (i : Int)) + (0 + (j : Int))) % lim).map P.int, by simp [rng_len], by rw [rng_len]; have e := sizeLine_eq; omega, fun _ => trivial, ?_, ?_⟩
    · intro j d y acc hd hy
      obtain ⟨hj, rfl⟩ := rng_get hd
      rw [List.getElem?_map, List.getElem?_map, List.getElem?_range hj] at hy
      cases hy
      refine vg_name ⟨rfl, ?_⟩
      k_places
      refine ⟨ms, _, rfl, hg, hl, by omega, by omega, ?_⟩
      k_places
      exact ⟨rfl, rfl⟩
    obtain ⟨hs, hhs⟩ : ∃ hs, hs = (List.range size.toNat).map fun (j : Nat) => lawAt ms (12 + 9 * (0 + (i : Int)) + (0 + (j : Int))) % lim := ⟨_, rfl⟩
    have hsl : hs.length ≤ 6 := by rw [hhs, List.length_map, List.length_range]; omega
    rw [← hhs]
    clear hhs
    k_places
    refine ve_lst ?_
    k_places
    refine ⟨ms, _, rfl, hg, hl, by omega, by omega, ?_⟩
    k_places
    refine ⟨ms, _, rfl, hg, hl, by omega, by omega, ?_⟩
    k_places
    obtain ⟨cap, hcap, okc⟩ : ∃ cp, atI [P.non, .tup [.int 0, .int (1 + lawAt ms (18 + 9 * (0 + (i : Int))) % 5), .int 0]] (lawAt ms (18 + 9 * (0 + (i : Int))) / 5 % 2) = some cp ∧ okP 4 cp = true := by
      have h3 : lawAt ms (18 + 9 * (0 + (i : Int))) / 5 % 2 = 0 ∨ lawAt ms (18 + 9 * (0 + (i : Int))) / 5 % 2 = 1 := by omega
      rcases h3 with e | e <;> rw [e]
      · exact ⟨_, rfl, rfl⟩
      · exact ⟨_, rfl, rfl⟩
    refine v2_ixL hcap ?_
    k_places
    refine ve_slL ?_
    refine ve_lst ?_
    k_places
    refine vo_none ?_
    refine vo_some ?_
    k_places
    refine ⟨ms, _, rfl, hg, hl, by omega, by omega, ?_⟩
    k_places
    refine ⟨_, rfl, _, rfl, ?_⟩
    obtain ⟨pub, hpub⟩ : ∃ pb, pb = cutP [P.tup [.str "seal"], .tup [.str "revoke", .tup [.int 0, .int 1, .int (0 + (i : Int))]], .tup [.str "revoke", .non]] none (some (lawAt ms (18 + 9 * (0 + (i : Int))) / 10 % 4)) := ⟨_, rfl⟩
    have hpl : pub.length ≤ 3 := by rw [hpub]; exact cut_len _ _ _
    have hpo : ∀ x ∈ pub, okP 4 x = true ∧ frzP 4 x = x := fun x hx => by
      rw [hpub] at hx
      have := cut_mem hx
      simp only [List.mem_cons, List.mem_nil_iff, or_false] at this
      rcases this with rfl | rfl | rfl
      · exact ⟨rfl, rfl⟩
      · exact ⟨rfl, rfl⟩
      · exact ⟨rfl, rfl⟩
    rw [← hpub]
    clear hpub
    k_places
    refine ve_bm ?_
    k_places
    refine ⟨⟨rfl, _, g2a⟩, ?_⟩
    k_places
    refine ve_lst ?_
    k_places
    have hget2 : ((nums.set a.toNat n).map dI)[a.toNat]? = some (dI n) := by
      rw [List.getElem?_map, List.getElem?_set_self hal]; rfl
    refine v2_ixO g2b (at_nat a.toNat (by omega) hget2) ?_
    k_places
    refine ve_lst ?_
    k_places
    refine vm_append g2a (by rw [List.length_map, hlen]; have e := sizeLine_eq; omega) ?_
    have okr : Row.Ok ⟨a, n, hs, cap, pub⟩ := ⟨hsl, okc, hpl, hpo⟩
    obtain ⟨b1, b2⟩ := hnum.snoc hrows (r := ⟨a, n, hs, cap, pub⟩) okr ha0 (by show a < 6; omega) hnn (by omega)
    refine ⟨rs ++ [⟨a, n, hs, cap, pub⟩], nums.set a.toNat n, _, _, _, _, _, _, rfl, ?_, b1, b2, by rw [List.length_append, hlen]; rfl⟩
    rw [s2a, List.map_append]
    rfl
  · rintro env' h' ⟨rs, nums, o6, o7, o8, o9, o10, o11, rfl, rfl, hnum, hrows, hlen⟩
    k_places
    refine ⟨[some (.lst (rs.map fun r => D.p r.p)), some (.lst (nums.map dI))], rfl, .inr (.inl ⟨h.length, rs.map Row.p, rfl, Nat.le_refl _, ?_, q rs hrows⟩)⟩
    rw [g2a, List.map_map]
    rfl
end
end Law

namespace Law
open PySem PySem.Spec PyProof.Rows L2 Kb
-- the steps that are tried: k_clsL a side condition; k_subL one step; k_places steps as long as one fits
local macro_rules | `(tactic| k_clsL) => `(tactic| first | assumption | decide | omega)
local macro_rules | `(tactic| k_subL) => `(tactic| first
  | (with_reducible refine vs_seq ?_) | (with_reducible refine vs_asg ?_) | (with_reducible refine vg_name ?_) | (with_reducible refine vs_ret ?_) | (with_reducible refine vs_if ?_) | (with_reducible refine vs_next ?_) | (with_reducible refine vs_drop ?_)
  | (with_reducible refine vt_test ?_) | (with_reducible refine vt_B ?_) | (with_reducible refine vt_and ?_) | (with_reducible refine vt_or ?_) | (with_reducible refine vt_not ?_) | (with_reducible refine vt_truth ?_)
  | (with_reducible refine ve_op ?_) | (with_reducible refine ve_isi2 ?_) | ((with_reducible refine isi2_i (T := "tuple") ?hT ?hm ?hn ?_); (case hT => exact rfl); (case hm => decide); (case hn => decide)) | ((with_reducible refine isi2_i (T := "list") ?hT ?hm ?hn ?_); (case hT => exact rfl); (case hm => decide); (case hn => decide)) | ((with_reducible refine isi2_i (T := "int") ?hT ?hm ?hn ?_); (case hT => exact rfl); (case hm => decide); (case hn => decide)) | ((with_reducible refine isi2_i (T := "bool") ?hT ?hm ?hn ?_); (case hT => exact rfl); (case hm => decide); (case hn => decide)) | ((with_reducible refine isi2_i (T := "str") ?hT ?hm ?hn ?_); (case hT => exact rfl); (case hm => decide); (case hn => decide)) | ((with_reducible refine isi2_i (T := "NoneType") ?hT ?hm ?hn ?_); (case hT => exact rfl); (case hm => decide); (case hn => decide)) | (with_reducible refine ve_cb ?_) | (with_reducible refine va_cons ?_) | (with_reducible refine va_nil ?_) | (with_reducible refine ve_call ?_)
  | (with_reducible refine ve_int ?_) | (with_reducible refine ve_str ?_) | (with_reducible refine ve_bl ?_) | (with_reducible refine ve_non ?_) | (with_reducible refine ve_ty ?_)
  | (refine ve_var (by exact rfl) ?_)
  | (with_reducible refine ve_and ?_) | (with_reducible refine ve_or ?_) | (with_reducible refine ve_not ?_) | (with_reducible refine ve_chain ?_) | (with_reducible refine ve_un ?_) | (with_reducible refine ve_if ?_)
  | (with_reducible refine bool_ans ?_) | (with_reducible refine tru_bl ?_)
  | (with_reducible refine vc_intI ?_) | (with_reducible refine v2_addI ?_) | (with_reducible refine v2_sub ?_)
  | (with_reducible refine v2_lt ?_) | (with_reducible refine v2_le ?_) | (with_reducible refine v2_gt ?_) | (with_reducible refine v2_ge ?_)
  | (with_reducible refine v2_eqI ?_) | (with_reducible refine v2_eqS ?_) | (with_reducible refine v2_eqB ?_) | (with_reducible refine v2_neI ?_) | (with_reducible refine v2_neS ?_) | (with_reducible refine v2_neB ?_)
  | (with_reducible refine v2_isN ?_) | (with_reducible refine v2_notN ?_)
  | ((with_reducible refine v2_mod ?hm ?_); case hm => k_clsL) | ((with_reducible refine v2_div ?hm ?_); case hm => (constructor <;> k_clsL))
  | ((with_reducible refine v2_mul ?hm ?_); case hm => first | exact cmul_small (by k_clsL) (by k_clsL) | exact cmul_wide (by k_clsL) (by k_clsL))
  | (with_reducible refine vc_min2 ?_) | (with_reducible refine vc_max2 ?_)
  | (with_reducible refine ve_tup ?_) | ((with_reducible refine tup_j ?hl ?_); (case hl => exact rfl))
  | ((with_reducible refine vc_isi (T := "tuple") ?hT ?hn ?_); (case hT => first | exact rfl | exact ⟨rfl, _, by first | assumption | simp⟩); (case hn => decide)) | ((with_reducible refine vc_isi (T := "list") ?hT ?hn ?_); (case hT => first | exact rfl | exact ⟨rfl, _, by first | assumption | simp⟩); (case hn => decide)) | ((with_reducible refine vc_isi (T := "int") ?hT ?hn ?_); (case hT => first | exact rfl | exact ⟨rfl, _, by first | assumption | simp⟩); (case hn => decide)) | ((with_reducible refine vc_isi (T := "bool") ?hT ?hn ?_); (case hT => first | exact rfl | exact ⟨rfl, _, by first | assumption | simp⟩); (case hn => decide)) | ((with_reducible refine vc_isi (T := "str") ?hT ?hn ?_); (case hT => first | exact rfl | exact ⟨rfl, _, by first | assumption | simp⟩); (case hn => decide)) | ((with_reducible refine vc_isi (T := "NoneType") ?hT ?hn ?_); (case hT => first | exact rfl | exact ⟨rfl, _, by first | assumption | simp⟩); (case hn => decide))
  | (with_reducible refine vc_lenL ?_) | (with_reducible refine vc_lenT ?_) | (with_reducible refine ite_nrefl ?_) | (with_reducible refine ite_refl ?_)
  | ((with_reducible refine ite_tt ?hc ?_); (case hc => first | decide | exact rfl)) | ((with_reducible refine ite_ff ?hc ?_); (case hc => first | decide | exact rfl))
  | (with_reducible refine v1_U ?_))
local macro_rules | `(tactic| k_places) => `(tactic| repeat k_subL)

local macro_rules | `(tactic| k_subL) => `(tactic| first
  | (with_reducible refine ve_fld ?_) | (with_reducible refine ve_meth ?_) | ((with_reducible refine ⟨no_meth ?hm, ?_⟩); (case hm => decide +kernel))
  | ((with_reducible refine fld_i fl_author ?hc ?hn ?_); (case hc => assumption); (case hn => assumption)) | ((with_reducible refine fld_i fl_number ?hc ?hn ?_); (case hc => assumption); (case hn => assumption))
  | ((with_reducible refine fld_i fl_heard ?hc ?hn ?_); (case hc => assumption); (case hn => assumption)) | ((with_reducible refine fld_i fl_capability ?hc ?hn ?_); (case hc => assumption); (case hn => assumption))
  | ((with_reducible refine fld_i fl_publics ?hc ?hn ?_); (case hc => assumption); (case hn => assumption)) | ((with_reducible refine fld_i fl_parts ?hc ?hn ?_); (case hc => assumption); (case hn => assumption)))
local macro_rules | `(tactic| k_subL) => `(tactic| first
  | (refine v2_ixL (by exact rfl) ?_) | (refine v2_ixT (by exact rfl) ?_) | (refine vc_list (by exact rfl) ?_) | (refine vc_tuple (by exact rfl) ?_) | (with_reducible refine vc_sumL ?_) | (with_reducible refine vc_sumT ?_))

section
variable {Pg : Program} {w : World} {K : PySem.W.Frag} {mg : Str → Option Value} {base : Heap} {C : Addr}
abbrev st_asks : Stmt := (topS 17)
theorem sc_asks : FnScope ["draws", "rows", "changes", "k", "author", "number", "actual"] ["draws", "rows", "changes"] (defScope st_asks) := ⟨rfl, rfl, rfl, by decide +kernel, rfl, by decide +kernel, by decide +kernel⟩
def W_asks (C : Addr) : Spc := fun ds h R => ∃ (ms : List Int) (rs : List Row), ds = [dL (ms.map P.int), dL (rs.map Row.p), dL (rs.map (Row.c C))] ∧ Good ms ∧ ms.length ≤ 3780 ∧ RowsOk rs ∧ R (dB true) h
theorem ok_asks (A : DefAt K mg "_law_asks_past" st_asks ["draws", "rows", "changes"]) (m_len : mg "len" = none) (m_range : mg "range" = none) (m_max : mg "max" = none) (m_isinstance : mg "isinstance" = none) (m_bool : mg "bool" = none)
    (h__law_at : HasF Pg w K mg base CX0 2 "_law_at" ["draws", "index"] (spD K W_at)) (h__law_is_past : HasF Pg w K mg base CX0 1 "_law_is_past" ["name", "row"] (spD K W_ispast))
    (h_in_past : HasF Pg w K mg base CX0 1 "in_past" ["name", "change"] (spD K (W_past C))) : HasF Pg w K mg base CX0 3 "_law_asks_past" ["draws", "rows", "changes"] (spD K (W_asks C)) := by
  have sc := sc_asks
  refine A.okD sc (W_asks C) (fun ds h R ⟨_, _, e, _⟩ => by rw [e]; rfl) fun f cdv A outer s H E hr => ?_
  refine ⟨_, (pss_cons (ps_for PassesOwn.never rfl (pi_range1 rfl m_range (pa_cons (pe_callB (call_lenK (K := K) (by rfl)) (by rfl) m_len (by decide +kernel) (pa_cons (pv 1) pa_nil)) pa_nil)) (pg_name (i := 3) sc.nd rfl (.inl rfl))
  (pss_one (ps_for PassesOwn.never rfl (pi_range2 rfl m_range (pa_cons (pe_un un_neg pe_int) (pa_cons pe_int pa_nil))) (pg_name (i := 4) sc.nd rfl (.inl rfl))
  (pss_cons (ps_set (i := 5) sc.nd rfl (.inl rfl) (pe_op (op_addUK (K := K) (by rfl)) pe_int (pe_op op_mod (h__law_at.call (hr.mono (by first | decide | omega)) rfl pass0 (pa_cons (pv 0) (pa_cons (pe_op (op_addUK (K := K) (by rfl)) (pe_op (op_addUK (K := K) (by rfl)) pe_int (pe_op op_mulX pe_int (pv 3))) (pv 4)) pa_nil))) (pe_ix (ix_seqK (K := K) (by rfl)) (pe_lst (pa_cons pe_int (pa_cons pe_int (pa_cons pe_int pa_nil)))) (pe_op op_mod (h__law_at.call (hr.mono (by first | decide | omega)) rfl pass0 (pa_cons (pv 0) (pa_cons pe_int pa_nil))) pe_int) (fun _ _ => rfl)))))
  (pss_cons (ps_if (PW.pt (pw_and (pt_cmpR op_le pe_int (pv 4) (nomark _)) (pw_and (pt_cmpR op_lt (pv 4) (pe_callB (call_lenK (K := K) (by rfl)) (by rfl) m_len (by decide +kernel) (pa_cons (pe_ix (ix_seqK (K := K) (by rfl)) (pe_ix (ix_seqK (K := K) (by rfl)) (pv 1) (pv 3) (fun _ _ => rfl)) pe_int (fun _ _ => rfl)) pa_nil)) (nomark _)) (pw_and1 (pt_cmpR (op_eqUK (K := K) (by rfl) hr.units) (pe_op op_mod (h__law_at.call (hr.mono (by first | decide | omega)) rfl pass0 (pa_cons (pv 0) (pa_cons (pe_op (op_addUK (K := K) (by rfl)) pe_int (pv 3)) pa_nil))) pe_int) pe_int (nomark _)))))) (pss_one (ps_set (i := 5) sc.nd rfl (.inl rfl) (pe_callB (call_max2 rfl) (by rfl) m_max (by decide +kernel) (pa_cons pe_int (pa_cons (pe_op (op_addUK (K := K) (by rfl)) (pe_ix (ix_seqK (K := K) (by rfl)) (pe_ix (ix_seqK (K := K) (by rfl)) (pe_ix (ix_seqK (K := K) (by rfl)) (pv 1) (pv 3) (fun _ _ => rfl)) pe_int (fun _ _ => rfl)) (pv 4) (fun _ _ => rfl)) (pe_op op_mod (h__law_at.call (hr.mono (by first | decide | omega)) rfl pass0 (pa_cons (pv 0) (pa_cons (pe_op (op_addUK (K := K) (by rfl)) (pe_op (op_addUK (K := K) (by rfl)) pe_int (pv 3)) (pv 4)) pa_nil))) pe_int)) pa_nil))))) pss_nil)
  (pss_cons (ps_if (pt_cmpR (op_eqUK (K := K) (by rfl) hr.units) (pe_op op_mod (h__law_at.call (hr.mono (by first | decide | omega)) rfl pass0 (pa_cons (pv 0) (pa_cons (pe_op (op_addUK (K := K) (by rfl)) (pe_op (op_addUK (K := K) (by rfl)) pe_int (pv 3)) (pv 4)) pa_nil))) pe_int) pe_int (nomark _)) (pss_one (ps_set (i := 5) sc.nd rfl (.inl rfl) (pe_op op_sub (pe_op op_mod (h__law_at.call (hr.mono (by first | decide | omega)) rfl pass0 (pa_cons (pv 0) (pa_cons (pe_op (op_addUK (K := K) (by rfl)) pe_int (pv 3)) pa_nil))) pe_int) pe_int))) pss_nil)
  (pss_cons (ps_set (i := 6) sc.nd rfl (.inl rfl) (h_in_past.call (hr.mono (by first | decide | omega)) rfl pass0 (pa_cons (pe_tup (pa_cons (pv 4) (pa_cons (pv 5) pa_nil))) (pa_cons (pe_ix (ix_seqK (K := K) (by rfl)) (pv 2) (pv 3) (fun _ _ => rfl)) pa_nil))))
  (pss_one (ps_if (PW.pt (pw_or (pt_not (pt_val (pe_callB (call_isiUK (K := K) (by rfl)) (by rfl) m_isinstance (by decide +kernel) (pa_cons (pv 6) (pa_cons (pe_bltn (v := .ty "bool") rfl m_bool (by decide +kernel) rfl) pa_nil))))) (pw_or1 (pt_cmpR (op_neUK (K := K) (by rfl) hr.units) (pv 6) (h__law_is_past.call (hr.mono (by first | decide | omega)) rfl pass0 (pa_cons (pe_tup (pa_cons (pv 4) (pa_cons (pv 5) pa_nil))) (pa_cons (pe_ix (ix_seqK (K := K) (by rfl)) (pv 1) (pv 3) (fun _ _ => rfl)) pa_nil))) (nomark _))))) (pss_one (ps_ret pe_bl)) pss_nil)))))))))
  (pss_one (ps_ret pe_bl))), ?_⟩
  try dsimp only [cxOf]
  rintro ds h R ⟨ms, rs, rfl, hg, hl, hrs, q⟩
  have v0 : ∀ i : Int, 0 ≤ i → 0 ≤ lawAt ms i ∧ lawAt ms i < 9973 := fun i hi => lawAt_lo hg i hi
  have hlr := hrs.len
  refine vs_fin ?_
  k_subL
  refine vs_for (vi_range1 ?_)
  k_places
  rw [List.length_map]
  refine ⟨rs.length, rfl, by omega, by omega, ?_⟩
  refine ⟨fun i env' h' => (∃ o3 o4 o5 o6, env' = [some (dL (ms.map P.int)), some (dL (rs.map Row.p)), some (dL (rs.map (Row.c C))), o3, o4, o5, o6]) ∧ h = h', ⟨⟨_, _, _, _, rfl⟩, rfl⟩, fun _ _ _ _ => trivial, ?_, ?_⟩
  · rintro k d env' h' hd ⟨⟨o3, o4, o5, o6, rfl⟩, rfl⟩
    obtain ⟨hk, rfl⟩ := rng_get hd
    have hk2 : k < rs.length := by omega
    have hk60 : k < 60 := by omega
    have e1 : (rs.map Row.p)[k]? = some rs[k].p := by rw [List.getElem?_map, List.getElem?_eq_getElem hk2]; rfl
    have e2 : (rs.map (Row.c C))[k]? = some (rs[k].c C) := by rw [List.getElem?_map, List.getElem?_eq_getElem hk2]; rfl
    have ok := hrs.ok _ (List.getElem_mem hk2)
    generalize rs[k] = r at e1 e2 ok
    have hl6 := ok.hl
    k_subL
    refine vs_for (vi_range2 ?_)
    k_places
    refine ⟨_, 8, rfl, ⟨by decide, by decide, by decide, by decide⟩, ?_⟩
    refine ⟨fun i env' h' => (∃ o4 o5 o6, env' = [some (dL (ms.map P.int)), some (dL (rs.map Row.p)), some (dL (rs.map (Row.c C))), some (dI (0 + (k : Int))), o4, o5, o6]) ∧ h = h', ⟨⟨_, _, _, rfl⟩, rfl⟩, fun _ _ _ _ => trivial, ?_, ?_⟩
    · rintro j d env' h' hd ⟨⟨o4, o5, o6, rfl⟩, rfl⟩
      obtain ⟨hj, rfl⟩ := rng_get hd
      have hj10 : j < 10 := hj
      obtain ⟨a, ha⟩ : ∃ a : Int, a = -2 + (j : Int) := ⟨_, rfl⟩
      rw [show dI (-2 + (j : Int)) = dI a from by rw [ha]]
      have ha1 : -2 ≤ a ∧ a < 8 := by omega
      clear ha hd
      k_subL
      refine vs_cut (fun env' h' => (∃ n : Int, env' = [some (dL (ms.map P.int)), some (dL (rs.map Row.p)), some (dL (rs.map (Row.c C))), some (dI (0 + (k : Int))), some (dI a), some (dI n), o6]) ∧ h = h') ?_ ?_
      · k_places
        refine ⟨ms, _, rfl, hg, hl, by omega, by omega, ?_⟩
        k_places
        refine ve_lst ?_
        k_places
        refine ⟨ms, _, rfl, hg, hl, by decide, by decide, ?_⟩
        k_places
        obtain ⟨lim, hlim, hlp⟩ : ∃ l : Int, atI [P.int 4, .int 3, .int 9973] (lawAt ms 4 % 3) = some (.int l) ∧ 0 < l := by
          have h3 : lawAt ms 4 % 3 = 0 ∨ lawAt ms 4 % 3 = 1 ∨ lawAt ms 4 % 3 = 2 := by omega
          rcases h3 with e | e | e <;> rw [e]
          · exact ⟨4, rfl, by decide⟩
          · exact ⟨3, rfl, by decide⟩
          · exact ⟨9973, rfl, by decide⟩
        refine v2_ixL hlim ?_
        k_places
        exact ⟨⟨_, rfl⟩, rfl⟩
      rintro _ _ ⟨⟨n0, rfl⟩, rfl⟩
      refine vs_cut (fun env' h' => (∃ n : Int, env' = [some (dL (ms.map P.int)), some (dL (rs.map Row.p)), some (dL (rs.map (Row.c C))), some (dI (0 + (k : Int))), some (dI a), some (dI n), o6]) ∧ h = h') ?_ ?_
      · k_places
        refine ite_dec (fun h1 => ?_) (fun h1 => ?_)
        · k_places
          refine v2_ixL (at_nat k (by omega) e1) ?_
          k_places
          rw [List.length_map]
          refine ite_dec (fun h2 => ?_) (fun h2 => ?_)
          · k_places
            refine ⟨ms, _, rfl, hg, hl, by omega, by omega, ?_⟩
            k_places
            refine ite_dec (fun h3 => ?_) (fun h3 => ?_)
            · k_places
              refine v2_ixL (at_nat k (by omega) e1) ?_
              k_places
              refine v2_ixL (at_nat a.toNat (by omega) (get_ints (by omega))) ?_
              k_places
              refine ⟨ms, _, rfl, hg, hl, by omega, by omega, ?_⟩
              k_places
              exact ⟨⟨_, rfl⟩, rfl⟩
            · k_places
              exact ⟨⟨_, rfl⟩, rfl⟩
          · k_places
            exact ⟨⟨_, rfl⟩, rfl⟩
        · k_places
          exact ⟨⟨_, rfl⟩, rfl⟩
      rintro _ _ ⟨⟨n1, rfl⟩, rfl⟩
      refine vs_cut (fun env' h' => (∃ n : Int, env' = [some (dL (ms.map P.int)), some (dL (rs.map Row.p)), some (dL (rs.map (Row.c C))), some (dI (0 + (k : Int))), some (dI a), some (dI n), o6]) ∧ h = h') ?_ ?_
      · k_places
        refine ⟨ms, _, rfl, hg, hl, by omega, by omega, ?_⟩
        k_places
        refine ite_dec (fun h1 => ?_) (fun h1 => ?_)
        · k_places
          refine ⟨ms, _, rfl, hg, hl, by omega, by omega, ?_⟩
          k_places
          exact ⟨⟨_, rfl⟩, rfl⟩
        · k_places
          exact ⟨⟨_, rfl⟩, rfl⟩
      rintro _ _ ⟨⟨n, rfl⟩, rfl⟩
      k_places
      refine v2_ixL (at_nat k (by omega) e2) ?_
      k_places
      refine ⟨a, n, r.a, r.n, r.hs, r.cap, .tup r.pub, .tup partsL, rfl, ?_⟩
      k_places
      refine v2_ixL (at_nat k (by omega) e1) ?_
      k_places
      refine ⟨a, n, r, rfl, ?_⟩
      k_places
      exact ⟨⟨_, _, _, rfl⟩, rfl⟩
    · rintro env' h' ⟨⟨o4, o5, o6, rfl⟩, rfl⟩
      exact ⟨⟨_, _, _, _, rfl⟩, rfl⟩
  · rintro env' h' ⟨⟨o3, o4, o5, o6, rfl⟩, rfl⟩
    k_places
    exact fin_p0 q
end
end Law

namespace Law
open PySem PySem.Spec PyProof.Rows L2 Kb
open PySem.W (dataLe)
theorem fm_congr {α β : Type} {f g : α → Option β} : ∀ {l : List α}, (∀ x ∈ l, f x = g x) → l.filterMap f = l.filterMap g
  | [], _ => rfl
  | x :: l, h => by
    rw [List.filterMap_cons, List.filterMap_cons, h x List.mem_cons_self, fm_congr (l := l) fun y hy => h y (List.mem_cons_of_mem _ hy)]
theorem g1a {h : Hs} {a : Option OO} : (h ++ [a])[h.length]? = some a := by simp
theorem g1c {h : Hs} {a b : Option OO} : (h ++ [a] ++ [b])[h.length]? = some a := by simp
theorem g2c {h : Hs} {a b c : Option OO} : (h ++ [a, b] ++ [c])[h.length]? = some a := by simp
theorem g3c {h : Hs} {a b c : Option OO} : (h ++ [a, b, c])[h.length + 2]? = some c := by
  rw [List.getElem?_append_right (by omega)]
  simp
theorem g3d {h : Hs} {a b c d : Option OO} : (h ++ [a, b, c] ++ [d])[h.length + 2]? = some c := by
  rw [List.getElem?_append_left (by simp)]
  exact g3c
theorem range_one {g : Nat → P} {m : Nat} : ∀ {n : Nat}, m < n → (List.range n).filterMap (fun k => if k = m then some (g k) else none) = [g m]
  | 0, h => absurd h (Nat.not_lt_zero _)
  | n + 1, h => by
    rw [List.range_succ, List.filterMap_append]
    by_cases e : m = n
    · subst e
      have z : (List.range m).filterMap (fun k => if k = m then some (g k) else none) = [] := by
        rw [List.filterMap_eq_nil_iff]
        intro k hk
        have hk := List.mem_range.mp hk
        rw [if_neg (by omega)]
      rw [z]
      simp
    · rw [range_one (g := g) (by omega : m < n)]
      simp [Ne.symm e]
/-- where a row stands -/
def foundF (rs : List Row) (a n : Int) (k : Nat) : Option P := (rs[k]?).bind fun t => if decide (t.a = a ∧ t.n = n) = true then some (.int (0 + (k : Int))) else none
theorem found_one {rs : List Row} (ok : RowsOk rs) {m : Nat} {r : Row} (hm : rs[m]? = some r) : (List.range rs.length).filterMap (foundF rs r.a r.n) = [.int (0 + (m : Int))] := by
  have hml := (List.getElem?_eq_some_iff.mp hm).1
  have hmr := (List.getElem?_eq_some_iff.mp hm).2
  rw [← range_one (g := fun k => P.int (0 + (k : Int))) hml]
  refine fm_congr fun k hk => ?_
  have hkl := List.mem_range.mp hk
  unfold foundF
  rw [List.getElem?_eq_getElem hkl]
  show (if decide (rs[k].a = r.a ∧ rs[k].n = r.n) = true then _ else _) = _
  by_cases e : k = m
  · subst e
    rw [if_pos rfl, hmr, decide_eq_true ⟨rfl, rfl⟩, if_pos rfl]
  · have hne : ¬ (rs[k].a = r.a ∧ rs[k].n = r.n) := by
      have pw := List.pairwise_iff_getElem.mp ok.ne
      rcases Nat.lt_or_gt_of_ne e with h | h
      · have := pw k m hkl hml h
        rw [hmr] at this
        exact this
      · have := pw m k hml hkl h
        rw [hmr] at this
        rintro ⟨a, b⟩
        exact this ⟨a.symm, b.symm⟩
    rw [if_neg e, decide_eq_false hne, if_neg Bool.false_ne_true]
theorem places_ex (rs : List Row) : ∀ ts : List Row, (∀ t ∈ ts, t ∈ rs) → ∃ ix : List Nat, ix.length = ts.length ∧ ∀ (i : Nat) (r : Row), ts[i]? = some r → ∃ m, ix[i]? = some m ∧ rs[m]? = some r
  | [], _ => ⟨[], rfl, fun i r h => by simp at h⟩
  | t :: ts, h => by
    obtain ⟨ix, h1, h2⟩ := places_ex rs ts fun u hu => h u (List.mem_cons_of_mem _ hu)
    obtain ⟨m, hm⟩ := List.mem_iff_getElem?.mp (h t List.mem_cons_self)
    refine ⟨m :: ix, by simp [h1], fun i r hr => ?_⟩
    cases i with
    | zero =>
      cases Option.some.inj hr
      exact ⟨m, rfl, hm⟩
    | succ i => exact h2 i r (by simpa using hr)
abbrev keyR (r : Row) : PyData := key3 (fun r : Row => r.hs.sum) Row.a Row.n r
def srt (rs : List Row) : List Row := rs.mergeSort (dataLe false (key3 (fun r : Row => r.hs.sum) Row.a Row.n))
theorem srt_perm (rs : List Row) : (srt rs).Perm rs := List.mergeSort_perm _ _
theorem srt_ne {rs : List Row} (ok : RowsOk rs) : (srt rs).Pairwise fun r t => ¬ (r.a = t.a ∧ r.n = t.n) :=
  ((srt_perm rs).pairwise_iff fun {a b} h => fun ⟨e1, e2⟩ => h ⟨e1.symm, e2.symm⟩).mpr ok.ne
theorem srt_lt {rs : List Row} (ok : RowsOk rs) : (srt rs).Pairwise Row.lt := by
  have h1 := sort3_pairwise (fun r : Row => r.hs.sum) Row.a Row.n rs
  refine (h1.and (srt_ne ok)).imp fun {r t} h => ?_
  obtain ⟨h, ne⟩ := h
  unfold Row.lt
  rcases h with h | ⟨e1, h | ⟨e2, h⟩⟩
  · exact .inl h
  · exact .inr ⟨e1, .inl h⟩
  · refine .inr ⟨e1, .inr ⟨e2, ?_⟩⟩
    have : r.n ≠ t.n := fun z => ne ⟨e2, z⟩
    omega
theorem srt_ok (C : Addr) (rs : List Row) (h : Hs) : SrtOk (W_key C) (rs.map (Row.c C)) (rs.map keyR) h := by
  refine ⟨by simp, alike_key3 _ _ _ rs, sortable_key3 _ _ _ rs, depth_key3 _ _ _ rs, fun i p k hp hk => ?_⟩
  rw [List.getElem?_map] at hp hk
  cases e : rs[i]? with
  | none => rw [e] at hp; cases hp
  | some r =>
    rw [e] at hp hk
    cases hp
    cases hk
    exact ⟨r.a, r.n, r.hs, r.cap, .tup r.pub, .tup partsL, rfl, rfl, .inr (.inr ⟨[r.hs.sum, r.a, r.n], rfl, rfl⟩)⟩
theorem srt_out (C : Addr) (rs : List Row) : sortP (rs.map (Row.c C)) (rs.map keyR) = (srt rs).map (Row.c C) := sortP_map rs (Row.c C) keyR
-- the steps that are tried: k_clsL a side condition; k_subL one step; k_places steps as long as one fits
local macro_rules | `(tactic| k_clsL) => `(tactic| first | assumption | decide | omega)
local macro_rules | `(tactic| k_subL) => `(tactic| first
  | (with_reducible refine vs_seq ?_) | (with_reducible refine vs_asg ?_) | (with_reducible refine vg_name ?_) | (with_reducible refine vs_ret ?_) | (with_reducible refine vs_if ?_) | (with_reducible refine vs_next ?_) | (with_reducible refine vs_drop ?_)
  | (with_reducible refine vt_test ?_) | (with_reducible refine vt_B ?_) | (with_reducible refine vt_and ?_) | (with_reducible refine vt_or ?_) | (with_reducible refine vt_not ?_) | (with_reducible refine vt_truth ?_)
  | (with_reducible refine ve_op ?_) | (with_reducible refine ve_isi2 ?_) | ((with_reducible refine isi2_i (T := "tuple") ?hT ?hm ?hn ?_); (case hT => exact rfl); (case hm => decide); (case hn => decide)) | ((with_reducible refine isi2_i (T := "list") ?hT ?hm ?hn ?_); (case hT => exact rfl); (case hm => decide); (case hn => decide)) | ((with_reducible refine isi2_i (T := "int") ?hT ?hm ?hn ?_); (case hT => exact rfl); (case hm => decide); (case hn => decide)) | ((with_reducible refine isi2_i (T := "bool") ?hT ?hm ?hn ?_); (case hT => exact rfl); (case hm => decide); (case hn => decide)) | ((with_reducible refine isi2_i (T := "str") ?hT ?hm ?hn ?_); (case hT => exact rfl); (case hm => decide); (case hn => decide)) | ((with_reducible refine isi2_i (T := "NoneType") ?hT ?hm ?hn ?_); (case hT => exact rfl); (case hm => decide); (case hn => decide)) | (with_reducible refine ve_cb ?_) | (with_reducible refine va_cons ?_) | (with_reducible refine va_nil ?_) | (with_reducible refine ve_call ?_)
  | (with_reducible refine ve_int ?_) | (with_reducible refine ve_str ?_) | (with_reducible refine ve_bl ?_) | (with_reducible refine ve_non ?_) | (with_reducible refine ve_ty ?_)
  | (refine ve_var (by exact rfl) ?_)
  | (with_reducible refine ve_and ?_) | (with_reducible refine ve_or ?_) | (with_reducible refine ve_not ?_) | (with_reducible refine ve_chain ?_) | (with_reducible refine ve_un ?_) | (with_reducible refine ve_if ?_)
  | (with_reducible refine bool_ans ?_) | (with_reducible refine tru_bl ?_)
  | (with_reducible refine vc_intI ?_) | (with_reducible refine v2_addI ?_) | (with_reducible refine v2_sub ?_)
  | (with_reducible refine v2_lt ?_) | (with_reducible refine v2_le ?_) | (with_reducible refine v2_gt ?_) | (with_reducible refine v2_ge ?_)
  | (with_reducible refine v2_eqI ?_) | (with_reducible refine v2_eqS ?_) | (with_reducible refine v2_eqB ?_) | (with_reducible refine v2_neI ?_) | (with_reducible refine v2_neS ?_) | (with_reducible refine v2_neB ?_)
  | (with_reducible refine v2_isN ?_) | (with_reducible refine v2_notN ?_)
  | ((with_reducible refine v2_mod ?hm ?_); case hm => k_clsL) | ((with_reducible refine v2_div ?hm ?_); case hm => (constructor <;> k_clsL))
  | ((with_reducible refine v2_mul ?hm ?_); case hm => first | exact cmul_small (by k_clsL) (by k_clsL) | exact cmul_wide (by k_clsL) (by k_clsL))
  | (with_reducible refine vc_min2 ?_) | (with_reducible refine vc_max2 ?_)
  | (with_reducible refine ve_tup ?_) | ((with_reducible refine tup_j ?hl ?_); (case hl => exact rfl))
  | ((with_reducible refine vc_isi (T := "tuple") ?hT ?hn ?_); (case hT => first | exact rfl | exact ⟨rfl, _, by first | assumption | simp⟩); (case hn => decide)) | ((with_reducible refine vc_isi (T := "list") ?hT ?hn ?_); (case hT => first | exact rfl | exact ⟨rfl, _, by first | assumption | simp⟩); (case hn => decide)) | ((with_reducible refine vc_isi (T := "int") ?hT ?hn ?_); (case hT => first | exact rfl | exact ⟨rfl, _, by first | assumption | simp⟩); (case hn => decide)) | ((with_reducible refine vc_isi (T := "bool") ?hT ?hn ?_); (case hT => first | exact rfl | exact ⟨rfl, _, by first | assumption | simp⟩); (case hn => decide)) | ((with_reducible refine vc_isi (T := "str") ?hT ?hn ?_); (case hT => first | exact rfl | exact ⟨rfl, _, by first | assumption | simp⟩); (case hn => decide)) | ((with_reducible refine vc_isi (T := "NoneType") ?hT ?hn ?_); (case hT => first | exact rfl | exact ⟨rfl, _, by first | assumption | simp⟩); (case hn => decide))
  | (with_reducible refine vc_lenL ?_) | (with_reducible refine vc_lenT ?_) | (with_reducible refine ite_nrefl ?_) | (with_reducible refine ite_refl ?_)
  | ((with_reducible refine ite_tt ?hc ?_); (case hc => first | decide | exact rfl)) | ((with_reducible refine ite_ff ?hc ?_); (case hc => first | decide | exact rfl))
  | (with_reducible refine v1_U ?_))
local macro_rules | `(tactic| k_places) => `(tactic| repeat k_subL)

local macro_rules | `(tactic| k_subL) => `(tactic| first
  | (with_reducible refine ve_fld ?_) | (with_reducible refine ve_meth ?_) | ((with_reducible refine ⟨no_meth ?hm, ?_⟩); (case hm => decide +kernel))
  | ((with_reducible refine fld_i fl_author ?hc ?hn ?_); (case hc => assumption); (case hn => assumption)) | ((with_reducible refine fld_i fl_number ?hc ?hn ?_); (case hc => assumption); (case hn => assumption))
  | ((with_reducible refine fld_i fl_heard ?hc ?hn ?_); (case hc => assumption); (case hn => assumption)) | ((with_reducible refine fld_i fl_capability ?hc ?hn ?_); (case hc => assumption); (case hn => assumption))
  | ((with_reducible refine fld_i fl_publics ?hc ?hn ?_); (case hc => assumption); (case hn => assumption)) | ((with_reducible refine fld_i fl_parts ?hc ?hn ?_); (case hc => assumption); (case hn => assumption)))
local macro_rules | `(tactic| k_subL) => `(tactic| first
  | (refine v2_ixL (by exact rfl) ?_) | (refine v2_ixT (by exact rfl) ?_) | (refine vc_list (by exact rfl) ?_) | (refine vc_tuple (by exact rfl) ?_) | (with_reducible refine vc_sumL ?_) | (with_reducible refine vc_sumT ?_))

section
variable {Pg : Program} {w : World} {K : PySem.W.Frag} {mg : Str → Option Value} {base : Heap} {C : Addr}
abbrev st_law : Stmt := (topS 18)
theorem sc_law : FnScope ["script", "draws", "rows", "k", "changes", "passed", "actual", "names", "places", "name", "found", "change", "row"] ["script"] (defScope st_law) := ⟨rfl, rfl, rfl, by decide +kernel, rfl, by decide +kernel, by decide +kernel⟩
def W_law : Spc := fun ds h R => ∃ ns : List Int, ds = [dL (ns.map P.int)] ∧ ns.length ≤ 63 ∧ (∀ n ∈ ns, n.natAbs.log2 < 2000000) ∧ R (dB true) h
theorem ok_law {f : Addr} {fd : FuncData} (F : Fun K "law" "law" st_law f fd) (m_len : mg "len" = none) (m_range : mg "range" = none) (m_list : mg "list" = none) (m_isinstance : mg "isinstance" = none)
    (h__law_draws : HasF Pg w K mg base CX0 2 "_law_draws" ["script"] (spD K W_draws)) (h__law_rows : HasF Pg w K mg base CX0 3 "_law_rows" ["draws"] (spD K W_rows))
    (h__law_change : HasF Pg w K mg base CX0 10 "_law_change" ["row", "as_lists"] (spD K (W_change C))) (h__law_at : HasF Pg w K mg base CX0 2 "_law_at" ["draws", "index"] (spD K W_at))
    (h__law_is_kept : HasF Pg w K mg base CX0 11 "_law_is_kept" ["change", "row"] (spD K (W_kept C))) (h_in_order : HasF Pg w K mg base CX0 4 "in_order" ["changes"] (spD K (W_order (W_key C))))
    (h_Change_name : HasM Pg w K mg base CX0 1 C "name" ["self"] (spD K (W_name C))) (h__law_comes_first : HasF Pg w K mg base CX0 1 "_law_comes_first" ["row", "other"] (spD K W_first))
    (h__law_asks_past : HasF Pg w K mg base CX0 3 "_law_asks_past" ["draws", "rows", "changes"] (spD K (W_asks C))) : FnOk Pg w K mg base CX0 12 f fd ["script"] (spD K W_law) := by
  have sc := sc_law
  refine fnD F sc W_law (fun ds h R ⟨_, e, _⟩ => by rw [e]; rfl) fun cdv A outer s H E hr => ?_
  refine ⟨_, (pss_cons (ps_set (i := 1) sc.nd rfl (.inr rfl) (h__law_draws.call (hr.mono (by first | decide | omega)) rfl pass0 (pa_cons (pv 0) pa_nil)))
  (pss_cons (ps_set (i := 2) sc.nd rfl (.inr rfl) (h__law_rows.call (hr.mono (by first | decide | omega)) rfl pass0 (pa_cons (pv 1) pa_nil)))
  (pss_cons (ps_setLc (i := 4) (own := [("k", 3)]) rfl sc.nd rfl rfl (sw_true rfl rfl rfl (by decide +kernel)) (pi_range1 rfl m_range (pa_cons (pe_callB (call_lenK (K := K) (by rfl)) (by rfl) m_len (by decide +kernel) (pa_cons (pv 2) pa_nil)) pa_nil)) (blkOk_by (N := ["script", "draws", "rows", "k", "changes", "passed", "actual", "names", "places", "name", "found", "change", "row"]) (sc := defScope (topS 18)) (by decide +kernel)) (fun _ _ _ _ _ => (pg_name (i := 3) sc.nd rfl (.inl rfl))) (fun _ _ _ _ _ => pts_nil) (fun _ _ _ _ _ => (h__law_change.call (hr.mono (by first | decide | omega)) rfl pass0 (pa_cons (pe_ix (ix_seqK (K := K) (by rfl)) (pv 2) (pv 3) (fun _ _ => rfl)) (pa_cons (pe_cmpR (op_eqUK (K := K) (by rfl) hr.units) (pe_op op_mod (h__law_at.call (hr.mono (by first | decide | omega)) rfl pass0 (pa_cons (pv 1) (pa_cons (pe_op (op_addUK (K := K) (by rfl)) pe_int (pv 3)) pa_nil))) pe_int) pe_int (nomark _)) pa_nil)))))
  (pss_cons (ps_for PassesOwn.never rfl (pi_range1 rfl m_range (pa_cons (pe_callB (call_lenK (K := K) (by rfl)) (by rfl) m_len (by decide +kernel) (pa_cons (pv 2) pa_nil)) pa_nil)) (pg_name (i := 3) sc.nd rfl (.inl rfl))
  (pss_one (ps_if (pt_not (pt_val (h__law_is_kept.call (hr.mono (by first | decide | omega)) rfl pass0 (pa_cons (pe_ix (ix_seqK (K := K) (by rfl)) (pv 4) (pv 3) (fun _ _ => rfl)) (pa_cons (pe_ix (ix_seqK (K := K) (by rfl)) (pv 2) (pv 3) (fun _ _ => rfl)) pa_nil))))) (pss_one (ps_ret pe_bl)) pss_nil)))
  (pss_cons (ps_set (i := 5) sc.nd rfl (.inl rfl) (pe_callTy (call_list_ofK (K := K) (by rfl)) (by rfl) m_list (by decide +kernel) (pa_cons (pv 4) pa_nil)))
  (pss_cons (ps_set (i := 6) sc.nd rfl (.inl rfl) (h_in_order.call (hr.mono (by first | decide | omega)) rfl pass0 (pa_cons (pv 5) pa_nil)))
  (pss_cons (ps_if (PW.pt (pw_or (pt_not (pt_val (pe_callB (call_isiUK (K := K) (by rfl)) (by rfl) m_isinstance (by decide +kernel) (pa_cons (pv 6) (pa_cons (pe_bltn (v := .ty "list") rfl m_list (by decide +kernel) rfl) pa_nil))))) (pw_or1 (pt_cmpR (op_neUK (K := K) (by rfl) hr.units) (pe_callB (call_lenK (K := K) (by rfl)) (by rfl) m_len (by decide +kernel) (pa_cons (pv 6) pa_nil)) (pe_callB (call_lenK (K := K) (by rfl)) (by rfl) m_len (by decide +kernel) (pa_cons (pv 2) pa_nil)) (nomark _))))) (pss_one (ps_ret pe_bl)) pss_nil)
  (pss_cons (ps_setLc (i := 7) (own := [("change", 11)]) rfl sc.nd rfl rfl (sw_true rfl rfl rfl (by decide +kernel)) (pi_seqK (K := K) (by rfl) (pv 6)) (blkOk_by (N := ["script", "draws", "rows", "k", "changes", "passed", "actual", "names", "places", "name", "found", "change", "row"]) (sc := defScope (topS 18)) (by decide +kernel)) (fun _ _ _ _ _ => (pg_name (i := 11) sc.nd rfl (.inl rfl))) (fun _ _ _ _ _ => pts_nil) (fun _ _ _ _ _ => (h_Change_name.meth0 (hr.mono (by first | decide | omega)) pass0 (pv 11))))
  (pss_cons (ps_set (i := 8) sc.nd rfl (.inl rfl) (pe_lst pa_nil))
  (pss_cons (ps_for PassesOwn.never rfl (pi_seqK (K := K) (by rfl) (pv 7)) (pg_name (i := 9) sc.nd rfl (.inr rfl))
  (pss_cons (ps_setLc (i := 10) (own := [("k", 3)]) rfl sc.nd rfl rfl (sw_true rfl rfl rfl (by decide +kernel)) (pi_range1 rfl m_range (pa_cons (pe_callB (call_lenK (K := K) (by rfl)) (by rfl) m_len (by decide +kernel) (pa_cons (pv 2) pa_nil)) pa_nil)) (blkOk_by (N := ["script", "draws", "rows", "k", "changes", "passed", "actual", "names", "places", "name", "found", "change", "row"]) (sc := defScope (topS 18)) (by decide +kernel)) (fun _ _ _ _ _ => (pg_name (i := 3) sc.nd rfl (.inl rfl))) (fun _ _ _ _ _ => (pts_one (pt_cmpR (op_eqUK (K := K) (by rfl) hr.units) (pe_tup (pa_cons (pe_ix (ix_seqK (K := K) (by rfl)) (pe_ix (ix_seqK (K := K) (by rfl)) (pv 2) (pv 3) (fun _ _ => rfl)) pe_int (fun _ _ => rfl)) (pa_cons (pe_ix (ix_seqK (K := K) (by rfl)) (pe_ix (ix_seqK (K := K) (by rfl)) (pv 2) (pv 3) (fun _ _ => rfl)) pe_int (fun _ _ => rfl)) pa_nil))) (pv 9) (nomark _)))) (fun _ _ _ _ _ => (pv 3)))
  (pss_cons (ps_if (PW.pt (pw_or (pt_cmpR (op_neUK (K := K) (by rfl) hr.units) (pe_callB (call_lenK (K := K) (by rfl)) (by rfl) m_len (by decide +kernel) (pa_cons (pv 10) pa_nil)) pe_int (nomark _)) (pw_or1 (pt_cmpR (op_inUK (K := K) (by rfl)) (pe_ix (ix_seqK (K := K) (by rfl)) (pv 10) pe_int (fun _ _ => rfl)) (pv 8) (by rfl))))) (pss_one (ps_ret pe_bl)) pss_nil)
  (pss_one (ps_expr (pe_bm PySem.F.plainAttrs_list PySem.F.slot_list_append PySem.F.type_list_append mt_append (pv 8) (pa_cons (pe_ix (ix_seqK (K := K) (by rfl)) (pv 10) pe_int (fun _ _ => rfl)) pa_nil)))))))
  (pss_cons (ps_for PassesOwn.never rfl (pi_range1 rfl m_range (pa_cons (pe_callB (call_lenK (K := K) (by rfl)) (by rfl) m_len (by decide +kernel) (pa_cons (pv 8) pa_nil)) pa_nil)) (pg_name (i := 3) sc.nd rfl (.inl rfl))
  (pss_cons (ps_if (pt_not (pt_val (h__law_is_kept.call (hr.mono (by first | decide | omega)) rfl pass0 (pa_cons (pe_ix (ix_seqK (K := K) (by rfl)) (pv 6) (pv 3) (fun _ _ => rfl)) (pa_cons (pe_ix (ix_seqK (K := K) (by rfl)) (pv 2) (pe_ix (ix_seqK (K := K) (by rfl)) (pv 8) (pv 3) (fun _ _ => rfl)) (fun _ _ => rfl)) pa_nil))))) (pss_one (ps_ret pe_bl)) pss_nil)
  (pss_one (ps_if (PW.pt (pw_and (pt_cmpR op_gt (pv 3) pe_int (nomark _)) (pw_and1 (pt_not (pt_val (h__law_comes_first.call (hr.mono (by first | decide | omega)) rfl pass0 (pa_cons (pe_ix (ix_seqK (K := K) (by rfl)) (pv 2) (pe_ix (ix_seqK (K := K) (by rfl)) (pv 8) (pe_op op_sub (pv 3) pe_int) (fun _ _ => rfl)) (fun _ _ => rfl)) (pa_cons (pe_ix (ix_seqK (K := K) (by rfl)) (pv 2) (pe_ix (ix_seqK (K := K) (by rfl)) (pv 8) (pv 3) (fun _ _ => rfl)) (fun _ _ => rfl)) pa_nil)))))))) (pss_one (ps_ret pe_bl)) pss_nil))))
  (pss_cons (ps_expr (pe_bm PySem.F.plainAttrs_list PySem.F.slot_list_append PySem.F.type_list_append mt_append (pv 6) (pa_cons pe_non pa_nil)))
  (pss_cons (ps_if (pt_cmpR (op_neUK (K := K) (by rfl) hr.units) (pe_lc (own := [("change", 11)]) rfl sc.nd (pi_seqK (K := K) (by rfl) (pv 5)) (blkOk_by (N := ["script", "draws", "rows", "k", "changes", "passed", "actual", "names", "places", "name", "found", "change", "row"]) (sc := defScope (topS 18)) (by decide +kernel)) (fun _ _ _ _ _ => (pg_name (i := 11) sc.nd rfl (.inl rfl))) (fun _ _ _ _ _ => pts_nil) (fun _ _ _ _ _ => (h_Change_name.meth0 (hr.mono (by first | decide | omega)) pass0 (pv 11)))) (pe_lc (own := [("row", 12)]) rfl sc.nd (pi_seqK (K := K) (by rfl) (pv 2)) (blkOk_by (N := ["script", "draws", "rows", "k", "changes", "passed", "actual", "names", "places", "name", "found", "change", "row"]) (sc := defScope (topS 18)) (by decide +kernel)) (fun _ _ _ _ _ => (pg_name (i := 12) sc.nd rfl (.inl rfl))) (fun _ _ _ _ _ => pts_nil) (fun _ _ _ _ _ => (pe_tup (pa_cons (pe_ix (ix_seqK (K := K) (by rfl)) (pv 12) pe_int (fun _ _ => rfl)) (pa_cons (pe_ix (ix_seqK (K := K) (by rfl)) (pv 12) pe_int (fun _ _ => rfl)) pa_nil))))) (nomark _)) (pss_one (ps_ret pe_bl)) pss_nil)
  (pss_cons (ps_if (pt_cmpR (op_neUK (K := K) (by rfl) hr.units) (pe_lc (own := [("change", 11)]) rfl sc.nd (pi_seqK (K := K) (by rfl) (h_in_order.call (hr.mono (by first | decide | omega)) rfl pass0 (pa_cons (pv 5) pa_nil))) (blkOk_by (N := ["script", "draws", "rows", "k", "changes", "passed", "actual", "names", "places", "name", "found", "change", "row"]) (sc := defScope (topS 18)) (by decide +kernel)) (fun _ _ _ _ _ => (pg_name (i := 11) sc.nd rfl (.inl rfl))) (fun _ _ _ _ _ => pts_nil) (fun _ _ _ _ _ => (h_Change_name.meth0 (hr.mono (by first | decide | omega)) pass0 (pv 11)))) (pv 7) (nomark _)) (pss_one (ps_ret pe_bl)) pss_nil)
  (pss_one (ps_ret (h__law_asks_past.call (hr.mono (by first | decide | omega)) rfl pass0 (pa_cons (pv 1) (pa_cons (pv 2) (pa_cons (pv 4) pa_nil)))))))))))))))))))), ?_⟩
  try dsimp only [cxOf]
  rintro ds h R ⟨ns, rfl, hl, hb, q⟩
  refine vs_fin ?_
  k_places
  refine ⟨ns, rfl, hl, hb, fun ms hg hml => ?_⟩
  k_places
  refine ⟨ms, rfl, hg, hml, fun rs hrs => ?_⟩
  have hlr := hrs.len
  have gR : ∀ {i : Nat} {r : Row}, rs[i]? = some r → (rs.map Row.p)[i]? = some r.p := fun e => by rw [List.getElem?_map, e]; rfl
  k_places
  refine ve_lcMap tg_name ?_
  refine vi_range1 ?_
  k_places
  rw [List.length_map]
  refine ⟨rs.length, rfl, by omega, by omega, ?_⟩
  refine ⟨rs.map (Row.c C), by simp [rng_len], by rw [rng_len]; have e := sizeLine_eq; omega, fun _ => trivial, ?_, ?_⟩
  · intro j d y acc hd hy
    obtain ⟨hj, rfl⟩ := rng_get hd
    have hj2 : j < rs.length := by omega
    have e1 : rs[j]? = some rs[j] := List.getElem?_eq_getElem hj2
    rw [List.getElem?_map, e1] at hy
    cases hy
    refine vg_name ⟨rfl, ?_⟩
    k_places
    refine v2_ixL (at_nat j (by omega) (gR e1)) ?_
    k_places
    refine ⟨ms, _, rfl, hg, hml, by omega, by omega, ?_⟩
    k_places
    exact ⟨rs[j], _, rfl, hrs.ok _ (List.getElem_mem hj2), rfl, rfl⟩
  k_places
  have gC : ∀ {i : Nat} {r : Row}, rs[i]? = some r → (rs.map (Row.c C))[i]? = some (r.c C) := fun e => by rw [List.getElem?_map, e]; rfl
  -- the changes are kept
  refine vs_for (vi_range1 ?_)
  k_places
  rw [List.length_map]
  refine ⟨rs.length, rfl, by omega, by omega, ?_⟩
  refine ⟨fun i env' h' => (∃ o3, env' = [some (dL (ns.map P.int)), some (dL (ms.map P.int)), some (dL (rs.map Row.p)), o3, some (dL (rs.map (Row.c C))), none, none, none, none, none, none, none, none]) ∧ h = h', ⟨⟨_, rfl⟩, rfl⟩, fun _ _ _ _ => trivial, ?_, ?_⟩
  · rintro j d env' h' hd ⟨⟨o3, rfl⟩, rfl⟩
    obtain ⟨hj, rfl⟩ := rng_get hd
    have hj2 : j < rs.length := by omega
    have e1 : rs[j]? = some rs[j] := List.getElem?_eq_getElem hj2
    k_places
    refine v2_ixL (at_nat j (by omega) (gC e1)) ?_
    k_places
    refine v2_ixL (at_nat j (by omega) (gR e1)) ?_
    k_places
    refine ⟨rs[j], rfl, hrs.ok _ (List.getElem_mem hj2), ?_⟩
    k_places
    exact ⟨⟨_, rfl⟩, rfl⟩
  rintro env' h' ⟨⟨o3, rfl⟩, rfl⟩
  k_places
  refine ⟨_, _, rfl, srt_ok C rs h, ?_⟩
  rw [srt_out]
  have hts := srt_perm rs
  have hlt := srt_lt hrs
  have hne := srt_ne hrs
  have htl := hts.length_eq
  have hin : ∀ t ∈ srt rs, t ∈ rs := fun t ht => hts.mem_iff.mp ht
  obtain ⟨ts, hsr⟩ : ∃ ts, ts = srt rs := ⟨_, rfl⟩
  rw [← hsr] at hts hlt hne htl hin ⊢
  k_places
  have cts : ∀ {i : Nat} {d : D}, ((ts.map (Row.c C)).map D.p)[i]? = some d → ∃ r, ts[i]? = some r ∧ d = .p (r.c C) := fun {i d} hd => by
    rw [List.getElem?_map, List.getElem?_map] at hd
    cases e : ts[i]? with
    | none => rw [e] at hd; cases hd
    | some r => rw [e] at hd; cases hd; exact ⟨r, rfl, rfl⟩
  refine vc_isi (T := "list") ⟨rfl, _, g1a⟩ (by decide) ?_
  k_places
  refine vc_lenO g1a ?_
  k_places
  refine ite_ndec (fun z => absurd ?_ z) (fun _ => ?_)
  · rw [List.length_map, List.length_map, List.length_map, htl]
  k_places
  refine ve_lcMap tg_name ?_
  refine vi_seqO ?_
  k_places
  refine ⟨h.length, _, rfl, g1a, ts.map (fun r => pairP r.a r.n), by simp, by rw [List.length_map, List.length_map]; have e := sizeLine_eq; omega, fun _ => g1c, ?_, ?_⟩
  · intro j d y acc hd hy
    obtain ⟨r, e1, rfl⟩ := cts hd
    rw [List.getElem?_map, e1] at hy
    cases hy
    refine vg_name ⟨rfl, ?_⟩
    k_places
    exact ⟨_, _, _, _, _, _, rfl, rfl, rfl⟩
  k_places
  refine ve_lstO ?_
  k_places
  refine ⟨by decide, ?_⟩
  rw [show (h ++ [some (OO.lst ((ts.map (Row.c C)).map D.p))]).length = h.length + 1 from by simp, List.append_assoc]
  obtain ⟨ix, ixl, ixg⟩ := places_ex rs ts hin
  have tsn : ∀ {i : Nat} {d : D}, ((ts.map fun r => pairP r.a r.n).map D.p)[i]? = some d → ∃ r, ts[i]? = some r ∧ d = dT [.int r.a, .int r.n] := fun {i d} hd => by
    rw [List.getElem?_map, List.getElem?_map] at hd
    cases e : ts[i]? with
    | none => rw [e] at hd; cases hd
    | some r => rw [e] at hd; cases hd; exact ⟨r, rfl, rfl⟩
  obtain ⟨aL, haL⟩ : ∃ aL, aL = (ts.map (Row.c C)).map D.p := ⟨_, rfl⟩
  rw [← haL]
  k_places
  refine vs_for (vi_seqL ?_)
  k_places
  refine ⟨_, rfl, ?_⟩
  refine ⟨fun i env' h' => (∃ o3 o9 o10, env' = [some (dL (ns.map P.int)), some (dL (ms.map P.int)), some (dL (rs.map Row.p)), o3, some (dL (rs.map (Row.c C))), some (dL (rs.map (Row.c C))), some (.own h.length), some (dL (ts.map fun r => pairP r.a r.n)), some (.own (h.length + 1)), o9, o10, none, none]) ∧
    h ++ [some (.lst aL), some (.lst (((ix.take i).map fun (m : Nat) => (0 + (m : Int))).map dI))] = h', ⟨⟨_, _, _, rfl⟩, rfl⟩, fun _ _ _ _ => trivial, ?_, ?_⟩
  · rintro i d env' h' hd ⟨⟨o3, o9, o10, rfl⟩, rfl⟩
    obtain ⟨r, er, rfl⟩ := tsn hd
    obtain ⟨m, em, erm⟩ := ixg i r er
    have hil : i < ts.length := (List.getElem?_eq_some_iff.mp er).1
    have hml2 : m < rs.length := (List.getElem?_eq_some_iff.mp erm).1
    k_places
    refine ve_lc tg_name ?_
    refine vi_range1 ?_
    k_places
    rw [List.length_map]
    refine ⟨rs.length, rfl, by omega, by omega, ?_⟩
    refine ⟨foundF rs r.a r.n, by rw [rng_len]; have e := sizeLine_eq; omega, fun _ => trivial, ?_, ?_⟩
    · intro j d acc hd2
      obtain ⟨hj, rfl⟩ := rng_get hd2
      have hj2 : j < rs.length := by omega
      have e1 : rs[j]? = some rs[j] := List.getElem?_eq_getElem hj2
      refine vg_name ⟨rfl, ?_⟩
      k_places
      refine v2_ixL (at_nat j (by omega) (gR e1)) ?_
      k_places
      refine v2_ixL (at_nat j (by omega) (gR e1)) ?_
      k_places
      refine v2_eqPair ?_
      k_places
      refine ⟨rfl, ?_⟩
      have ef : foundF rs r.a r.n j = if decide (rs[j].a = r.a ∧ rs[j].n = r.n) = true then some (.int (0 + (j : Int))) else none := by
        unfold foundF
        rw [e1]
        rfl
      rw [ef]
      by_cases hc : rs[j].a = r.a ∧ rs[j].n = r.n
      · rw [decide_eq_true hc]
        refine ite_tt rfl ?_
        k_places
        exact ⟨rfl, _, rfl, if_pos rfl⟩
      · rw [decide_eq_false hc]
        exact ite_ff rfl (if_neg Bool.false_ne_true)
    · rw [rng_len, Int.toNat_natCast, found_one hrs erm]
      k_places
      refine v2_inO g2b ?_
      k_places
      refine ite_ff (decide_eq_false ?_) ?_
      · intro hmem
        obtain ⟨m', hm', e⟩ := List.mem_map.mp hmem
        have emm : m' = m := by omega
        subst emm
        obtain ⟨j, hj⟩ := List.mem_iff_getElem?.mp hm'
        rw [List.getElem?_take] at hj
        split at hj
        · rename_i hji
          have hjl : j < ts.length := by omega
          obtain ⟨m2, g1, g2⟩ := ixg j ts[j] (List.getElem?_eq_getElem hjl)
          rw [hj] at g1
          cases g1
          rw [erm] at g2
          have pw := List.pairwise_iff_getElem.mp hne j i hjl hil hji
          have ei : ts[i] = r := (List.getElem?_eq_some_iff.mp er).2
          rw [ei] at pw
          cases Option.some.inj g2
          exact pw ⟨rfl, rfl⟩
        · cases hj
      k_places
      refine ve_bm ?_
      k_places
      refine ⟨⟨rfl, _, g2b⟩, ?_⟩
      k_places
      refine vm_append g2b (by rw [List.length_map, List.length_map, List.length_take]; have e := sizeLine_eq; omega) ?_
      refine ⟨⟨_, _, _, rfl⟩, ?_⟩
      rw [s2b, List.take_add_one, em, List.map_append, List.map_append]
      rfl
  · rintro env' h' ⟨⟨o3, o9, o10, rfl⟩, rfl⟩
    rw [List.length_map, List.length_map, ← ixl, List.take_length]
    have hP : ∀ (j : Nat) (r : Row), ts[j]? = some r → ∃ m : Nat, ((ix.map fun (m : Nat) => (0 + (m : Int))).map dI)[j]? = some (dI (0 + (m : Int))) ∧ rs[m]? = some r := fun j r er => by
      obtain ⟨m, g1, g2⟩ := ixg j r er
      exact ⟨m, by rw [List.getElem?_map, List.getElem?_map, g1]; rfl, g2⟩
    have hA : ∀ (j : Nat) (r : Row), ts[j]? = some r → aL[j]? = some (.p (r.c C)) := fun j r er => by
      rw [haL, List.getElem?_map, List.getElem?_map, er]; rfl
    have hAl : aL.length = ts.length := by rw [haL, List.length_map, List.length_map]
    obtain ⟨pl, hpl⟩ : ∃ pl, pl = (ix.map fun (m : Nat) => (0 + (m : Int))).map dI := ⟨_, rfl⟩
    have hpll : pl.length = ts.length := by rw [hpl, List.length_map, List.length_map, ixl]
    rw [← hpl] at hP ⊢
    k_places
    refine vs_for (vi_range1 ?_)
    k_places
    refine vc_lenO g2b ?_
    k_places
    rw [hpll]
    refine ⟨ts.length, rfl, by omega, by omega, ?_⟩
    refine ⟨fun i env' h' => (∃ o3 o9 o10, env' = [some (dL (ns.map P.int)), some (dL (ms.map P.int)), some (dL (rs.map Row.p)), o3, some (dL (rs.map (Row.c C))), some (dL (rs.map (Row.c C))), some (.own h.length), some (dL (ts.map fun r => pairP r.a r.n)), some (.own (h.length + 1)), o9, o10, none, none]) ∧
      h ++ [some (.lst aL), some (.lst pl)] = h', ⟨⟨_, _, _, rfl⟩, rfl⟩, fun _ _ _ _ => trivial, ?_, ?_⟩
    · rintro j d env' h' hd ⟨⟨o3, o9, o10, rfl⟩, rfl⟩
      obtain ⟨hj, rfl⟩ := rng_get hd
      have hj2 : j < ts.length := by omega
      have er : ts[j]? = some ts[j] := List.getElem?_eq_getElem hj2
      obtain ⟨m, g1, g2⟩ := hP j _ er
      have hmr : m < rs.length := (List.getElem?_eq_some_iff.mp g2).1
      k_places
      refine v2_ixO g2a (at_nat j (by omega) (hA j _ er)) ?_
      k_places
      refine v2_ixO g2b (at_nat j (by omega) g1) ?_
      k_places
      refine v2_ixL (at_nat m (by omega) (gR g2)) ?_
      k_places
      refine ⟨ts[j], rfl, hrs.ok _ (hin _ (List.getElem_mem hj2)), ?_⟩
      k_places
      refine ite_dec (fun h0 => ?_) (fun h0 => ?_)
      · have hj3 : j - 1 < ts.length := by omega
        have er3 : ts[j - 1]? = some ts[j - 1] := List.getElem?_eq_getElem hj3
        obtain ⟨m3, g3, g4⟩ := hP (j - 1) _ er3
        have hmr3 : m3 < rs.length := (List.getElem?_eq_some_iff.mp g4).1
        k_places
        refine v2_ixO g2b (at_nat (j - 1) (by omega) g3) ?_
        k_places
        refine v2_ixL (at_nat m3 (by omega) (gR g4)) ?_
        k_places
        refine v2_ixO g2b (at_nat j (by omega) g1) ?_
        k_places
        refine v2_ixL (at_nat m (by omega) (gR g2)) ?_
        k_places
        refine ⟨ts[j - 1], ts[j], rfl, List.pairwise_iff_getElem.mp hlt (j - 1) j hj3 hj2 (by omega), ?_⟩
        k_places
        exact ⟨⟨_, _, _, rfl⟩, rfl⟩
      · k_places
        exact ⟨⟨_, _, _, rfl⟩, rfl⟩
    rintro env' h' ⟨⟨o3, o9, o10, rfl⟩, rfl⟩
    k_places
    refine ve_bm ?_
    k_places
    refine ⟨⟨rfl, _, g2a⟩, ?_⟩
    k_places
    refine vm_append g2a (by have e := sizeLine_eq; omega) ?_
    rw [s2a]
    k_places
    refine ve_lcMap tg_name ?_
    refine vi_seqL ?_
    k_places
    refine ⟨_, rfl, rs.map (fun r => pairP r.a r.n), by simp, by rw [List.length_map, List.length_map]; have e := sizeLine_eq; omega, fun _ => trivial, ?_, ?_⟩
    · intro j d y acc hd hy
      rw [List.getElem?_map, List.getElem?_map] at hd
      rw [List.getElem?_map] at hy
      cases e : rs[j]? with
      | none => rw [e] at hd; cases hd
      | some r =>
        rw [e] at hd hy
        cases hd
        cases hy
        refine vg_name ⟨rfl, ?_⟩
        k_places
        exact ⟨_, _, _, _, _, _, rfl, rfl, rfl⟩
    k_places
    refine ve_lcMap tg_name ?_
    refine vi_seqL ?_
    k_places
    refine ⟨_, rfl, rs.map (fun r => pairP r.a r.n), by simp, by rw [List.length_map, List.length_map]; have e := sizeLine_eq; omega, fun _ => trivial, ?_, ?_⟩
    · intro j d y acc hd hy
      rw [List.getElem?_map, List.getElem?_map] at hd
      rw [List.getElem?_map] at hy
      cases e : rs[j]? with
      | none => rw [e] at hd; cases hd
      | some r =>
        rw [e] at hd hy
        cases hd
        cases hy
        refine vg_name ⟨rfl, ?_⟩
        k_places
        exact ⟨rfl, rfl⟩
    refine v2_nePairs ?_
    k_places
    refine ve_lcMap tg_name ?_
    refine vi_seqO ?_
    k_places
    refine ⟨_, _, rfl, srt_ok C rs _, ?_⟩
    rw [srt_out, ← hsr]
    refine ⟨_, _, rfl, g1a, ts.map (fun r => pairP r.a r.n), by simp, by rw [List.length_map, List.length_map]; have e := sizeLine_eq; omega, fun _ => g1c, ?_, ?_⟩
    · intro j d y acc hd hy
      obtain ⟨r, e1, rfl⟩ := cts hd
      rw [List.getElem?_map, e1] at hy
      cases hy
      refine vg_name ⟨rfl, ?_⟩
      k_places
      exact ⟨_, _, _, _, _, _, rfl, rfl, rfl⟩
    k_places
    refine v2_nePairs ?_
    k_places
    refine ⟨ms, rs, rfl, hg, hml, hrs, ?_⟩
    rw [List.append_assoc]
    exact fin_p _ q
end
end Law

namespace Law
open PySem PySem.Spec PyProof.Rows L2 Kb
theorem law_all {l : PySem.W.OpenLaw} {w : World} {K : PySem.W.Frag} {h : Heap} {mg : Str → Option Value} {fa fl C : Addr} (X : K.In h) (G : h.Ns mainGlobals mg) (hfa : mg "law" = some (.ref fa))
    {od an : Option Addr} {sl : Array (Option Value)} {oc kV dc pm cd ct : Value}
    (aC : PySem.W.nsIn K mainGlobals "Change" = some (some (.ref C)))
    (d1 : DefAt K mg "_law_mix" st_mix ["cell", "k"]) (d2 : DefAt K mg "_law_draws" st_draws ["script"]) (d3 : DefAt K mg "_law_at" st_at ["draws", "index"]) (d4 : DefAt K mg "_law_is_integer" st_isint ["actual"])
    (d5 : DefAt K mg "_law_same" st_same ["actual", "expected"]) (d6 : DefAt K mg "frozen" st_frozen ["value"]) (d7 : DefAt K mg "in_past" st_past ["name", "change"]) (d8 : DefAt K mg "order_key" st_key ["change"])
    (d9 : DefAt K mg "in_order" st_order ["changes"]) (d10 : DefAt K mg "_law_rows" st_rows ["draws"]) (d11 : DefAt K mg "_law_change" st_change ["row", "as_lists"]) (d12 : DefAt K mg "_law_is_kept" st_kept ["change", "row"])
    (d13 : DefAt K mg "_law_comes_first" st_first ["row", "other"]) (d14 : DefAt K mg "_law_is_past" st_ispast ["name", "row"]) (d15 : DefAt K mg "_law_asks_past" st_asks ["draws", "rows", "changes"])
    (i1 : InitAt K C "Change.__init__" st_init ["self", "author", "number", "heard", "capability", "publics", "parts"]) (i2 : MethAt K C "name" "Change.name" st_name ["self"]) (i3 : MethAt K C "header" "Change.header" st_header ["self"]) (i4 : MethAt K C "with_parts" "Change.with_parts" st_with ["self", "parts"])
    (pg : PySem.W.plainGet K C Str.empty = true) (hd : PySem.W.hasDictIn K C = true) (po : PySem.W.plainOver K C = true) (sa : PySem.W.findIn K (.ref C) "__setattr__" = some (some (.builtin "object.__setattr__")))
    (n1 : PySem.W.findIn K (.ref C) "author" = some none) (n2 : PySem.W.findIn K (.ref C) "number" = some none) (n3 : PySem.W.findIn K (.ref C) "heard" = some none) (n4 : PySem.W.findIn K (.ref C) "capability" = some none) (n5 : PySem.W.findIn K (.ref C) "publics" = some none) (n6 : PySem.W.findIn K (.ref C) "parts" = some none)
    (z1 : PySem.W.nsIn K mainGlobals "int" = some none) (z2 : PySem.W.nsIn K mainGlobals "len" = some none) (z3 : PySem.W.nsIn K mainGlobals "min" = some none) (z4 : PySem.W.nsIn K mainGlobals "range" = some none) (z5 : PySem.W.nsIn K mainGlobals "bool" = some none)
    (z6 : PySem.W.nsIn K mainGlobals "isinstance" = some none) (z7 : PySem.W.nsIn K mainGlobals "str" = some none) (z8 : PySem.W.nsIn K mainGlobals "list" = some none) (z9 : PySem.W.nsIn K mainGlobals "tuple" = some none) (z10 : PySem.W.nsIn K mainGlobals "sum" = some none)
    (z11 : PySem.W.nsIn K mainGlobals "sorted" = some none) (z12 : PySem.W.nsIn K mainGlobals "max" = some none)
    (al : PySem.W.nsIn K mainGlobals "law" = some (some (.ref fl))) (ll : K.lookup fl = some ⟨oc, od, .func (PySem.W.fnOf "law" "law" (defArgs st_law) (defBody st_law) (defScope st_law) .none kV dc pm an cd ct), sl⟩) (cl : PySem.W.codeIn K cd "law" = true) (kl : PySem.W.keepIn K (.ref fl) = true) :
    ∃ fd : FuncData, (∀ (s : Shared) (v : Value), BindsTo s fd ⟨[v], []⟩ [("script", v)]) ∧ ∀ base : Heap, K.In base → base.Ns mainGlobals mg → FnOk l.prog w K mg base CX0 12 fa fd ["script"] (spD K W_law) := by
  have e := hfa.symm.trans (PySem.W.mg_of X G al)
  cases e
  have F := fun_mk (st := st_law) ll cl kl
  have T : Chg K mg C := ⟨⟨pg, hd, po, sa⟩, n1, n2, n3, n4, n5, n6, PySem.W.mg_of X G aC⟩
  have m : ∀ {x : Str}, PySem.W.nsIn K mainGlobals x = some none → mg x = none := fun z => PySem.W.mg_none_of X G z
  refine ⟨PySem.W.fnOf "law" "law" (defArgs st_law) (defBody st_law) (defScope st_law) .none kV dc pm an cd ct, fun s v => .of_eq rfl, fun base _ _ => ?_⟩
  have h1 := ok_mix (Pg := l.prog) (w := w) (base := base) d1 (m z1)
  have h2 := ok_draws d2 (m z1) (m z2) (m z3) (m z4) h1
  have h3 := ok_at d3 (m z1) (m z2) h1
  have h4 := ok_isint (Pg := l.prog) (w := w) (base := base) d4 (m z1) (m z5) (m z6)
  have h5 := ok_same d5 (m z1) (m z5) (m z7) (m z8) (m z9) (m z2) (m z4) (m z6) h4 7
  have h6 := ok_frozen (Pg := l.prog) (w := w) (base := base) d6 (m z8) (m z9) (m z6) 6
  have h7 := ok_past (Pg := l.prog) (w := w) (base := base) d7 T (m z2)
  have h8 := ok_key (Pg := l.prog) (w := w) (base := base) d8 T (m z10)
  have h9 := ok_order d9 (m z11) h8
  have h10 := ok_rows d10 (m z4) h3
  have c1 := ok_init i1 T h6
  have c2 := ok_name (Pg := l.prog) (w := w) (base := base) i2 T
  have c3 := ok_header (Pg := l.prog) (w := w) (base := base) i3 T
  have c4 := ok_with i4 T c1
  have h11 := ok_change d11 (m z8) (m z9) c1
  have h12 := ok_kept d12 T (m z10) (m z9) h5 h8 c2 c3 c4
  have h13 := ok_first (Pg := l.prog) (w := w) (base := base) d13 (m z10)
  have h14 := ok_ispast (Pg := l.prog) (w := w) (base := base) d14 (m z2)
  have h15 := ok_asks d15 (m z2) (m z4) (m z12) (m z6) (m z5) h3 h14 h7
  exact ok_law F (m z2) (m z4) (m z8) (m z6) h2 h10 h11 h3 h12 h9 c2 h13 h15
end Law

open PySem PySem.W PyProof.Rows
set_option maxRecDepth 100000 in
set_option maxHeartbeats 0 in
theorem PySem.Challenge.cw_kithbase_k02_order_of_changes_holds : PySem.Challenge.rw_kithbase_k02_order_of_changes.Holds := by
  w_on; o_law; k_head; (case hw => w_witness2)
  k_fill
  refine Kb.walkD (l := PySem.Challenge.rw_kithbase_k02_order_of_changes) (k := 12) (W := Law.W_law) rfl rfl ⟨rfl, by decide, by decide⟩ (fun w h Y => PySem.W.kIn_of Y) (fun ns hl hb => ⟨ns, rfl, hl, hb, rfl⟩) ?F
  case F =>
    intro w mg fa h KX G hmg
    refine' Law.law_all KX G hmg ?aC ?d1 ?d2 ?d3 ?d4 ?d5 ?d6 ?d7 ?d8 ?d9 ?d10 ?d11 ?d12 ?d13 ?d14 ?d15 ?i1 ?i2 ?i3 ?i4 ?pg ?hd ?po ?sa ?n1 ?n2 ?n3 ?n4 ?n5 ?n6 ?z1 ?z2 ?z3 ?z4 ?z5 ?z6 ?z7 ?z8 ?z9 ?z10 ?z11 ?z12 ?al ?ll ?cl ?kl
    (case aC => k_is)
    (case d1 => (refine' Kb.defAt_mk KX G ?b ?a ?l ?c ?k; (case b => exact fun _ _ _ _ _ _ us hl => match us, hl with | [_, _], _ => rfl); (case a => k_is); (case l => k_is); (case c => k_is); (case k => k_is)))
    (case d2 => (refine' Kb.defAt_mk KX G ?b ?a ?l ?c ?k; (case b => exact fun _ _ _ _ _ _ us hl => match us, hl with | [_], _ => rfl); (case a => k_is); (case l => k_is); (case c => k_is); (case k => k_is)))
    (case d3 => (refine' Kb.defAt_mk KX G ?b ?a ?l ?c ?k; (case b => exact fun _ _ _ _ _ _ us hl => match us, hl with | [_, _], _ => rfl); (case a => k_is); (case l => k_is); (case c => k_is); (case k => k_is)))
    (case d4 => (refine' Kb.defAt_mk KX G ?b ?a ?l ?c ?k; (case b => exact fun _ _ _ _ _ _ us hl => match us, hl with | [_], _ => rfl); (case a => k_is); (case l => k_is); (case c => k_is); (case k => k_is)))
    (case d5 => (refine' Kb.defAt_mk KX G ?b ?a ?l ?c ?k; (case b => exact fun _ _ _ _ _ _ us hl => match us, hl with | [_, _], _ => rfl); (case a => k_is); (case l => k_is); (case c => k_is); (case k => k_is)))
    (case d6 => (refine' Kb.defAt_mk KX G ?b ?a ?l ?c ?k; (case b => exact fun _ _ _ _ _ _ us hl => match us, hl with | [_], _ => rfl); (case a => k_is); (case l => k_is); (case c => k_is); (case k => k_is)))
    (case d7 => (refine' Kb.defAt_mk KX G ?b ?a ?l ?c ?k; (case b => exact fun _ _ _ _ _ _ us hl => match us, hl with | [_, _], _ => rfl); (case a => k_is); (case l => k_is); (case c => k_is); (case k => k_is)))
    (case d8 => (refine' Kb.defAt_mk KX G ?b ?a ?l ?c ?k; (case b => exact fun _ _ _ _ _ _ us hl => match us, hl with | [_], _ => rfl); (case a => k_is); (case l => k_is); (case c => k_is); (case k => k_is)))
    (case d9 => (refine' Kb.defAt_mk KX G ?b ?a ?l ?c ?k; (case b => exact fun _ _ _ _ _ _ us hl => match us, hl with | [_], _ => rfl); (case a => k_is); (case l => k_is); (case c => k_is); (case k => k_is)))
    (case d10 => (refine' Kb.defAt_mk KX G ?b ?a ?l ?c ?k; (case b => exact fun _ _ _ _ _ _ us hl => match us, hl with | [_], _ => rfl); (case a => k_is); (case l => k_is); (case c => k_is); (case k => k_is)))
    (case d11 => (refine' Kb.defAt_mk KX G ?b ?a ?l ?c ?k; (case b => exact fun _ _ _ _ _ _ us hl => match us, hl with | [_, _], _ => rfl); (case a => k_is); (case l => k_is); (case c => k_is); (case k => k_is)))
    (case d12 => (refine' Kb.defAt_mk KX G ?b ?a ?l ?c ?k; (case b => exact fun _ _ _ _ _ _ us hl => match us, hl with | [_, _], _ => rfl); (case a => k_is); (case l => k_is); (case c => k_is); (case k => k_is)))
    (case d13 => (refine' Kb.defAt_mk KX G ?b ?a ?l ?c ?k; (case b => exact fun _ _ _ _ _ _ us hl => match us, hl with | [_, _], _ => rfl); (case a => k_is); (case l => k_is); (case c => k_is); (case k => k_is)))
    (case d14 => (refine' Kb.defAt_mk KX G ?b ?a ?l ?c ?k; (case b => exact fun _ _ _ _ _ _ us hl => match us, hl with | [_, _], _ => rfl); (case a => k_is); (case l => k_is); (case c => k_is); (case k => k_is)))
    (case d15 => (refine' Kb.defAt_mk KX G ?b ?a ?l ?c ?k; (case b => exact fun _ _ _ _ _ _ us hl => match us, hl with | [_, _, _], _ => rfl); (case a => k_is); (case l => k_is); (case c => k_is); (case k => k_is)))
    (case i1 => (refine' Kb.initAt_mk ?b ?a ?i ?l ?c ?k ?mk ?kc; (case b => exact fun _ _ _ _ _ _ us hl => match us, hl with | [_, _, _, _, _, _, _], _ => rfl); (case a => k_is); (case i => k_is); (case l => k_is); (case c => k_is); (case k => k_is); (case mk => k_is); (case kc => k_is)))
    (case i2 => (refine' Kb.methAt_mk ?b ?a ?i ?l ?c ?k; (case b => exact fun _ _ _ _ _ _ us hl => match us, hl with | [_], _ => rfl); (case a => k_is); (case i => k_is); (case l => k_is); (case c => k_is); (case k => k_is)))
    (case i3 => (refine' Kb.methAt_mk ?b ?a ?i ?l ?c ?k; (case b => exact fun _ _ _ _ _ _ us hl => match us, hl with | [_], _ => rfl); (case a => k_is); (case i => k_is); (case l => k_is); (case c => k_is); (case k => k_is)))
    (case i4 => (refine' Kb.methAt_mk ?b ?a ?i ?l ?c ?k; (case b => exact fun _ _ _ _ _ _ us hl => match us, hl with | [_, _], _ => rfl); (case a => k_is); (case i => k_is); (case l => k_is); (case c => k_is); (case k => k_is)))
    (case pg => k_is); (case hd => k_is); (case po => k_is); (case sa => k_is); (case n1 => k_is); (case n2 => k_is); (case n3 => k_is); (case n4 => k_is); (case n5 => k_is); (case n6 => k_is); (case z1 => k_is); (case z2 => k_is); (case z3 => k_is); (case z4 => k_is); (case z5 => k_is); (case z6 => k_is); (case z7 => k_is); (case z8 => k_is); (case z9 => k_is); (case z10 => k_is); (case z11 => k_is); (case z12 => k_is)
    (case al => k_is); (case ll => k_is); (case cl => k_is); (case kl => k_is)

